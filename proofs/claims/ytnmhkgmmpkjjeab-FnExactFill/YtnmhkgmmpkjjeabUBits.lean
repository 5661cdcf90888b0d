import Derived.Test.YtnmhkgmmpkjjeabSSmall
import Derived.Test.YtnmhkgmmpkjjeabIPlc
import Derived.Laws.BitsLemmas
namespace Go.Proofs.Ytnmhkgmmpkjjeab
open Go.ChangeShapes Go.WideShapes Go.ChangeAt Go.RowKit
set_option linter.unusedVariables false
attribute [local go_sem ↓] Go.wp_at_zero Go.wp_at_succ

theorem and_i64 (a k : Nat) (ha : a < 65536) (hk : k < 16) : bits .and .i64 (a : Int) ((2 ^ k : Nat) : Int) = ((a / 2 ^ k % 2 * 2 ^ k : Nat) : Int) := by
  have hb : 2 ^ k < 2 ^ 16 := Nat.pow_lt_pow_right (by omega) hk
  have h1 : (BitVec.ofInt 64 (a : Int)).toNat = a := by
    rw [BitVec.ofInt_natCast, BitVec.toNat_ofNat]; exact Nat.mod_eq_of_lt (by omega)
  have h2 : (BitVec.ofInt 64 ((2 ^ k : Nat) : Int)).toNat = 2 ^ k := by
    rw [BitVec.ofInt_natCast, BitVec.toNat_ofNat]; exact Nat.mod_eq_of_lt (by omega)
  show IntKind.i64.wrap ((BitVec.ofInt 64 (a : Int) &&& BitVec.ofInt 64 ((2 ^ k : Nat) : Int)).toNat : Int) = _
  have h3 := nat_and_mask a k 1
  rw [show (2 ^ 1 - 1) * 2 ^ k = 2 ^ k by omega, show (2 : Nat) ^ 1 = 2 from rfl] at h3
  rw [BitVec.toNat_and, h1, h2, h3, IntKind.wrap_i64]
  rcases Nat.mod_two_eq_zero_or_one (a / 2 ^ k) with h | h <;> rw [h] <;> omega
theorem has_any (c : Int) (k : Nat) (B : Int) (hB : B = ((2 ^ k : Nat) : Int)) (hk : k < 16) (hc0 : 0 ≤ c) (hc1 : c ≤ 65535) (w : World) :
    Calls Try.prog 174 #[.int .i64 c, .int .i64 B] w fun e w' => e = .returned (.bool (bitI c k)) ∧ w' = w := by
  obtain ⟨a, rfl⟩ := Int.eq_ofNat_of_zero_le hc0
  have h := and_i64 a k (by omega) hk
  rw [← hB] at h
  have hpos : 0 < 2 ^ k := Nat.pow_pos (by omega)
  have e : ((a : Int) / 2 ^ k % 2 = 1) ↔ a / 2 ^ k % 2 = 1 := by
    rw [show (2 : Int) ^ k = ((2 ^ k : Nat) : Int) by simp]
    omega
  by_cases hb : a / 2 ^ k % 2 = 1
  · have hv : bitI a k = true := by simpa [bitI] using e.2 hb
    have hx : (bits .and .i64 (a : Int) B != 0) = true := by
      rw [h, hb, Nat.one_mul, bne_iff_ne]; intro h0; have : 2 ^ k = 0 := by exact_mod_cast h0
      omega
    rw [hv]
    clear h e hb hv hB
    go_enter Try.func174, Try.ntmps174
    go_wp2
    go_ret
    exact ⟨rfl, rfl⟩
  · have hv : bitI a k = false := by
      unfold bitI
      rw [decide_eq_false_iff_not]
      exact fun h' => hb (e.1 h')
    have hx : (bits .and .i64 (a : Int) B != 0) = false := by
      rw [h, show a / 2 ^ k % 2 = 0 by omega]; simp
    rw [hv]
    clear h e hb hv hB
    go_enter Try.func174, Try.ntmps174
    go_wp2
    go_ret
    exact ⟨rfl, rfl⟩
theorem seesLate_any (c l : Int) (hl : l = 1 ∨ l = 2 ∨ l = 3) (hc0 : 0 ≤ c) (hc1 : c ≤ 65535) (w : World) :
    Calls Try.prog 124 #[.int .i64 c, .int .i64 l] w fun e w' => e = .returned (.bool (bitI c l.toNat)) ∧ w' = w := by
  rcases hl with rfl | rfl | rfl
  · have h := has_any c 1 2 rfl (by omega) hc0 hc1
    go_enter Try.func124, Try.ntmps124
    go_wp2_with (go_at_call 174; refine (h _).mono ?_; rintro e w1 ⟨rfl, rfl⟩)
    go_ret
    exact ⟨rfl, rfl⟩
  · have h := has_any c 2 4 rfl (by omega) hc0 hc1
    go_enter Try.func124, Try.ntmps124
    go_wp2_with (go_at_call 174; refine (h _).mono ?_; rintro e w1 ⟨rfl, rfl⟩)
    go_ret
    exact ⟨rfl, rfl⟩
  · have h := has_any c 3 8 rfl (by omega) hc0 hc1
    go_enter Try.func124, Try.ntmps124
    go_wp2_with (go_at_call 174; refine (h _).mono ?_; rintro e w1 ⟨rfl, rfl⟩)
    go_ret
    exact ⟨rfl, rfl⟩
theorem keepsTable_any (c l : Int) (hl : l = 2 ∨ l = 3) (hc0 : 0 ≤ c) (hc1 : c ≤ 65535) (w : World) :
    Calls Try.prog 129 #[.int .i64 c, .int .i64 l] w fun e w' => e = .returned (.bool (bitI c (l + 2).toNat)) ∧ w' = w := by
  rcases hl with rfl | rfl
  · have h := has_any c 4 16 rfl (by omega) hc0 hc1
    go_enter Try.func129, Try.ntmps129
    go_wp2_with (go_at_call 174; refine (h _).mono ?_; rintro e w1 ⟨rfl, rfl⟩)
    go_ret
    exact ⟨rfl, rfl⟩
  · have h := has_any c 5 32 rfl (by omega) hc0 hc1
    go_enter Try.func129, Try.ntmps129
    go_wp2_with (go_at_call 174; refine (h _).mono ?_; rintro e w1 ⟨rfl, rfl⟩)
    go_ret
    exact ⟨rfl, rfl⟩
theorem validPage_any (p : Int) (w : World) :
    Calls Try.prog 62 #[.int .i64 p] w fun e w' => e = .returned (.bool (pageOk p)) ∧ w' = w := by
  unfold pageOk
  by_cases h1 : 0 ≤ p
  · have h1' : decide (0 ≤ p) = true := by simpa using h1
    by_cases h2 : p < 4096
    · have h2' : decide (p < 4096) = true := by simpa using h2
      rw [h1', h2']
      clear h1 h2
      go_enter Try.func62, Try.ntmps62
      go_wp2
      go_ret
      exact ⟨rfl, rfl⟩
    · have h2' : decide (p < 4096) = false := by simpa using h2
      rw [h1', h2']
      clear h1 h2
      go_enter Try.func62, Try.ntmps62
      go_wp2
      go_ret
      exact ⟨rfl, rfl⟩
  · have h1' : decide (0 ≤ p) = false := by simpa using h1
    rw [h1']
    clear h1
    go_enter Try.func62, Try.ntmps62
    go_wp2
    go_ret
    exact ⟨by simp, rfl⟩
theorem validChoice_any (p : Int) (w : World) :
    Calls Try.prog 75 #[.int .i64 p] w fun e w' => e = .returned (.bool (choiceOk p)) ∧ w' = w := by
  unfold choiceOk
  by_cases h1 : 0 ≤ p
  · have h1' : decide (0 ≤ p) = true := by simpa using h1
    by_cases h2 : p ≤ 65535
    · have h2' : decide (p ≤ 65535) = true := by simpa using h2
      rw [h1', h2']
      clear h1 h2
      go_enter Try.func75, Try.ntmps75
      go_wp2
      go_ret
      exact ⟨rfl, rfl⟩
    · have h2' : decide (p ≤ 65535) = false := by simpa using h2
      rw [h1', h2']
      clear h1 h2
      go_enter Try.func75, Try.ntmps75
      go_wp2
      go_ret
      exact ⟨rfl, rfl⟩
  · have h1' : decide (0 ≤ p) = false := by simpa using h1
    rw [h1']
    clear h1
    go_enter Try.func75, Try.ntmps75
    go_wp2
    go_ret
    exact ⟨by simp, rfl⟩
end Go.Proofs.Ytnmhkgmmpkjjeab
