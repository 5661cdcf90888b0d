import Derived.Test.YtnmhkgmmpkjjeabSCopyM
import Derived.Test.YtnmhkgmmpkjjeabPlc
import Derived.Test.YtnmhkgmmpkjjeabSPlc
namespace Go.Proofs.Ytnmhkgmmpkjjeab
open Go.ChangeShapes Go.WideShapes Go.ChangeAt Go.RowKit
set_option linter.unusedVariables false

def pageOk (p : Int) : Bool := decide (0 ≤ p) && decide (p < 4096)
def choiceOk (c : Int) : Bool := decide (0 ≤ c) && decide (c ≤ 65535)
def bitI (c : Int) (b : Nat) : Bool := decide (c / 2 ^ b % 2 = 1)
def idx (page level : Int) : Int := if level = 1 then page / 256 else if level = 2 then page / 16 % 16 else page % 16

theorem pageOk_any (p : Int) (w : World) :
    Calls Try.prog 60 #[.int .i64 p] w fun e w' => e = .returned (.bool (pageOk p)) ∧ w' = w := by
  unfold pageOk
  by_cases h : 0 ≤ p
  · have h' : decide (0 ≤ p) = true := by simpa using h
    rw [h']
    by_cases k : p < 4096
    · have k' : decide (p < 4096) = true := by simpa using k
      rw [k']
      go_enter Try.func60, Try.ntmps60
      go_wp2
      go_ret
      exact ⟨rfl, rfl⟩
    · have k' : decide (p < 4096) = false := by simpa using k
      rw [k']
      go_enter Try.func60, Try.ntmps60
      go_wp2
      go_ret
      exact ⟨rfl, rfl⟩
  · have h' : decide (0 ≤ p) = false := by simpa using h
    rw [h']
    go_enter Try.func60, Try.ntmps60
    go_wp2
    go_ret
    exact ⟨rfl, rfl⟩
theorem choiceOk_any (p : Int) (w : World) :
    Calls Try.prog 68 #[.int .i64 p] w fun e w' => e = .returned (.bool (choiceOk p)) ∧ w' = w := by
  unfold choiceOk
  by_cases h : 0 ≤ p
  · have h' : decide (0 ≤ p) = true := by simpa using h
    rw [h']
    by_cases k : p ≤ 65535
    · have k' : decide (p ≤ 65535) = true := by simpa using k
      rw [k']
      go_enter Try.func68, Try.ntmps68
      go_wp2
      go_ret
      exact ⟨rfl, rfl⟩
    · have k' : decide (p ≤ 65535) = false := by simpa using k
      rw [k']
      go_enter Try.func68, Try.ntmps68
      go_wp2
      go_ret
      exact ⟨rfl, rfl⟩
  · have h' : decide (0 ≤ p) = false := by simpa using h
    rw [h']
    go_enter Try.func68, Try.ntmps68
    go_wp2
    go_ret
    exact ⟨rfl, rfl⟩

theorem choiceBit_any (c : Int) (b : Nat) (hc0 : 0 ≤ c) (hc1 : c ≤ 65535) (hb : b ≤ 100) (w : World) :
    Calls Try.prog 133 #[.int .i64 c, .int .i64 b] w fun e w' => e = .returned (.bool (bitI c b)) ∧ w' = w := by
  go_enter Try.func133, Try.ntmps133
  go_wp2
  go_loop [0, 5] (fun x i => ∃ k : Nat, k ≤ b ∧ i = .int .i64 k ∧ x = .int .i64 (c / 2 ^ k)) (fun _ i => b - (intOf i).toNat)
  case atStart => exact ⟨0, Nat.zero_le _, rfl, by simp⟩
  case round =>
    obtain ⟨k, hk, rfl, rfl⟩ := hrel
    have hp : (0 : Int) < 2 ^ k := Int.pow_pos (by omega)
    have h0 : 0 ≤ c / 2 ^ k := Int.ediv_nonneg hc0 (by omega)
    have h1 : c / 2 ^ k ≤ c := Int.ediv_le_self _ hc0
    have hst : c / 2 ^ k / 2 = c / 2 ^ (k + 1) := by
      rw [Int.ediv_ediv_of_nonneg (by omega), Int.pow_succ]
    by_cases hlt : k < b
    · have HST : Hid _ := hst
      clear hst hp
      generalize c / 2 ^ k = X at *
      go_wp2
      go_round
      case rel => exact ⟨k + 1, by omega, by go_num, by rw [← HST.out]⟩
      case measure => simp [intOf]; omega
    · have e : k = b := by omega
      subst e
      clear hst hp
      by_cases hX : c / 2 ^ k % 2 = 1
      · have hX' : (c / 2 ^ k % 2 == 1) = true := by simpa using hX
        have hv : bitI c k = true := by simpa [bitI] using hX
        have HV : Hid _ := hv
        clear hX hv
        generalize c / 2 ^ k = X at *
        go_wp2
        go_ret
        exact ⟨by rw [HV.out]; rfl, rfl⟩
      · have hX' : (c / 2 ^ k % 2 == 1) = false := by simpa using hX
        have hv : bitI c k = false := by simpa [bitI] using hX
        have HV : Hid _ := hv
        clear hX hv
        generalize c / 2 ^ k = X at *
        go_wp2
        go_ret
        exact ⟨by rw [HV.out]; rfl, rfl⟩
theorem index_any (p l : Int) (hp0 : 0 ≤ p) (hp1 : p < 4096) (w : World) :
    Calls Try.prog 119 #[.int .i64 p, .int .i64 l] w fun e w' => e = .returned (.int .i64 (idx p l)) ∧ w' = w := by
  by_cases h1 : l = 1
  · subst h1
    go_enter Try.func119, Try.ntmps119
    go_wp2
    go_ret
    exact ⟨rfl, rfl⟩
  · by_cases h2 : l = 2
    · subst h2
      go_enter Try.func119, Try.ntmps119
      go_wp2
      go_ret
      exact ⟨rfl, rfl⟩
    · have e : idx p l = p % 16 := by simp [idx, h1, h2]
      rw [e]
      have h1' : (l == 1) = false := by simpa using h1
      have h2' : (l == 2) = false := by simpa using h2
      clear e h1 h2
      go_enter Try.func119, Try.ntmps119
      go_wp2
      go_ret
      exact ⟨rfl, rfl⟩
theorem idx_bd (p l : Int) (hp0 : 0 ≤ p) (hp1 : p < 4096) : 0 ≤ idx p l ∧ idx p l < 16 := by
  unfold idx
  by_cases a : l = 1 <;> by_cases b : l = 2 <;> simp [a, b] <;> omega

/-! Entries of the two caches. -/
def tlbOkB (e : TlbE) : Bool := (decide (e.size = 1) || decide (e.size = 16)) && pageOk e.page && decide (e.page % e.size = 0) && decide (1 ≤ e.perm) && decide (e.perm ≤ 7) && decide (0 ≤ e.out) && decide (e.out < 65536) && decide (e.out % e.size = 0)
def wcOkB (n : Int) (e : WcE) : Bool := (decide (e.level = 2) || decide (e.level = 3)) && pageOk e.page && decide (e.page % cov (e.level - 1) = 0) && decide (0 ≤ e.table) && decide (e.table < n)
def sameB (a b : TlbE) : Bool := decide (a.page = b.page) && decide (a.size = b.size) && decide (a.out = b.out) && decide (a.perm = b.perm)
def tlbCov (e : TlbE) (p : Int) : Bool := decide (p - p % e.size = e.page)
def wcCov (e : WcE) (p : Int) : Bool := decide (p - p % cov (e.level - 1) = e.page)
def tlbV (e : TlbE) : Value := .agg #[.int .i64 e.page, .int .i64 e.size, .int .i64 e.out, .int .i64 e.perm, .bool e.doom]
def wcV (e : WcE) : Value := .agg #[.int .i64 e.level, .int .i64 e.page, .int .i64 e.table, .bool e.doom]

theorem sameEntry_any (a b : TlbE) (w : World) :
    Calls Try.prog 91 #[.agg #[.int .i64 a.page, .int .i64 a.size, .int .i64 a.out, .int .i64 a.perm, .bool a.doom], .agg #[.int .i64 b.page, .int .i64 b.size, .int .i64 b.out, .int .i64 b.perm, .bool b.doom]] w fun e w' => e = .returned (.bool (sameB a b)) ∧ Below w.heap.size w w' := by
  unfold sameB
  obtain ⟨a1, a2, a3, a4, a5⟩ := a
  obtain ⟨b1, b2, b3, b4, b5⟩ := b
  simp only
  by_cases h1 : a1 = b1
  · subst h1
    by_cases h2 : a2 = b2
    · subst h2
      by_cases h3 : a3 = b3
      · subst h3
        by_cases h4 : a4 = b4
        · subst h4
          simp only [decide_true, Bool.and_self]
          go_enter Try.func91, Try.ntmps91
          go_wp2
          go_ret
          exact ⟨rfl, ((Below.refl _ _).alloc (Nat.le_refl _) _).alloc (by simp) _⟩
        · have h4' : (a4 == b4) = false := by simpa using h4
          simp only [h4, decide_true, decide_false, Bool.and_self, Bool.and_false]
          clear h4
          go_enter Try.func91, Try.ntmps91
          go_wp2
          go_ret
          exact ⟨rfl, ((Below.refl _ _).alloc (Nat.le_refl _) _).alloc (by simp) _⟩
      · have h3' : (a3 == b3) = false := by simpa using h3
        simp only [h3, decide_true, decide_false, Bool.and_self, Bool.and_false, Bool.false_and]
        clear h3
        go_enter Try.func91, Try.ntmps91
        go_wp2
        go_ret
        exact ⟨rfl, ((Below.refl _ _).alloc (Nat.le_refl _) _).alloc (by simp) _⟩
    · have h2' : (a2 == b2) = false := by simpa using h2
      simp only [h2, decide_true, decide_false, Bool.and_false, Bool.false_and]
      clear h2
      go_enter Try.func91, Try.ntmps91
      go_wp2
      go_ret
      exact ⟨rfl, ((Below.refl _ _).alloc (Nat.le_refl _) _).alloc (by simp) _⟩
  · have h1' : (a1 == b1) = false := by simpa using h1
    simp only [h1, decide_false, Bool.false_and]
    clear h1
    go_enter Try.func91, Try.ntmps91
    go_wp2
    go_ret
    exact ⟨rfl, ((Below.refl _ _).alloc (Nat.le_refl _) _).alloc (by simp) _⟩

theorem tlbCov_any (e : TlbE) (p : Int) (hp0 : 0 ≤ p) (hp1 : p < 100000) (hs : e.size = 1 ∨ e.size = 16) (w : World) :
    Calls Try.prog 90 #[.agg #[.int .i64 e.page, .int .i64 e.size, .int .i64 e.out, .int .i64 e.perm, .bool e.doom], .int .i64 p] w fun r w' => r = .returned (.bool (tlbCov e p)) ∧ Below w.heap.size w w' := by
  unfold tlbCov
  obtain ⟨a1, a2, a3, a4, a5⟩ := e
  simp only at hs ⊢
  rcases hs with rfl | rfl
  · by_cases h : p - p % 1 = a1
    · have h' : (p - p % 1 == a1) = true := by simpa using h
      have h2 : p = a1 := by omega
      subst h2
      have e0 : p - p % 1 = p := by omega
      simp only [e0, decide_true]
      clear h h' e0
      go_enter Try.func90, Try.ntmps90
      go_wp2_with fail
      go_quiet (fail)
      go_wp2
      go_ret
      exact ⟨rfl, bDrewN ((Below.refl _ _).alloc (Nat.le_refl _) _) _⟩
    · have h2 : (p == a1) = false := by simp; omega
      simp only [h, decide_false]
      clear h
      go_enter Try.func90, Try.ntmps90
      go_wp2_with fail
      go_quiet (fail)
      go_wp2
      go_ret
      exact ⟨rfl, bDrewN ((Below.refl _ _).alloc (Nat.le_refl _) _) _⟩
  · by_cases h : p - p % 16 = a1
    · have h' : (p - p % 16 == a1) = true := by simpa using h
      simp only [h, decide_true]
      clear h
      go_enter Try.func90, Try.ntmps90
      go_wp2_with fail
      go_quiet (fail)
      go_wp2
      go_ret
      exact ⟨rfl, bDrewN ((Below.refl _ _).alloc (Nat.le_refl _) _) _⟩
    · have h' : (p - p % 16 == a1) = false := by simpa using h
      simp only [h, decide_false]
      clear h
      go_enter Try.func90, Try.ntmps90
      go_wp2_with fail
      go_quiet (fail)
      go_wp2
      go_ret
      exact ⟨rfl, bDrewN ((Below.refl _ _).alloc (Nat.le_refl _) _) _⟩
end Go.Proofs.Ytnmhkgmmpkjjeab
