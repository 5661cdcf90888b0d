import Derived.Test.YtnmhkgmmpkjjeaaRows
import Derived.WalkKit
import Derived.ProofKit
import Derived.OpenShut
import Derived.Below
import Derived.Deep.OwnRows
import Derived.Deep.QuietTactic
import Derived.BigQuiet
import Derived.Test.YtnmhkgmmpkjjeaaG00
import Derived.Laws.Bits64b
import Derived.Test.YtnmhkgmmpkjjeaaG01
namespace Go.Proofs.Ytnmhkgmmpkjjeaa
open Go.ChangeShapes Go.WideShapes Go.ChangeAt Go.RowKit
set_option linter.unusedVariables false

theorem info_u64 : (Try.prog.info? 61).map (fun i => (i.zero, i.size, i.bytes)) = some (some (.int .u64 0), 1, 8) := by kernel_rfl

/-- Block g is a row of words of its own. -/
def IRow (w : World) (g : Nat) (zs : List Int) : Prop := w.rowIs g 61 zs.length (fun i => .int .u64 (zs.getD i 0))
theorem IRow.cell {w : World} {g : Nat} {zs : List Int} (h : IRow w g zs) {i : Nat} (hi : i < zs.length) : w.cell? ⟨g, i, none⟩ = some (.int .u64 (zs.getD i 0)) := World.rowIs.cell h hi
theorem IRow.below {w w' : World} {g B : Nat} {zs : List Int} (h : IRow w g zs) (hb : Below B w w') (hg : g < B) : IRow w' g zs := World.rowIs.of_block h (hb.block g hg)
theorem IRow.lt {w : World} {g : Nat} {zs : List Int} (h : IRow w g zs) : g < w.heap.size := World.rowIs.lt h

theorem bDrewN {B : Nat} {a w : World} (h : Below B a w) (n : Nat) : Below B a (w.drewN n) := ⟨h.os, h.tape, h.output, h.size, h.block⟩

/-- A slice of words that can be read. -/
def Src (w : World) (v : Value) (zs : List Int) : Prop :=
  ∃ (a : Option Addr) (cap : Nat), v = .slice a zs.length cap ∧ (0 < zs.length → ∃ b o, a = some ⟨b, o, none⟩ ∧ b < w.heap.size ∧ ∀ i, i < zs.length → w.cell? ⟨b, o + i, none⟩ = some (.int .u64 (zs.getD i 0)))

end Go.Proofs.Ytnmhkgmmpkjjeaa
namespace Go.Proofs.Ytnmhkgmmpkjjeaa
open Go.ChangeShapes Go.WideShapes Go.ChangeAt Go.RowKit
set_option linter.unusedVariables false
attribute [local go_sem ↓] Go.wp_at_zero Go.wp_at_succ

def eWord : Elt Int := ⟨61, 1, fun x => [.int .u64 x], 0, by omega, fun _ => rfl⟩
theorem IRow.erow {w : World} {g base : Nat} {zs : List Int} (h : IRow w g zs) (hb : base ≤ g) (hn : zs.length ≤ 1048576) : ERow eWord w base (.slice (some ⟨g, 0, none⟩) zs.length zs.length) zs := by
  refine ERow.of_row (cap := zs.length) rfl hb h (by simp [eWord]) (Nat.le_refl _) (by unfold maxLen; omega) ?_
  intro i hi j hj
  have : j = 0 := by simp [eWord] at hj; omega
  subst this
  simp [eCell, eWord, eAt]
/-- A slice of words, cell by cell. -/
theorem eWord_form {w : World} {base : Nat} {v : Value} {zs : List Int} (h : ERow eWord w base v zs) : ∃ a cap, v = .slice a zs.length cap ∧ (0 < zs.length → ∃ g N f, a = some ⟨g, 0, none⟩ ∧ base ≤ g ∧ w.rowIs g 61 N f ∧ zs.length ≤ N ∧ ∀ i, i < zs.length → f i = .int .u64 (zs.getD i 0)) := by
  obtain ⟨a, c, e, ha⟩ := h.form
  refine ⟨a, c, e, fun h0 => ?_⟩
  obtain ⟨g, N, f, p, q, r, s, t⟩ := ha h0
  refine ⟨g, N, f, p, q, r, by simpa [eWord] using s, fun i hi => ?_⟩
  have := t i hi 0 (by decide)
  simpa [eCell, eWord, eAt] using this

def markWord (s : Int) (i _j : Nat) : Value := .int .u64 (s + i)
end Go.Proofs.Ytnmhkgmmpkjjeaa
namespace Go.Proofs.Ytnmhkgmmpkjjeaa
open Go.ChangeShapes Go.WideShapes Go.ChangeAt Go.RowKit
set_option linter.unusedVariables false

/-! The bytes of a code, and what is taken from them. -/
def BAt (w : World) (a : Option Addr) (cs : List Int) : Prop :=
  0 < cs.length → ∃ b o, a = some ⟨b, o, none⟩ ∧ b < w.heap.size ∧ ∀ i, i < cs.length → w.cell? ⟨b, o + i, none⟩ = some (.int .u8 (cs.getD i 0))
theorem BAt.below {w w' : World} {a : Option Addr} {cs : List Int} (h : BAt w a cs) (hb : Below w.heap.size w w') : BAt w' a cs := by
  intro h0
  obtain ⟨b, o, rfl, hbl, hc⟩ := h h0
  exact ⟨b, o, rfl, Nat.lt_of_lt_of_le hbl hb.size, fun i hi => (hb.cell hbl).trans (hc i hi)⟩
def Byt (cs : List Int) : Prop := cs.length ≤ 1048576 ∧ ∀ i, 0 ≤ cs.getD i 0 ∧ cs.getD i 0 < 256

def tkX (cs : List Int) (p : Nat) : Int := cs.getD (p % cs.length) 0 * 131 + cs.getD ((p * 7 + 3) % cs.length) 0 * 1117 + p * 29 + ((p / cs.length : Nat) : Int) * 53
def tkV (cs : List Int) (p : Nat) (n : Int) : Int :=
  if n < 1 ∨ cs.length = 0 then 0
  else if p < cs.length then (if 256 < n then (cs.getD p 0 * 251 + cs.getD ((p + 1) % cs.length) 0 * 7 + p) % n else cs.getD p 0 % n)
  else bits .xor .i64 (tkX cs p) (tkX cs p / 64) % n
theorem tkX_bd (cs : List Int) (p : Nat) (hc : Byt cs) (hp : p ≤ 1000000) : 0 ≤ tkX cs p ∧ tkX cs p < 1000000000 := by
  have h1 := hc.2 (p % cs.length)
  have h2 := hc.2 ((p * 7 + 3) % cs.length)
  have h3 : p / cs.length ≤ p := Nat.div_le_self _ _
  unfold tkX
  generalize p / cs.length = D at *
  omega
theorem xor_bd (x y : Int) (hx : 0 ≤ x) (hx1 : x < 1073741824) (hy : 0 ≤ y) (hy1 : y < 1073741824) : 0 ≤ bits .xor .i64 x y ∧ bits .xor .i64 x y < 1073741824 := by
  obtain ⟨a, rfl⟩ := Int.eq_ofNat_of_zero_le hx
  obtain ⟨b, rfl⟩ := Int.eq_ofNat_of_zero_le hy
  have hz : a ^^^ b < 2 ^ 30 := Nat.xor_lt_two_pow (by omega) (by omega)
  have h1 : (BitVec.ofInt 64 (a : Int)).toNat = a := by
    rw [BitVec.ofInt_natCast, BitVec.toNat_ofNat]; exact Nat.mod_eq_of_lt (by omega)
  have h2 : (BitVec.ofInt 64 (b : Int)).toNat = b := by
    rw [BitVec.ofInt_natCast, BitVec.toNat_ofNat]; exact Nat.mod_eq_of_lt (by omega)
  have e : bits .xor .i64 (a : Int) (b : Int) = ((a ^^^ b : Nat) : Int) := by
    show IntKind.i64.wrap ((BitVec.ofInt 64 (a : Int) ^^^ BitVec.ofInt 64 (b : Int)).toNat : Int) = _
    rw [BitVec.toNat_xor, h1, h2, IntKind.wrap_i64]
    omega
  rw [e]
  omega
theorem tkV_bd (cs : List Int) (p : Nat) (n : Int) (hn : 1 ≤ n) (hc : Byt cs) (hp : p ≤ 1000000) : 0 ≤ tkV cs p n ∧ tkV cs p n < n := by
  have hm : ∀ x : Int, 0 ≤ x % n ∧ x % n < n := fun x => ⟨Int.emod_nonneg _ (by omega), Int.emod_lt_of_pos _ (by omega)⟩
  unfold tkV
  split
  · omega
  · split
    · split
      · exact hm _
      · exact hm _
    · exact hm _

set_option maxHeartbeats 1000000 in
theorem take_any (a : Option Addr) (cap : Nat) (cs : List Int) (p : Nat) (n : Int) (w : World) (hc : Byt cs) (hp : p ≤ 1000000) (hn : n ≤ 1000000) (hs : BAt w a cs) :
    Calls Try.prog 37 #[.slice a cs.length cap, .int .i64 (p : Int), .int .i64 n] w fun e w' => e = .returned (.tuple #[.int .i64 (tkV cs p n), .int .i64 ((p : Int) + 1)]) ∧ Below w.heap.size w w' := by
  have hl := hc.1
  unfold tkV
  by_cases h1 : n < 1
  · rw [if_pos (.inl h1)]
    clear hs hc
    go_enter Try.func37, Try.ntmps37
    go_wp2
    go_ret2
    exact ⟨rfl, Below.refl _ _⟩
  · by_cases h2 : cs.length = 0
    · rw [if_pos (.inr h2)]
      rw [h2]
      clear hs hc h2
      go_enter Try.func37, Try.ntmps37
      go_wp2
      go_ret2
      exact ⟨rfl, Below.refl _ _⟩
    · rw [if_neg (by omega)]
      obtain ⟨b, o, rfl, hbl, hcell⟩ := hs (by omega)
      clear hs
      have L0 : ((cs.length : Int) == 0) = false := beq_eq_false_iff_ne.2 (by omega)
      have N0 : (n == 0) = false := by simp; omega
      by_cases h3 : p < cs.length
      · rw [if_pos h3]
        have c0 := hcell p h3
        have g0 := hc.2 p
        have L1 : (0 : Int) ≤ (p : Int) := by omega
        have L2 : (p : Int) < (cs.length : Int) := by omega
        by_cases h4 : 256 < n
        · rw [if_pos h4]
          have j0 : (p + 1) % cs.length < cs.length := Nat.mod_lt _ (by omega)
          have c1 := hcell _ j0
          have g1 := hc.2 ((p + 1) % cs.length)
          have E1 : ((p : Int) + 1).tmod (cs.length : Int) = (((p + 1) % cs.length : Nat) : Int) := by
            rw [Int.tmod_eq_emod_of_nonneg (by omega)]; simp
          generalize (p + 1) % cs.length = J at *
          generalize cs.getD p 0 = X at *
          generalize cs.getD J 0 = Y at *
          have J1 : (0 : Int) ≤ (J : Int) := by omega
          have J2 : (J : Int) < (cs.length : Int) := by omega
          have E2 : (X * 251 + Y * 7 + (p : Int)).tmod n = (X * 251 + Y * 7 + (p : Int)) % n := Int.tmod_eq_emod_of_nonneg (by omega)
          clear hcell hc h2
          go_enter Try.func37, Try.ntmps37
          go_wp2
          go_quiet (fail)
          go_wp2
          go_ret2
          exact ⟨rfl, bDrewN (Below.refl _ _) _⟩
        · rw [if_neg h4]
          generalize cs.getD p 0 = X at *
          have E2 : X.tmod n = X % n := Int.tmod_eq_emod_of_nonneg (by omega)
          clear hcell hc h2
          go_enter Try.func37, Try.ntmps37
          go_wp2
          go_ret2
          exact ⟨rfl, Below.refl _ _⟩
      · rw [if_neg h3]
        have hX := tkX_bd cs p hc hp
        have i0 : p % cs.length < cs.length := Nat.mod_lt _ (by omega)
        have j0 : (p * 7 + 3) % cs.length < cs.length := Nat.mod_lt _ (by omega)
        have c0 := hcell _ i0
        have c1 := hcell _ j0
        have g0 := hc.2 (p % cs.length)
        have g1 := hc.2 ((p * 7 + 3) % cs.length)
        have q0 : p / cs.length ≤ p := Nat.div_le_self _ _
        have E1 : (p : Int).tmod (cs.length : Int) = ((p % cs.length : Nat) : Int) := by
          rw [Int.tmod_eq_emod_of_nonneg (by omega)]; simp
        have E2 : ((p : Int) * 7 + 3).tmod (cs.length : Int) = (((p * 7 + 3) % cs.length : Nat) : Int) := by
          rw [Int.tmod_eq_emod_of_nonneg (by omega)]; simp
        have E3 : (p : Int).tdiv (cs.length : Int) = ((p / cs.length : Nat) : Int) := by
          rw [Int.tdiv_eq_ediv_of_nonneg (by omega)]; simp
        have eX : tkX cs p = cs.getD (p % cs.length) 0 * 131 + cs.getD ((p * 7 + 3) % cs.length) 0 * 1117 + p * 29 + ((p / cs.length : Nat) : Int) * 53 := rfl
        have hxb := xor_bd (tkX cs p) (tkX cs p / 64) hX.1 (by omega) (by omega) (by omega)
        generalize p % cs.length = I at *
        generalize (p * 7 + 3) % cs.length = J at *
        generalize p / cs.length = D at *
        generalize cs.getD I 0 = X at *
        generalize cs.getD J 0 = Y at *
        generalize tkX cs p = Z at *
        have I1 : (0 : Int) ≤ (I : Int) := by omega
        have I2 : (I : Int) < (cs.length : Int) := by omega
        have J1 : (0 : Int) ≤ (J : Int) := by omega
        have J2 : (J : Int) < (cs.length : Int) := by omega
        have P1 : ¬ (p : Int) < (cs.length : Int) := by omega
        have e4 : X * 131 + Y * 1117 + (p : Int) * 29 + (D : Int) * 53 = Z := eX.symm
        have E5 : Z.tdiv 64 = Z / 64 := Int.tdiv_eq_ediv_of_nonneg (by omega)
        have E6 : (bits .xor .i64 Z (Z / 64)).tmod n = bits .xor .i64 Z (Z / 64) % n := Int.tmod_eq_emod_of_nonneg (by omega)
        clear hcell hc h2 eX
        go_enter Try.func37, Try.ntmps37
        go_wp2
        go_ret2
        exact ⟨rfl, Below.refl _ _⟩

theorem size_any (a : Option Addr) (cap : Nat) (cs : List Int) (per lo hi : Int) (w : World) (hl : cs.length ≤ 1048576) (hp : 1 ≤ per) (hlo : 0 ≤ lo) (hlo1 : lo ≤ 100000) :
    Calls Try.prog 138 #[.slice a cs.length cap, .int .i64 per, .int .i64 lo, .int .i64 hi] w fun e w' => e = .returned (.int .i64 (if hi < lo + (cs.length : Int) / per then hi else lo + (cs.length : Int) / per)) ∧ Below w.heap.size w w' := by
  have N0 : (per == 0) = false := by simp; omega
  have E1 : (cs.length : Int).tdiv per = (cs.length : Int) / per := Int.tdiv_eq_ediv_of_nonneg (by omega)
  have B0 : 0 ≤ (cs.length : Int) / per := Int.ediv_nonneg (by omega) (by omega)
  have B1 : (cs.length : Int) / per ≤ (cs.length : Int) := Int.ediv_le_self _ (by omega)
  generalize (cs.length : Int) / per = D at *
  by_cases h : hi < lo + D
  · rw [if_pos h]
    go_enter Try.func138, Try.ntmps138
    go_wp2
    go_ret
    exact ⟨rfl, Below.refl _ _⟩
  · rw [if_neg h]
    go_enter Try.func138, Try.ntmps138
    go_wp2
    go_ret
    exact ⟨rfl, Below.refl _ _⟩
end Go.Proofs.Ytnmhkgmmpkjjeaa
namespace Go.Proofs.Ytnmhkgmmpkjjeaa
open Go.ChangeShapes Go.WideShapes Go.ChangeAt Go.RowKit
set_option linter.unusedVariables false
set_option maxRecDepth 100000
attribute [local go_sem] bs_size bs_cAt bs_app bs_mk bs_cut bs_list

/-! A number in digits. -/
def digs : Txt := [48, 49, 50, 51, 52, 53, 54, 55, 56, 57]
def showL (n : Nat) : Txt := if n < 10 then cutL digs n (n + 1) else showL (n / 10) ++ cutL digs (n % 10) (n % 10 + 1)
theorem showL_len (n : Nat) : (showL n).length ≤ n + 1 := by
  induction n using Nat.strongRecOn with
  | _ n ih =>
    unfold showL
    have hc : ∀ i, (cutL digs i (i + 1)).length ≤ 1 := fun i => by
      unfold cutL
      rw [List.length_drop, List.length_take]
      omega
    split
    · have := hc n; omega
    · have := ih (n / 10) (by omega)
      have := hc (n % 10)
      rw [List.length_append]
      omega
set_option maxHeartbeats 1000000 in
theorem l4Show_any (n : Nat) (hn : n ≤ 1000000000) : ∀ w, Calls Try.prog 54 #[.int .i64 (n : Int)] w fun e w' => e = .returned (.string (bs (showL n))) ∧ Below w.heap.size w w' := by
  induction n using Nat.strongRecOn with
  | _ n ih =>
    intro w
    have hlen : digs.length = 10 := rfl
    by_cases h : n < 10
    · have e : showL n = cutL digs n (n + 1) := by unfold showL; rw [if_pos h]
      rw [e]
      have h' : (n : Int) < 10 := by omega
      have L0 : (0 : Int) ≤ (n : Int) := by omega
      have L1 : (n : Int) ≤ (n : Int) + 1 := by omega
      have L2 : (n : Int) + 1 ≤ 10 := by omega
      have HD : Hid (digs = [48, 49, 50, 51, 52, 53, 54, 55, 56, 57]) := hidP rfl
      clear ih e
      go_enter Try.func54, Try.ntmps54
      go_wp2_with fail
      go_ret
      refine ⟨?_, Below.refl _ _⟩
      first | rfl | (rw [HD.out]; rfl)
    · have e : showL n = showL (n / 10) ++ cutL digs (n % 10) (n % 10 + 1) := by conv => lhs; unfold showL; rw [if_neg h]
      rw [e]
      have h' : ¬ (n : Int) < 10 := by omega
      have hi := ih (n / 10) (by omega) (by omega)
      obtain ⟨Q, hQ⟩ : ∃ Q, n / 10 = Q := ⟨_, rfl⟩
      obtain ⟨R, hR⟩ : ∃ R, n % 10 = R := ⟨_, rfl⟩
      have E1 : (n : Int).tdiv 10 = (Q : Int) := by rw [Int.tdiv_eq_ediv_of_nonneg (by omega)]; omega
      have E1b : (n : Int) / 10 = (Q : Int) := by omega
      have E2 : (n : Int).tmod 10 = (R : Int) := by rw [Int.tmod_eq_emod_of_nonneg (by omega)]; omega
      have E2b : (n : Int) % 10 = (R : Int) := by omega
      have hR1 : R < 10 := by omega
      have hQ1 : Q ≤ 100000000 := by omega
      have L0 : (0 : Int) ≤ (R : Int) := by omega
      have L1 : (R : Int) ≤ (R : Int) + 1 := by omega
      have L2 : (R : Int) + 1 ≤ 10 := by omega
      have W1 : IntKind.i64.wrap (Q : Int) = (Q : Int) := by rw [IntKind.wrap_i64]; omega
      have W2 : IntKind.i64.wrap ((R : Int) + 1) = (R : Int) + 1 := by rw [IntKind.wrap_i64]; omega
      rw [hQ] at hi ⊢
      rw [hR]
      have hS := showL_len Q
      generalize showL Q = SQ at *
      have hC : (cutL [48, 49, 50, 51, 52, 53, 54, 55, 56, 57] R (R + 1)).length ≤ 1 := by
        unfold cutL
        rw [List.length_drop, List.length_take]
        omega
      have hcat : ¬ 9223372036854775807 < List.length SQ + List.length (cutL [48, 49, 50, 51, 52, 53, 54, 55, 56, 57] R (R + 1)) := by omega
      clear ih e hQ hR h
      go_enter Try.func54, Try.ntmps54
      go_wp2_with fail
      refine wp_region_held_drew (S := (fun _ => True)) (by kernel_rfl) trivial (fun hHeld => ?_)
      refine tk 0 ?_
      refine tk 1 ?_
      refine tk 3 ?_
      refine tk 4 ?_
      refine tk 5 ?_
      refine tk 6 ?_
      refine tk 7 ?_
      refine tk 8 ?_
      refine wpAnyH_ready (rs := [2]) (by kernel_rfl) (by simp) ?_
      refine AllReadyH.cons rfl (fun K hK => ?_) AllReadyH.nil
      go_simp
      go_at_call 54
      refine (hi _).mono ?_
      rintro e w1 ⟨rfl, hb1⟩
      have hB1 : Below w.heap.size w w1 := (Below.refl _ _).drew.trans (hb1.mono (by simp))
      go_wp2_with fail
      refine hK.out _ _ trivial (fun hHeld2 => ?_)
      clear hK K
      refine tk 9 ?_
      refine tk 10 ?_
      refine wpAnyH_done (by kernel_rfl) ?_ _
      go_wp2_with fail
      go_ret
      refine ⟨?_, hB1⟩
      first | rfl | simp [digs]
end Go.Proofs.Ytnmhkgmmpkjjeaa
