import Derived.Test.YtnmhkgmmpkjjeaaG32
import Derived.Test.YtnmhkgmmpkjjeaaG35
namespace Go.Proofs.Ytnmhkgmmpkjjeaa
open Go.ChangeShapes Go.WideShapes Go.ChangeAt Go.RowKit
set_option linter.unusedVariables false
set_option maxRecDepth 100000
attribute [local go_sem ↓] Go.wp_at_zero Go.wp_at_succ

/-! The law's own helpers. -/
def pick (cs : List Int) (i : Nat) : Int := if cs.length = 0 then i else cs.getD (i % cs.length) 0
theorem pick_bd (cs : List Int) (i : Nat) (hc : Byt cs) (hi : i ≤ 1000) : 0 ≤ pick cs i ∧ pick cs i ≤ 1000 := by
  unfold pick
  have := hc.2 (i % cs.length)
  split <;> omega
theorem pick_any (a : Option Addr) (cap : Nat) (cs : List Int) (i : Nat) (w : World) (hc : Byt cs) (hi : i ≤ 1000) (hs : BAt w a cs) :
    Calls Try.prog 11 #[.slice a cs.length cap, .int .i64 (i : Int)] w fun e w' => e = .returned (.int .i64 (pick cs i)) ∧ Below w.heap.size w w' := by
  have hl := hc.1
  unfold pick
  by_cases h0 : cs.length = 0
  · rw [if_pos h0, h0]
    clear hs hc h0
    go_enter Try.func11, Try.ntmps11
    go_wp2
    go_ret
    exact ⟨rfl, Below.refl _ _⟩
  · rw [if_neg h0]
    obtain ⟨b, o, rfl, hbl, hcell⟩ := hs (by omega)
    have j0 : i % cs.length < cs.length := Nat.mod_lt _ (by omega)
    have c1 := hcell _ j0
    have g1 := hc.2 (i % cs.length)
    have L0 : ((cs.length : Int) == 0) = false := beq_eq_false_iff_ne.2 (by omega)
    have E1 : (i : Int).tmod (cs.length : Int) = ((i % cs.length : Nat) : Int) := by
      rw [Int.tmod_eq_emod_of_nonneg (by omega)]; simp
    generalize i % cs.length = J at *
    generalize cs.getD J 0 = X at *
    have J1 : (0 : Int) ≤ (J : Int) := by omega
    have J2 : (J : Int) < (cs.length : Int) := by omega
    clear hs hc hcell h0
    go_enter Try.func11, Try.ntmps11
    go_wp2
    go_ret
    exact ⟨rfl, Below.refl _ _⟩
theorem sameSeen_any (s : SeenR) (w : World) : Calls Try.prog 51 #[seenV s, seenV s] w fun e w' => e = .returned (.bool true) ∧ Below w.heap.size w w' := by
  unfold seenV
  go_enter Try.func51, Try.ntmps51
  go_wp2
  go_ret
  exact ⟨rfl, ((Below.refl _ _).alloc (Nat.le_refl _) _).alloc (by simp) _⟩
def saysH (page need : Int) (h : HitR) : SeenR := if h.kind = 1 then lookS page need h.out h.perm else ⟨page, need, 0, 0⟩
theorem says_any (h : HitR) (page need : Int) (w : World) (hp0 : 0 ≤ h.perm) (hp1 : h.perm ≤ 7) (hn : need = 1 ∨ need = 2 ∨ need = 4) :
    Calls Try.prog 52 #[hitV h, .int .i64 page, .int .i64 need] w fun e w' => e = .returned (seenV (saysH page need h)) ∧ Below w.heap.size w w' := by
  obtain ⟨K, O, P, Z⟩ := h
  dsimp only at hp0 hp1
  unfold saysH hitV seenV lookS
  dsimp only
  by_cases hk : K = 1
  · subst hk
    rw [if_pos rfl]
    have E1 : P.tdiv need = P / need := Int.tdiv_eq_ediv_of_nonneg hp0
    have E0 : (need == 0) = false := beq_eq_false_iff_ne.2 (by omega)
    obtain ⟨Q, hQ⟩ : ∃ Q, P / need = Q := ⟨_, rfl⟩
    have hQ0 : 0 ≤ Q ∧ Q ≤ 7 := by rcases hn with rfl | rfl | rfl <;> omega
    rw [hQ] at E1 ⊢
    have E2 : Q.tmod 2 = Q % 2 := Int.tmod_eq_emod_of_nonneg hQ0.1
    have N0 : ¬ need = 0 := by omega
    clear hQ hn
    by_cases h1 : Q % 2 = 1
    · rw [if_pos h1]
      have h1b : (Q % 2 == 1) = true := by simpa using h1
      dsimp only
      go_enter Try.func52, Try.ntmps52
      go_wp2
      exact bodyPost_ret (v := .agg #[.int .i64 page, .int .i64 need, .int .i64 1, .int .i64 O]) (by simp [results, Try.results52, go_sem]) rfl ⟨rfl, by first | exact ((Below.refl _ _).alloc (Nat.le_refl _) _).alloc (by simp) _ | exact ((((((Below.refl _ _).alloc (Nat.le_refl _) _).alloc (by simp) _).setCell (by simp) _).setCell (by simp) _).setCell (by simp) _).setCell (by simp) _⟩
    · rw [if_neg h1]
      have h1b : (Q % 2 == 1) = false := by simpa using h1
      dsimp only
      go_enter Try.func52, Try.ntmps52
      go_wp2
      exact bodyPost_ret (v := .agg #[.int .i64 page, .int .i64 need, .int .i64 2, .int .i64 0]) (by simp [results, Try.results52, go_sem]) rfl ⟨rfl, by first | exact ((Below.refl _ _).alloc (Nat.le_refl _) _).alloc (by simp) _ | exact ((((((Below.refl _ _).alloc (Nat.le_refl _) _).alloc (by simp) _).setCell (by simp) _).setCell (by simp) _).setCell (by simp) _).setCell (by simp) _⟩
  · rw [if_neg hk]
    have hkb : (K != 1) = true := by simpa using hk
    dsimp only
    go_enter Try.func52, Try.ntmps52
    go_wp2
    exact bodyPost_ret (v := .agg #[.int .i64 page, .int .i64 need, .int .i64 0, .int .i64 0]) (by simp [results, Try.results52, go_sem]) rfl ⟨rfl, by first | exact ((Below.refl _ _).alloc (Nat.le_refl _) _).alloc (by simp) _ | exact ((((((Below.refl _ _).alloc (Nat.le_refl _) _).alloc (by simp) _).setCell (by simp) _).setCell (by simp) _).setCell (by simp) _).setCell (by simp) _⟩

theorem hit_says (page need : Int) (h : HitR) (hk : h.kind = 0 ∨ h.kind = 1 ∨ h.kind = 3) (h3 : h.kind ≠ 3) : seenH page need h = saysH page need h := by
  unfold seenH saysH
  split
  · rfl
  · have : h.kind = 0 := by omega
    rw [this]
set_option maxHeartbeats 1000000 in
theorem sees_any (h : HitR) (page need : Int) (w : World) (hk : h.kind = 0 ∨ h.kind = 1 ∨ h.kind = 3) (hp0 : 0 ≤ h.perm) (hp1 : h.perm ≤ 7) (hn : need = 1 ∨ need = 2 ∨ need = 4) :
    Calls Try.prog 15 #[hitV h, .int .i64 page, .int .i64 need, seenV (seenH page need h)] w fun e w' => e = .returned (.bool true) ∧ Below w.heap.size w w' := by
  by_cases h3 : h.kind = 3
  · have e : seenH page need h = ⟨page, need, 3, 0⟩ := by unfold seenH; rw [if_neg (by omega), h3]
    rw [e]
    have hs := sameSeen_any ⟨page, need, 3, 0⟩
    obtain ⟨K, O, P, Z⟩ := h
    dsimp only at h3
    subst h3
    unfold hitV
    unfold seenV at hs ⊢
    dsimp only at hs ⊢
    clear hk hp0 hp1 hn e
    go_enter Try.func15, Try.ntmps15
    go_wp2_with fail
    refine (hs _).mono ?_
    rintro e w1 ⟨rfl, hb1⟩
    go_wp2_with fail
    go_ret
    exact ⟨rfl, (((Below.refl _ _).alloc (Nat.le_refl _) _).alloc (by simp) _).trans (hb1.mono (by simp; omega))⟩
  · rw [hit_says page need h hk h3]
    have hsy := fun wX => says_any h page need wX hp0 hp1 hn
    have hs := sameSeen_any (saysH page need h)
    generalize saysH page need h = SH at *
    obtain ⟨S0, S1, S2, S3⟩ := SH
    obtain ⟨K, O, P, Z⟩ := h
    dsimp only at h3
    have h3b : (K == 3) = false := by simpa using h3
    unfold hitV seenV at *
    dsimp only at *
    obtain ⟨wb, hwb⟩ : ∃ wb, wb = (w.alloc (.cells #[.int .i64 K, .int .i64 O, .int .i64 P, .int .i64 Z] 32)).alloc (.cells #[.int .i64 S0, .int .i64 S1, .int .i64 S2, .int .i64 S3] 41) := ⟨_, rfl⟩
    have hbb : Below w.heap.size w wb := by rw [hwb]; exact ((Below.refl _ _).alloc (Nat.le_refl _) _).alloc (by simp) _
    have hzb : wb.heap.size = w.heap.size + 2 := by rw [hwb]; simp
    have HKK : Hid (∀ wX, Below wb.heap.size wb wX → wX.cell? ⟨w.heap.size, 0, none⟩ = some (.int .i64 K) ∧ wX.cell? ⟨w.heap.size, 1, none⟩ = some (.int .i64 O) ∧ wX.cell? ⟨w.heap.size, 2, none⟩ = some (.int .i64 P) ∧ wX.cell? ⟨w.heap.size, 3, none⟩ = some (.int .i64 Z) ∧ wX.cell? ⟨w.heap.size + 1, 0, none⟩ = some (.int .i64 S0) ∧ wX.cell? ⟨w.heap.size + 1, 1, none⟩ = some (.int .i64 S1) ∧ wX.cell? ⟨w.heap.size + 1, 2, none⟩ = some (.int .i64 S2) ∧ wX.cell? ⟨w.heap.size + 1, 3, none⟩ = some (.int .i64 S3)) := fun wX hX => by
      refine ⟨?_, ?_, ?_, ?_, ?_, ?_, ?_, ?_⟩
      iterate 8 (exact (hX.cell (by simp; omega)).trans (by rw [hwb]; simp [go_sem]))
    have HWB : Hid (wb = _) := hwb
    have HBB : Hid (Below _ w wb) := hbb
    have HZB : Hid (wb.heap.size = w.heap.size + 2) := hzb
    clear hk hp0 hp1 hn hwb hbb hzb
    go_enter Try.func15, Try.ntmps15
    go_wp2_with fail
    rw [← HWB.out]
    refine wp_region_held_drew (S := (fun wX => wX.cell? ⟨w.heap.size, 0, none⟩ = some (.int .i64 K) ∧ wX.cell? ⟨w.heap.size, 1, none⟩ = some (.int .i64 O) ∧ wX.cell? ⟨w.heap.size, 2, none⟩ = some (.int .i64 P) ∧ wX.cell? ⟨w.heap.size, 3, none⟩ = some (.int .i64 Z) ∧ wX.cell? ⟨w.heap.size + 1, 0, none⟩ = some (.int .i64 S0) ∧ wX.cell? ⟨w.heap.size + 1, 1, none⟩ = some (.int .i64 S1) ∧ wX.cell? ⟨w.heap.size + 1, 2, none⟩ = some (.int .i64 S2) ∧ wX.cell? ⟨w.heap.size + 1, 3, none⟩ = some (.int .i64 S3))) (by kernel_rfl) (HKK.out _ (Below.refl _ _).drew) (fun hHeld => ?_)
    refine tk 0 ?_
    refine tk 1 ?_
    refine tk 2 ?_
    refine tk 3 ?_
    refine wpAnyH_ready (rs := [4]) (by kernel_rfl) (by simp) ?_
    refine AllReadyH.cons rfl (fun K hK => ?_) AllReadyH.nil
    go_simp
    go_at_call 52
    refine (hsy _).mono ?_
    rintro e w1 ⟨rfl, hb1⟩
    have hB1 : Below wb.heap.size wb w1 := (Below.refl _ _).drew.trans (hb1.mono (by simp))
    go_wp2_with fail
    refine hK.out _ _ (HKK.out _ hB1) (fun hHeld2 => ?_)
    clear hK K
    refine wpAnyH_ready (rs := [5]) (by kernel_rfl) (by simp) ?_
    refine AllReadyH.cons rfl (fun K hK => ?_) AllReadyH.nil
    go_simp
    go_at_call 51
    refine (hs _).mono ?_
    rintro e w2 ⟨rfl, hb2⟩
    have hB2 : Below wb.heap.size wb w2 := hB1.trans (hb2.mono hB1.size)
    go_wp2_with fail
    refine hK.out _ _ (HKK.out _ hB2) (fun hHeld3 => ?_)
    clear hK K
    refine tk 6 ?_
    refine wpAnyH_done (by kernel_rfl) ?_ _
    go_wp2_with fail
    go_ret
    exact ⟨rfl, HBB.out.trans (hB2.mono (by have := HZB.out; omega))⟩
end Go.Proofs.Ytnmhkgmmpkjjeaa
