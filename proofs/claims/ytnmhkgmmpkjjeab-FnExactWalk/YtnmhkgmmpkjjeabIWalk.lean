import Derived.Test.YtnmhkgmmpkjjeabMem
import Derived.Test.YtnmhkgmmpkjjeabUWalk
import Derived.Test.YtnmhkgmmpkjjeabSFrom
namespace Go.Proofs.Ytnmhkgmmpkjjeab
open Go.ChangeShapes Go.WideShapes Go.ChangeAt Go.RowKit
set_option linter.unusedVariables false
attribute [local go_sem ↓] Go.wp_at_zero Go.wp_at_succ

theorem walkM_bare (zs : List Int) (page : Int) : walkM (bare zs) page 0 = goM page 0 2 (bare zs) 1 0 false := by
  unfold walkM
  rw [start_off (bit0 0)]
  rfl
theorem ERow.nil {α : Type} (E : Elt α) (w : World) (b : Nat) : ERow E w b (.slice none 0 0) [] := ⟨by simp [ecells], .inl ⟨rfl, rfl⟩⟩
set_option maxHeartbeats 2000000 in
theorem implWalkE_any (g c b : Nat) (zs : List Int) (page : Int) (hlen : zs.length ≤ 1048576) (hr : ∀ i, 0 ≤ zs.getD i 0 ∧ zs.getD i 0 < 2 ^ 64) (w : World) (hg : ERow eWord w b (.slice (some ⟨g, 0, none⟩) zs.length c) zs) :
    Calls Try.prog 22 #[.agg #[.slice (some ⟨g, 0, none⟩) zs.length c], .int .i64 page] w fun e w' => e = .returned (hitV (walkZ zs page)) ∧ Below w.heap.size w w' := by
  have hvm := valid_any (some ⟨g, 0, none⟩) zs.length c (by omega)
  have hpk := validPage_any page
  unfold walkZ
  by_cases h0 : nfr zs.length = 0
  · rw [if_pos (.inl h0)]
    simp only [h0, decide_true, Bool.not_true] at hvm
    unfold hitV
    go_enter Try.func22, Try.ntmps22
    go_wp2_with (go_at_call 54; refine (hvm _).mono ?_; rintro e w1 ⟨rfl, hb1⟩; obtain ⟨hc1, hf1⟩ := bcell hb1)
    exact bodyPost_ret (v := .agg #[.int .i64 0, .int .i64 0, .int .i64 0, .int .i64 0]) (by simp [results, Try.results22, go_sem, hc1]) rfl ⟨rfl, (((((((Below.refl _ _).alloc (Nat.le_refl _) _).alloc (by simp) _).trans (hb1.mono (by simp; omega))).setCell (by simp) _).setCell (by simp) _).setCell (by simp) _).setCell (by simp) _⟩
  · simp only [h0, decide_false, Bool.not_false] at hvm
    cases hp : pageOk page
    · rw [if_pos (.inr rfl)]
      rw [hp] at hpk
      unfold hitV
      clear h0
      go_enter Try.func22, Try.ntmps22
      go_wp2_with (first | (go_at_call 54; refine (hvm _).mono ?_; rintro e w1 ⟨rfl, hb1⟩; obtain ⟨hc1, hf1⟩ := bcell hb1) | (go_at_call 62; refine (hpk _).mono ?_; rintro e wE ⟨rfl, hwE⟩; obtain rfl := hwE.symm))
      exact bodyPost_ret (v := .agg #[.int .i64 0, .int .i64 0, .int .i64 0, .int .i64 0]) (by simp [results, Try.results22, go_sem, hc1]) rfl ⟨rfl, (((((((Below.refl _ _).alloc (Nat.le_refl _) _).alloc (by simp) _).trans (hb1.mono (by simp; omega))).setCell (by simp) _).setCell (by simp) _).setCell (by simp) _).setCell (by simp) _⟩
    · rw [if_neg (by simp [h0])]
      rw [hp] at hpk
      have hpp : 0 ≤ page ∧ page < 4096 := by simpa [pageOk] using hp
      have hn := nfr_mul zs.length h0
      have hgl := (hg.own g rfl).2
      have hrow := hg.rebase (Nat.zero_le b)
      obtain ⟨R, hR⟩ : ∃ R, R = (goM page 0 2 (bare zs) 1 0 false).2 := ⟨_, rfl⟩
      rw [← hR]
      have HWK : Hid (∀ (wX : World) (gu : Nat), Below w.heap.size w wX → w.heap.size ≤ gu → gu < wX.heap.size → wX.cell? ⟨gu, 0, none⟩ = some (.slice (some ⟨g, 0, none⟩) zs.length c) → wX.cell? ⟨gu, 1, none⟩ = some (.slice none 0 0) → wX.cell? ⟨gu, 2, none⟩ = some (.slice none 0 0) → wX.cell? ⟨gu, 3, none⟩ = some (.slice none 0 0) → wX.cell? ⟨gu, 4, none⟩ = some (.slice none 0 0) → wX.frozen? ⟨gu, 2, none⟩ = false → wX.frozen? ⟨gu, 3, none⟩ = false → wX.frozen? ⟨gu, 4, none⟩ = false →
          Calls Try.prog 63 #[.pointer (some ⟨gu, 0, none⟩), .int .i64 page, .int .i64 0] wX fun r w' => r = .returned (hitV R) ∧ Touch (fun k => k = gu) wX w') := by
        intro wX gu hX hgu hgu2 c0 c1 c2 c3 c4 f2 f3 f4
        have hum : UM wX gu 0 0 false ⟨some ⟨g, 0, none⟩, c, none, 0, 0, none, 0, none, 0, none, 0⟩ (bare zs) := by
          refine ⟨hgu2, c0, c1, c2, c3, c4, f2, f3, f4, hrow.below hX, fun h => by (cases h), ERow.nil _ _ _, ERow.nil _ _ _, ERow.nil _ _ _, ?_, fun k hk => by (cases hk)⟩
          refine ⟨?_, ?_, ?_, ?_, ?_, ?_, ?_, ?_, ?_, ?_, ?_, ?_⟩
          · intro e
            have : g = gu := by simpa [UV.o1, oOf, Value.ownBlock] using e
            omega
          all_goals (intro k; first | (intro h; cases h) | (cases k))
        have hwk := walk_any gu 0 0 false _ (bare zs) page 0 wX hpp.1 hpp.2 (by omega) (by omega) ⟨h0, hr, fun i => by simp [bare, eAt, eWrite], by simp [bare], by simp [bare], by simp [bare]⟩ (Nat.zero_le _) (fun i hi => by simp [bare] at hi)
          (by rw [start_off (bit0 0)]; exact ⟨by decide, by decide, by decide, by show (0 : Int) < nfr zs.length; omega⟩) (.inr (fun l _ _ => bit0 l)) (fun h => by cases h) hum
        refine hwk.mono ?_
        rintro r w' ⟨rfl, u', hst⟩
        rw [walkM_bare, ← hR]
        refine ⟨rfl, hst.tch.os, hst.tch.tape, hst.tch.output, hst.tch.size, fun k hk hn' => hst.tch.block k hk ?_⟩
        rintro (e | e | e)
        · exact hn' e
        · cases e
        · cases e
      clear h0 hp hg hR hrow hr hn
      unfold hitV at *
      go_enter Try.func22, Try.ntmps22
      go_wp2_with (first | (go_at_call 54; refine (hvm _).mono ?_; rintro e w1 ⟨rfl, hb1⟩; obtain ⟨hc1, hf1⟩ := bcell hb1) | (go_at_call 62; refine (hpk _).mono ?_; rintro e wE ⟨rfl, hwE⟩; obtain rfl := hwE.symm))
      have B1 : Below w.heap.size w w1 := (((Below.refl _ _).alloc (Nat.le_refl _) _).alloc (by simp) _).trans (hb1.mono (by simp; omega))
      have s1 := hb1.size
      simp at s1
      have r1 : ∀ i, i < 4 → w1.cell? ⟨w.heap.size + 1, i, none⟩ = some (.int .i64 0) := fun i hi => by
        rw [hc1 (w.heap.size + 1) i (by simp)]
        match i, hi with
        | 0, _ => simp [go_sem]
        | 1, _ => simp [go_sem]
        | 2, _ => simp [go_sem]
        | 3, _ => simp [go_sem]
        | i + 4, h => omega
      have g1 : ∀ i, w1.frozen? ⟨w.heap.size + 1, i, none⟩ = false := fun i => by
        rw [hf1 (w.heap.size + 1) i (by simp)]
        simp [go_sem]
      refine (HWK.out _ w1.heap.size (B1.alloc (by omega) _) (by omega) (by simp) ?_ ?_ ?_ ?_ ?_ ?_ ?_ ?_).mono ?_
      iterate 5 (simp [go_sem])
      iterate 3 (simp [go_sem])
      rintro e w2 ⟨rfl, ht⟩
      have s2 := ht.size
      simp at s2
      have hk2 : w2.heap[w.heap.size + 1]? = w1.heap[w.heap.size + 1]? := (ht.block (w.heap.size + 1) (by simp; omega) (by show ¬ (w.heap.size + 1 = w1.heap.size); omega)).trans (heap_alloc_old w1 _ (by omega))
      have z0 := (World.cell?_of_block (a := ⟨w.heap.size + 1, 0, none⟩) hk2).trans (r1 0 (by omega))
      have z1 := (World.cell?_of_block (a := ⟨w.heap.size + 1, 1, none⟩) hk2).trans (r1 1 (by omega))
      have z2 := (World.cell?_of_block (a := ⟨w.heap.size + 1, 2, none⟩) hk2).trans (r1 2 (by omega))
      have z3 := (World.cell?_of_block (a := ⟨w.heap.size + 1, 3, none⟩) hk2).trans (r1 3 (by omega))
      have f0 := (World.frozen?_of_block (a := ⟨w.heap.size + 1, 0, none⟩) hk2).trans (g1 0)
      have f1 := (World.frozen?_of_block (a := ⟨w.heap.size + 1, 1, none⟩) hk2).trans (g1 1)
      have f2 := (World.frozen?_of_block (a := ⟨w.heap.size + 1, 2, none⟩) hk2).trans (g1 2)
      have f3 := (World.frozen?_of_block (a := ⟨w.heap.size + 1, 3, none⟩) hk2).trans (g1 3)
      have HB2 : Hid (Below w.heap.size w w2) := Touch.below (B1.alloc (by omega) _) ht (by simp; omega) (fun k hk => by omega)
      clear ht hk2 r1 g1 hb1 hc1 hf1 B1
      go_wp2_with fail
      exact bodyPost_ret (v := .agg #[.int .i64 R.kind, .int .i64 R.out, .int .i64 R.perm, .int .i64 R.size]) (by simp [results, Try.results22, go_sem, z0, z1, z2, z3]) rfl ⟨rfl, (((HB2.out.setCell (by simp) _).setCell (by simp) _).setCell (by simp) _).setCell (by simp) _⟩
theorem implWalk_any (g : Nat) (zs : List Int) (page : Int) (hlen : zs.length ≤ 1048576) (hr : ∀ i, 0 ≤ zs.getD i 0 ∧ zs.getD i 0 < 2 ^ 64) (w : World) (hg : IRow w g zs) :
    Calls Try.prog 22 #[.agg #[.slice (some ⟨g, 0, none⟩) zs.length zs.length], .int .i64 page] w fun e w' => e = .returned (hitV (walkZ zs page)) ∧ Below w.heap.size w w' :=
  implWalkE_any g zs.length 0 zs page hlen hr w (hg.erow (Nat.zero_le _) hlen)
theorem eqHit_same (A B C D : Int) (w : World) :
    Calls Try.prog 23 #[.agg #[.int .i64 A, .int .i64 B, .int .i64 C, .int .i64 D], .agg #[.int .i64 A, .int .i64 B, .int .i64 C, .int .i64 D]] w fun e w' => e = .returned (.bool true) ∧ Below w.heap.size w w' := by
  go_enter Try.func23, Try.ntmps23
  go_wp2
  go_ret
  exact ⟨rfl, ((Below.refl _ _).alloc (Nat.le_refl _) _).alloc (by simp) _⟩
end Go.Proofs.Ytnmhkgmmpkjjeab
