import Derived.Test.YtnmhkgmmpkjjeaaG40
import Derived.Deep.DeepCutAuto
namespace Go.Proofs.Ytnmhkgmmpkjjeaa
open Go.ChangeShapes Go.WideShapes Go.ChangeAt Go.RowKit
set_option linter.unusedVariables false
set_option linter.unusedSimpArgs false
set_option maxRecDepth 100000
attribute [local go_sem ↓] Go.wp_at_zero Go.wp_at_succ

/-- The area in the making, in its box at w6's end. -/
structure XB (w6 wz : World) (x : ArE) : Prop where
  c0 : wz.cell? ⟨w6.heap.size, 0, none⟩ = some (.int .i64 x.page)
  c1 : wz.cell? ⟨w6.heap.size, 1, none⟩ = some (.int .i64 x.count)
  c2 : wz.cell? ⟨w6.heap.size, 2, none⟩ = some (.int .i64 x.out)
  c3 : wz.cell? ⟨w6.heap.size, 3, none⟩ = some (.int .i64 x.perm)
  c4 : wz.cell? ⟨w6.heap.size, 4, none⟩ = some (.bool x.huge)
  c5 : wz.cell? ⟨w6.heap.size, 5, none⟩ = some (.int .i64 x.same)
  c6 : wz.cell? ⟨w6.heap.size, 6, none⟩ = some (.bool x.gone)
  fz : ∀ i, i < 7 → wz.frozen? ⟨w6.heap.size, i, none⟩ = false
  bel : Below w6.heap.size w6 wz
  lt : w6.heap.size < wz.heap.size
theorem XB.drew {w6 wz : World} {x : ArE} (h : XB w6 wz x) : XB w6 wz.drew x := ⟨h.c0, h.c1, h.c2, h.c3, h.c4, h.c5, h.c6, h.fz, h.bel.drew, h.lt⟩
theorem XB.below {w6 wz w1 : World} {x : ArE} (h : XB w6 wz x) (hb : Below wz.heap.size wz w1) : XB w6 w1 x :=
  ⟨(hb.cell (p := ⟨w6.heap.size, 0, none⟩) h.lt).trans h.c0, (hb.cell (p := ⟨w6.heap.size, 1, none⟩) h.lt).trans h.c1, (hb.cell (p := ⟨w6.heap.size, 2, none⟩) h.lt).trans h.c2, (hb.cell (p := ⟨w6.heap.size, 3, none⟩) h.lt).trans h.c3, (hb.cell (p := ⟨w6.heap.size, 4, none⟩) h.lt).trans h.c4, (hb.cell (p := ⟨w6.heap.size, 5, none⟩) h.lt).trans h.c5, (hb.cell (p := ⟨w6.heap.size, 6, none⟩) h.lt).trans h.c6, fun i hi => (hb.frozen (p := ⟨w6.heap.size, i, none⟩) h.lt).trans (h.fz i hi), h.bel.trans (hb.mono h.bel.size), Nat.lt_of_lt_of_le h.lt hb.size⟩
theorem set_cell1 {wn : World} {Bm j : Nat} {v v0 : Value} (h0 : wn.cell? ⟨Bm, j, none⟩ = some v0) : (∀ i, i ≠ j → (wn.setCell ⟨Bm, j, none⟩ v).cell? ⟨Bm, i, none⟩ = wn.cell? ⟨Bm, i, none⟩) ∧ (wn.setCell ⟨Bm, j, none⟩ v).cell? ⟨Bm, j, none⟩ = some v ∧ (∀ i, (wn.setCell ⟨Bm, j, none⟩ v).frozen? ⟨Bm, i, none⟩ = wn.frozen? ⟨Bm, i, none⟩) ∧ True :=
  ⟨fun i hi => World.cell?_setCell_other _ _ _ _ (by intro e; injection e with _ e; exact hi e.symm), World.cell?_setCell_same _ _ _ h0, fun i => World.frozen?_setCell _ _ _ _, trivial⟩
theorem XB.s0 {w6 wz : World} {x : ArE} (h : XB w6 wz x) (v : Int) : XB w6 (wz.setCell ⟨w6.heap.size, 0, none⟩ (.int .i64 v)) ⟨v, x.count, x.out, x.perm, x.huge, x.same, x.gone⟩ := by
  obtain ⟨g1, g2, g3, g4⟩ := set_cell1 (v := (.int .i64 v)) h.c0
  exact ⟨g2, (g1 1 (by omega)).trans h.c1, (g1 2 (by omega)).trans h.c2, (g1 3 (by omega)).trans h.c3, (g1 4 (by omega)).trans h.c4, (g1 5 (by omega)).trans h.c5, (g1 6 (by omega)).trans h.c6, fun i hi => (g3 i).trans (h.fz i hi), h.bel.setCell (Nat.le_refl _) _, by simpa using h.lt⟩
theorem XB.s1 {w6 wz : World} {x : ArE} (h : XB w6 wz x) (v : Int) : XB w6 (wz.setCell ⟨w6.heap.size, 1, none⟩ (.int .i64 v)) ⟨x.page, v, x.out, x.perm, x.huge, x.same, x.gone⟩ := by
  obtain ⟨g1, g2, g3, g4⟩ := set_cell1 (v := (.int .i64 v)) h.c1
  exact ⟨(g1 0 (by omega)).trans h.c0, g2, (g1 2 (by omega)).trans h.c2, (g1 3 (by omega)).trans h.c3, (g1 4 (by omega)).trans h.c4, (g1 5 (by omega)).trans h.c5, (g1 6 (by omega)).trans h.c6, fun i hi => (g3 i).trans (h.fz i hi), h.bel.setCell (Nat.le_refl _) _, by simpa using h.lt⟩
theorem XB.s2 {w6 wz : World} {x : ArE} (h : XB w6 wz x) (v : Int) : XB w6 (wz.setCell ⟨w6.heap.size, 2, none⟩ (.int .i64 v)) ⟨x.page, x.count, v, x.perm, x.huge, x.same, x.gone⟩ := by
  obtain ⟨g1, g2, g3, g4⟩ := set_cell1 (v := (.int .i64 v)) h.c2
  exact ⟨(g1 0 (by omega)).trans h.c0, (g1 1 (by omega)).trans h.c1, g2, (g1 3 (by omega)).trans h.c3, (g1 4 (by omega)).trans h.c4, (g1 5 (by omega)).trans h.c5, (g1 6 (by omega)).trans h.c6, fun i hi => (g3 i).trans (h.fz i hi), h.bel.setCell (Nat.le_refl _) _, by simpa using h.lt⟩
theorem XB.s3 {w6 wz : World} {x : ArE} (h : XB w6 wz x) (v : Int) : XB w6 (wz.setCell ⟨w6.heap.size, 3, none⟩ (.int .i64 v)) ⟨x.page, x.count, x.out, v, x.huge, x.same, x.gone⟩ := by
  obtain ⟨g1, g2, g3, g4⟩ := set_cell1 (v := (.int .i64 v)) h.c3
  exact ⟨(g1 0 (by omega)).trans h.c0, (g1 1 (by omega)).trans h.c1, (g1 2 (by omega)).trans h.c2, g2, (g1 4 (by omega)).trans h.c4, (g1 5 (by omega)).trans h.c5, (g1 6 (by omega)).trans h.c6, fun i hi => (g3 i).trans (h.fz i hi), h.bel.setCell (Nat.le_refl _) _, by simpa using h.lt⟩
theorem XB.s4 {w6 wz : World} {x : ArE} (h : XB w6 wz x) (v : Bool) : XB w6 (wz.setCell ⟨w6.heap.size, 4, none⟩ (.bool v)) ⟨x.page, x.count, x.out, x.perm, v, x.same, x.gone⟩ := by
  obtain ⟨g1, g2, g3, g4⟩ := set_cell1 (v := (.bool v)) h.c4
  exact ⟨(g1 0 (by omega)).trans h.c0, (g1 1 (by omega)).trans h.c1, (g1 2 (by omega)).trans h.c2, (g1 3 (by omega)).trans h.c3, g2, (g1 5 (by omega)).trans h.c5, (g1 6 (by omega)).trans h.c6, fun i hi => (g3 i).trans (h.fz i hi), h.bel.setCell (Nat.le_refl _) _, by simpa using h.lt⟩
theorem XB.s5 {w6 wz : World} {x : ArE} (h : XB w6 wz x) (v : Int) : XB w6 (wz.setCell ⟨w6.heap.size, 5, none⟩ (.int .i64 v)) ⟨x.page, x.count, x.out, x.perm, x.huge, v, x.gone⟩ := by
  obtain ⟨g1, g2, g3, g4⟩ := set_cell1 (v := (.int .i64 v)) h.c5
  exact ⟨(g1 0 (by omega)).trans h.c0, (g1 1 (by omega)).trans h.c1, (g1 2 (by omega)).trans h.c2, (g1 3 (by omega)).trans h.c3, (g1 4 (by omega)).trans h.c4, g2, (g1 6 (by omega)).trans h.c6, fun i hi => (g3 i).trans (h.fz i hi), h.bel.setCell (Nat.le_refl _) _, by simpa using h.lt⟩
theorem XB.s6 {w6 wz : World} {x : ArE} (h : XB w6 wz x) (v : Bool) : XB w6 (wz.setCell ⟨w6.heap.size, 6, none⟩ (.bool v)) ⟨x.page, x.count, x.out, x.perm, x.huge, x.same, v⟩ := by
  obtain ⟨g1, g2, g3, g4⟩ := set_cell1 (v := (.bool v)) h.c6
  exact ⟨(g1 0 (by omega)).trans h.c0, (g1 1 (by omega)).trans h.c1, (g1 2 (by omega)).trans h.c2, (g1 3 (by omega)).trans h.c3, (g1 4 (by omega)).trans h.c4, (g1 5 (by omega)).trans h.c5, g2, fun i hi => (g3 i).trans (h.fz i hi), h.bel.setCell (Nat.le_refl _) _, by simpa using h.lt⟩

theorem ERow.cellsA {α : Type} {E : Elt α} {w : World} {b g c : Nat} {xs : List α} (h : ERow E w b (.slice (some ⟨g, 0, none⟩) xs.length c) xs) : ∀ k, k < xs.length → g < w.heap.size ∧ ∀ j, j < E.sz → ∀ wX : World, wX.heap[g]? = w.heap[g]? → wX.cell? ⟨g, k * E.sz + j, none⟩ = some (eCell E xs k j) := by
  intro k hk
  obtain ⟨a', c', e', hf⟩ := h.form
  obtain ⟨g2, N, f, hag, hbg, hr, hN, hc⟩ := hf (by omega)
  simp only [Value.slice.injEq] at e'
  have hga : some (⟨g, 0, none⟩ : Addr) = some ⟨g2, 0, none⟩ := e'.1.trans hag
  simp only [Option.some.injEq, Addr.mk.injEq, and_true] at hga
  subst hga
  refine ⟨hr.lt, fun j hj wX hX => ?_⟩
  rw [(hr.of_block hX).cell (Nat.lt_of_lt_of_le (cell_lt hk hj) hN)]
  exact congrArg some (hc k hk j hj)
theorem arS_cells {w : World} {b g c : Nat} {xs : List ArE} (h : ERow eArea w b (.slice (some ⟨g, 0, none⟩) xs.length c) xs) {k : Nat} (hk : k < xs.length) {x : ArE} (he : eAt eArea xs k = x) : g < w.heap.size ∧ ∀ wX : World, wX.heap[g]? = w.heap[g]? → wX.cell? ⟨g, k * 7, none⟩ = some (.int .i64 x.page) ∧ wX.cell? ⟨g, k * 7 + 1, none⟩ = some (.int .i64 x.count) ∧ wX.cell? ⟨g, k * 7 + 2, none⟩ = some (.int .i64 x.out) ∧ wX.cell? ⟨g, k * 7 + 3, none⟩ = some (.int .i64 x.perm) ∧ wX.cell? ⟨g, k * 7 + 4, none⟩ = some (.bool x.huge) ∧ wX.cell? ⟨g, k * 7 + 5, none⟩ = some (.int .i64 x.same) ∧ wX.cell? ⟨g, k * 7 + 6, none⟩ = some (.bool x.gone) := by
  obtain ⟨h1, h2⟩ := h.cellsA k hk
  refine ⟨h1, fun wX hX => ?_⟩
  have e0 : ∀ j, eCell eArea xs k j = ((eArea.enc x)[j]?).getD (.bool false) := fun j => by unfold eCell; rw [he]
  have c : ∀ j, j < 7 → wX.cell? ⟨g, k * 7 + j, none⟩ = some (eCell eArea xs k j) := fun j hj => h2 j hj wX hX
  exact ⟨(c 0 (by omega)).trans (by rw [e0]; rfl), (c 1 (by omega)).trans (by rw [e0]; rfl), (c 2 (by omega)).trans (by rw [e0]; rfl), (c 3 (by omega)).trans (by rw [e0]; rfl), (c 4 (by omega)).trans (by rw [e0]; rfl), (c 5 (by omega)).trans (by rw [e0]; rfl), (c 6 (by omega)).trans (by rw [e0]; rfl)⟩

end Go.Proofs.Ytnmhkgmmpkjjeaa
