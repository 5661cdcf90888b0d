import Derived.Test.YtnmhkgmmpkjjeabMemR
import Derived.Deep.AppendLies
import Derived.Deep.RegionHeld3
import Derived.Deep.DrawnRows
namespace Go.Proofs.Ytnmhkgmmpkjjeab
open Go.ChangeShapes Go.WideShapes Go.ChangeAt Go.RowKit
set_option linter.unusedVariables false
attribute [local go_sem ↓] Go.wp_at_zero Go.wp_at_succ

/-- A place: frame, level, page. -/
structure P3 where
  fr : Int
  lv : Int
  pg : Int
def P3.val (p : P3) : Value := .agg #[.int .i64 p.fr, .int .i64 p.lv, .int .i64 p.pg]
def pcells (ps : List P3) : List Value := ps.flatMap fun p => [.int .i64 p.fr, .int .i64 p.lv, .int .i64 p.pg]
def pAt (ps : List P3) (i : Nat) : P3 := ps.getD i ⟨0, 0, 0⟩
theorem pcells_length (ps : List P3) : (pcells ps).length = ps.length * 3 := by
  induction ps with
  | nil => rfl
  | cons p r ih => simp only [pcells, List.flatMap_cons, List.length_append, List.length_cons] at ih ⊢; simp at ih ⊢; omega
theorem pcells_append (a b : List P3) : pcells (a ++ b) = pcells a ++ pcells b := by simp [pcells]
theorem pcells_at (ps : List P3) : ∀ i, i < ps.length → (pcells ps)[i * 3]? = some (.int .i64 (pAt ps i).fr) ∧ (pcells ps)[i * 3 + 1]? = some (.int .i64 (pAt ps i).lv) ∧ (pcells ps)[i * 3 + 2]? = some (.int .i64 (pAt ps i).pg) := by
  induction ps with
  | nil => intro i hi; simp at hi
  | cons p r ih =>
    intro i hi
    cases i with
    | zero => exact ⟨rfl, rfl, rfl⟩
    | succ i =>
      have h := ih i (by simpa using hi)
      have e : pcells (p :: r) = [.int .i64 p.fr, .int .i64 p.lv, .int .i64 p.pg] ++ pcells r := rfl
      have e2 : pAt (p :: r) (i + 1) = pAt r i := by simp [pAt]
      rw [e, e2]
      refine ⟨?_, ?_, ?_⟩
      · rw [List.getElem?_append_right (by simp; omega), show (i + 1) * 3 - List.length [Value.int .i64 p.fr, .int .i64 p.lv, .int .i64 p.pg] = i * 3 by simp; omega]; exact h.1
      · rw [List.getElem?_append_right (by simp; omega), show (i + 1) * 3 + 1 - List.length [Value.int .i64 p.fr, .int .i64 p.lv, .int .i64 p.pg] = i * 3 + 1 by simp; omega]; exact h.2.1
      · rw [List.getElem?_append_right (by simp; omega), show (i + 1) * 3 + 2 - List.length [Value.int .i64 p.fr, .int .i64 p.lv, .int .i64 p.pg] = i * 3 + 2 by simp; omega]; exact h.2.2

/-- A slice of places in memory of the call's own, from block 'base' on. -/
def PRow (w : World) (base : Nat) (v : Value) (ps : List P3) : Prop := w.ownsRow base 80 3 v ps.length (pcells ps)
theorem PRow.form {w : World} {base : Nat} {v : Value} {ps : List P3} (h : PRow w base v ps) : ∃ a cap, v = .slice a ps.length cap ∧ (0 < ps.length → ∃ g N f, a = some ⟨g, 0, none⟩ ∧ base ≤ g ∧ w.rowIs g 80 N f ∧ ps.length * 3 ≤ N ∧ ∀ i, i < ps.length → f (i * 3) = .int .i64 (pAt ps i).fr ∧ f (i * 3 + 1) = .int .i64 (pAt ps i).lv ∧ f (i * 3 + 2) = .int .i64 (pAt ps i).pg) := by
  rcases h.2 with ⟨rfl, h0⟩ | ⟨g, cap, cur, rfl, hb, hg, hn, hm, hs, ht⟩
  · rw [h0]; exact ⟨none, 0, rfl, fun h => absurd h (by omega)⟩
  · refine ⟨_, cap, rfl, fun _ => ⟨g, cur.size, fun i => cur.getD i (.bool false), rfl, hb, ⟨cur, hg, rfl, fun i hi => by simp [hi]⟩, by rw [hs]; omega, fun i hi => ?_⟩⟩
    have hc : ∀ j u, j < ps.length * 3 → (pcells ps)[j]? = some u → cur.getD j (.bool false) = u := by
      intro j u hj hu
      rw [← ht, List.getElem?_take, if_pos hj] at hu
      simp at hu
      simp [Array.getD_eq_getD_getElem?, hu]
    obtain ⟨a, b, c⟩ := pcells_at ps i hi
    exact ⟨hc _ _ (by omega) a, hc _ _ (by omega) b, hc _ _ (by omega) c⟩
theorem below_grown {w w' : World} (h : Below w.heap.size w w') : w.grownBy w' none := ⟨h.os, h.tape, h.output, h.size, fun k hk _ => h.block k hk⟩
theorem PRow.below {w w' : World} {base : Nat} {v : Value} {ps : List P3} (h : PRow w base v ps) (hb : Below w.heap.size w w') : PRow w' base v ps :=
  World.ownsRow.kept h (below_grown hb) (by cases hv : v.ownBlock <;> simp)
theorem PRow.rebase {w : World} {base base' : Nat} {v : Value} {ps : List P3} (h : PRow w base v ps) (hb : base' ≤ base) : PRow w base' v ps := by
  refine ⟨h.1, ?_⟩
  rcases h.2 with hh | ⟨g, cap, cur, e, hg, r⟩
  · exact .inl hh
  · exact .inr ⟨g, cap, cur, e, Nat.le_trans hb hg, r⟩

theorem grown_set {w wr : World} {g : Nat} (h : w.grownBy wr (some g)) (i : Nat) (v : Value) : w.grownBy (wr.setCell ⟨g, i, none⟩ v) (some g) :=
  ⟨h.os, h.tape, h.output, by simpa using h.size, fun j hj hne => (Below.heap_setCell _ _ _ _ (by intro e; exact hne (by rw [e]))).trans (h.block j hj hne)⟩

theorem plc_cells {w : World} {b c : Nat} {a : Option Addr} {ps : List P3} (h : PRow w b (.slice a ps.length c) ps) :
    ∃ g, (0 < ps.length → a = some ⟨g, 0, none⟩ ∧ g < w.heap.size) ∧ ∀ k F L P, k < ps.length → pAt ps k = ⟨F, L, P⟩ → ∀ wX, Below w.heap.size w wX → wX.cell? ⟨g, k * 3, none⟩ = some (.int .i64 F) ∧ wX.cell? ⟨g, k * 3 + 1, none⟩ = some (.int .i64 L) ∧ wX.cell? ⟨g, k * 3 + 2, none⟩ = some (.int .i64 P) := by
  obtain ⟨a', c', e, hf⟩ := h.form
  simp only [Value.slice.injEq] at e
  obtain ⟨rfl, _, _⟩ := e
  by_cases h0 : 0 < ps.length
  · obtain ⟨g, N, f, rfl, _, hr, hN, hc⟩ := hf h0
    refine ⟨g, fun _ => ⟨rfl, hr.lt⟩, fun k F L P hk he wX hX => ?_⟩
    have hr1 : wX.rowIs g 80 N f := hr.of_block (hX.block g hr.lt)
    obtain ⟨x0, x1, x2⟩ := hc k hk
    rw [he] at x0 x1 x2
    exact ⟨(hr1.cell (by omega)).trans (congrArg some x0), (hr1.cell (by omega)).trans (congrArg some x1), (hr1.cell (by omega)).trans (congrArg some x2)⟩
  · exact ⟨0, fun h => absurd h h0, fun k F L P hk => absurd hk (by omega)⟩
end Go.Proofs.Ytnmhkgmmpkjjeab
