import Derived.Test.YtnmhkgmmpkjjeaaRows
import Derived.Test.YtnmhkgmmpkjjeaaG01
namespace Go.Proofs.Ytnmhkgmmpkjjeaa
open Go.ChangeShapes Go.WideShapes Go.ChangeAt Go.RowKit
set_option linter.unusedVariables false
set_option maxRecDepth 100000
theorem hidP {p : Prop} (h : p) : Hid p := h
theorem erow_push {α : Type} {E : Elt α} {w : World} {B n : Nat} {v : Value} {xs : List α} {x : α} (hn : xs.length = n) (h : w.ownsRow B E.T E.sz v (n + 1) (ecells E xs ++ E.enc x)) : ERow E w B v (xs ++ [x]) := by
  unfold ERow
  rw [ecells_append, List.length_append, List.length_singleton, hn]
  have e : ecells E [x] = E.enc x := by simp [ecells]
  rw [e]
  exact h
/-- A list in the making: owned from w's end on. -/
structure LS {α : Type} (E : Elt α) (w : World) (wr : World) (vv : Value) (l : List α) : Prop where
  row : ∃ g c : Nat, vv = .slice (some ⟨g, 0, none⟩) l.length c ∧ ERow E wr w.heap.size (.slice (some ⟨g, 0, none⟩) l.length c) l
  bel : Below w.heap.size w wr
theorem LS.below {α : Type} {E : Elt α} {w wr w1 : World} {vv : Value} {l : List α} (h : LS E w wr vv l) (hb : Below wr.heap.size wr w1) : LS E w w1 vv l := by
  obtain ⟨⟨g, c, e, hr⟩, hbel⟩ := h
  exact ⟨⟨g, c, e, hr.below hb⟩, hbel.trans (hb.mono hbel.size)⟩
theorem LS.push {α : Type} {E : Elt α} {w w1 wn : World} {g c g1 c1 : Nat} {l : List α} {x : α} {o : Obj} (hbel : Below w.heap.size w w1) (hr : ERow E w1 w.heap.size (.slice (some ⟨g, 0, none⟩) l.length c) l) (hown : wn.ownsRow w.heap.size E.T E.sz (.slice (some ⟨g1, 0, none⟩) (l.length + 1) c1) (l.length + 1) (ecells E l ++ E.enc x)) (hgrow : (w1.alloc o).grownBy wn (Value.ownBlock (.slice (some ⟨g, 0, none⟩) l.length c))) :
    LS E w wn (.slice (some ⟨g1, 0, none⟩) (l.length + 1) c1) (l ++ [x]) := by
  refine ⟨⟨g1, c1, by simp, ?_⟩, ?_⟩
  · have := erow_push rfl hown
    rw [List.length_append, List.length_singleton]
    exact this
  · exact (hbel.alloc hbel.size _).grown hgrow (by have := hbel.size; simp; omega) (fun q hq => (hr.own q hq).1)
theorem LS.new {α : Type} (E : Elt α) (w : World) : LS E w (w.alloc (.cells #[] E.T)) (.slice (some ⟨w.heap.size, 0, none⟩) 0 0) [] := ⟨⟨w.heap.size, 0, rfl, ERow.empty E w w.heap.size (Nat.le_refl _)⟩, bal⟩

end Go.Proofs.Ytnmhkgmmpkjjeaa
