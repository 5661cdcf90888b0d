import Derived.WalkKit
import Derived.ProofKit
import Derived.Deep.RegionHeld3
import Derived.Below
namespace Go.Proofs.Ytnmhkgmmpkjjeab
open Go.ChangeShapes Go.WideShapes Go.ChangeAt Go.RowKit

/-- A cell; that it is not frozen; what only makes memory. -/
abbrev cl (w : World) (b o : Nat) : Option Value := w.cell? ⟨b, o, none⟩
abbrev fz (w : World) (b o : Nat) : Bool := w.frozen? ⟨b, o, none⟩
abbrev Bl (w w' : World) : Prop := Below w.heap.size w w'
abbrev F4 (w : World) (b : Nat) : Prop := w.frozen? ⟨b, 0, none⟩ = false ∧ w.frozen? ⟨b, 1, none⟩ = false ∧ w.frozen? ⟨b, 2, none⟩ = false ∧ w.frozen? ⟨b, 3, none⟩ = false
theorem br {n : Nat} {w : World} : Below n w w := Below.refl n w
theorem bal {w : World} {o : Obj} : Below w.heap.size w (w.alloc o) := (Below.refl _ _).alloc (Nat.le_refl _) o
theorem cob {w w' : World} {a : Addr} (h : w'.heap[a.block]? = w.heap[a.block]?) : w'.cell? a = w.cell? a := World.cell?_of_block h
theorem fob {w w' : World} {a : Addr} (h : w'.heap[a.block]? = w.heap[a.block]?) : w'.frozen? a = w.frozen? a := World.frozen?_of_block h
theorem put4c {w wF : World} {B : Nat} {v0 v1 v2 v3 r0 r1 r2 r3 : Value} (h : wF = ((((w.setCell ⟨B, 0, none⟩ v0).setCell ⟨B, 1, none⟩ v1).setCell ⟨B, 2, none⟩ v2).setCell ⟨B, 3, none⟩ v3)) (h0 : w.cell? ⟨B, 0, none⟩ = some r0) (h1 : w.cell? ⟨B, 1, none⟩ = some r1) (h2 : w.cell? ⟨B, 2, none⟩ = some r2) (h3 : w.cell? ⟨B, 3, none⟩ = some r3) : wF.cell? ⟨B, 0, none⟩ = some v0 ∧ wF.cell? ⟨B, 1, none⟩ = some v1 ∧ wF.cell? ⟨B, 2, none⟩ = some v2 ∧ wF.cell? ⟨B, 3, none⟩ = some v3 := by
  subst h
  refine ⟨?_, ?_, ?_, ?_⟩ <;> simp [go_sem, *]
theorem put7c {w wF : World} {B : Nat} {v0 v1 v2 v3 v4 v5 v6 r0 r1 r2 r3 r4 r5 r6 : Value} (h : wF = (((((((w.setCell ⟨B, 0, none⟩ v0).setCell ⟨B, 1, none⟩ v1).setCell ⟨B, 2, none⟩ v2).setCell ⟨B, 3, none⟩ v3).setCell ⟨B, 4, none⟩ v4).setCell ⟨B, 5, none⟩ v5).setCell ⟨B, 6, none⟩ v6)) (h0 : w.cell? ⟨B, 0, none⟩ = some r0) (h1 : w.cell? ⟨B, 1, none⟩ = some r1) (h2 : w.cell? ⟨B, 2, none⟩ = some r2) (h3 : w.cell? ⟨B, 3, none⟩ = some r3) (h4 : w.cell? ⟨B, 4, none⟩ = some r4) (h5 : w.cell? ⟨B, 5, none⟩ = some r5) (h6 : w.cell? ⟨B, 6, none⟩ = some r6) : wF.cell? ⟨B, 0, none⟩ = some v0 ∧ wF.cell? ⟨B, 1, none⟩ = some v1 ∧ wF.cell? ⟨B, 2, none⟩ = some v2 ∧ wF.cell? ⟨B, 3, none⟩ = some v3 ∧ wF.cell? ⟨B, 4, none⟩ = some v4 ∧ wF.cell? ⟨B, 5, none⟩ = some v5 ∧ wF.cell? ⟨B, 6, none⟩ = some v6 := by
  subst h
  refine ⟨?_, ?_, ?_, ?_, ?_, ?_, ?_⟩ <;> simp [go_sem, *]
theorem put8a {w wF : World} {A B : Nat} {v0 v1 v2 v3 u0 u1 u2 u3 r0 r1 r2 r3 : Value} (h : wF = ((((((((w.setCell ⟨A, 0, none⟩ v0).setCell ⟨A, 1, none⟩ v1).setCell ⟨A, 2, none⟩ v2).setCell ⟨A, 3, none⟩ v3).setCell ⟨B, 0, none⟩ u0).setCell ⟨B, 1, none⟩ u1).setCell ⟨B, 2, none⟩ u2).setCell ⟨B, 3, none⟩ u3)) (h0 : w.cell? ⟨A, 0, none⟩ = some r0) (h1 : w.cell? ⟨A, 1, none⟩ = some r1) (h2 : w.cell? ⟨A, 2, none⟩ = some r2) (h3 : w.cell? ⟨A, 3, none⟩ = some r3) (hne : A ≠ B := by first | omega | simp) : wF.cell? ⟨A, 0, none⟩ = some v0 ∧ wF.cell? ⟨A, 1, none⟩ = some v1 ∧ wF.cell? ⟨A, 2, none⟩ = some v2 ∧ wF.cell? ⟨A, 3, none⟩ = some v3 := by
  subst h
  refine ⟨?_, ?_, ?_, ?_⟩ <;> simp [go_sem, *]
theorem put8b {w wF : World} {A B : Nat} {v0 v1 v2 v3 u0 u1 u2 u3 r0 r1 r2 r3 : Value} (h : wF = ((((((((w.setCell ⟨A, 0, none⟩ v0).setCell ⟨A, 1, none⟩ v1).setCell ⟨A, 2, none⟩ v2).setCell ⟨A, 3, none⟩ v3).setCell ⟨B, 0, none⟩ u0).setCell ⟨B, 1, none⟩ u1).setCell ⟨B, 2, none⟩ u2).setCell ⟨B, 3, none⟩ u3)) (h0 : w.cell? ⟨B, 0, none⟩ = some r0) (h1 : w.cell? ⟨B, 1, none⟩ = some r1) (h2 : w.cell? ⟨B, 2, none⟩ = some r2) (h3 : w.cell? ⟨B, 3, none⟩ = some r3) (hne : A ≠ B := by first | omega | simp) : wF.cell? ⟨B, 0, none⟩ = some u0 ∧ wF.cell? ⟨B, 1, none⟩ = some u1 ∧ wF.cell? ⟨B, 2, none⟩ = some u2 ∧ wF.cell? ⟨B, 3, none⟩ = some u3 := by
  subst h
  refine ⟨?_, ?_, ?_, ?_⟩ <;> simp [go_sem, *]
/-! The moves at a region that draws its order, with their side conditions laid. -/
section
variable {P : Program} {ops : Array Oper} {Q : Exit → Act → World → Prop} {md : Region.Mode} {S : World → Prop}
/-- Operation i is taken first. -/
theorem tk (i : Nat) {oi : Oper} {v : Value} {fuel : Nat} {listed : Array Bool} {a a' : Act} {w : World} (h : wpAnyH P md ops Q S fuel (listed.setIfInBounds i true) a' w)
    (hi : ops[i]? = some oi := by rfl) (hs : Region.noSelect ops = true := by kernel_rfl) (hf : Region.free md ops listed i = true := by kernel_rfl) (hr : (Region.ready md ops listed).contains i = true := by kernel_rfl)
    (hQ : ∀ c a w, Q (.panic c) (a.put oi.dst v) w → Q (.panic c) a w := by exact fun _ _ _ h => h) (hw : Region.wanted oi (yielded ops a.tmps) = true := by rfl)
    (hy : ∀ w, S w → (execOp a.eval oi).run P w = .ok (.value v) w := by (intro w hSw; (try dsimp only at hSw); go_simp; try with_reducible rfl)) (hS : S w := by assumption)
    (ha : a.put oi.dst v = a' := by (simp only [Act.put, List.setIfInBounds_toArray, List.set_cons_zero, List.set_cons_succ, List.getElem_toArray, List.getElem_cons_zero, List.getElem_cons_succ]; rfl)) : wpAnyH P md ops Q S (fuel + 1) listed a w :=
  wpAnyH_take hi hs hf hr hQ (Or.inl ⟨hw, hy⟩) hS (by rw [ha]; exact h)
/-- Operation i is not wanted. -/
theorem sk (i : Nat) {oi : Oper} {fuel : Nat} {listed : Array Bool} {a a' : Act} {w : World} (h : wpAnyH P md ops Q S fuel (listed.setIfInBounds i true) a' w)
    (hi : ops[i]? = some oi := by rfl) (hs : Region.noSelect ops = true := by kernel_rfl) (hf : Region.free md ops listed i = true := by kernel_rfl) (hr : (Region.ready md ops listed).contains i = true := by kernel_rfl)
    (hQ : ∀ c a w, Q (.panic c) (a.put oi.dst undef) w → Q (.panic c) a w := by exact fun _ _ _ h => h) (hw : Region.wanted oi (yielded ops a.tmps) = false := by rfl) (hS : S w := by assumption)
    (ha : a.put oi.dst undef = a' := by (simp only [Act.put, List.setIfInBounds_toArray, List.set_cons_zero, List.set_cons_succ, List.getElem_toArray, List.getElem_cons_zero, List.getElem_cons_succ]; rfl)) : wpAnyH P md ops Q S (fuel + 1) listed a w :=
  wpAnyH_take hi hs hf hr hQ (Or.inr ⟨hw, rfl⟩) hS (by rw [ha]; exact h)
end
end Go.Proofs.Ytnmhkgmmpkjjeab
