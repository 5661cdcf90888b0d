import Derived.Test.YtnmhkgmmpkjjeabMFill
import Derived.Test.YtnmhkgmmpkjjeabSCopy
namespace Go.Proofs.Ytnmhkgmmpkjjeab
open Go.ChangeShapes Go.WideShapes Go.ChangeAt Go.RowKit
set_option linter.unusedVariables false

theorem Touch.none {S : Nat → Prop} (a : World) : Touch S a a := ⟨rfl, rfl, rfl, Nat.le_refl _, fun _ _ _ => rfl⟩
theorem Touch.put {S : Nat → Prop} {a w : World} (h : Touch S a w) (p : Addr) (v : Value) (hp : S p.block) : Touch S a (w.setCell p v) :=
  ⟨h.os, h.tape, h.output, by simpa using h.size, fun k hk hn => (Below.heap_setCell _ _ _ _ (fun e => hn (by rw [e]; exact hp))).trans (h.block k hk hn)⟩
theorem put4t {w wF : World} {B : Nat} {v0 v1 v2 v3 : Value} (h : wF = ((((w.setCell ⟨B, 0, Option.none⟩ v0).setCell ⟨B, 1, Option.none⟩ v1).setCell ⟨B, 2, Option.none⟩ v2).setCell ⟨B, 3, Option.none⟩ v3)) : Touch (fun k => k = B) w wF := by
  subst h
  exact Touch.put (Touch.put (Touch.put (Touch.put (Touch.none _) _ _ (by rfl)) _ _ (by rfl)) _ _ (by rfl)) _ _ (by rfl)
theorem put7t {w wF : World} {B : Nat} {v0 v1 v2 v3 v4 v5 v6 : Value} (h : wF = (((((((w.setCell ⟨B, 0, Option.none⟩ v0).setCell ⟨B, 1, Option.none⟩ v1).setCell ⟨B, 2, Option.none⟩ v2).setCell ⟨B, 3, Option.none⟩ v3).setCell ⟨B, 4, Option.none⟩ v4).setCell ⟨B, 5, Option.none⟩ v5).setCell ⟨B, 6, Option.none⟩ v6)) : Touch (fun k => k = B) w wF := by
  subst h
  exact Touch.put (Touch.put (Touch.put (Touch.put (Touch.put (Touch.put (Touch.put (Touch.none _) _ _ (by rfl)) _ _ (by rfl)) _ _ (by rfl)) _ _ (by rfl)) _ _ (by rfl)) _ _ (by rfl)) _ _ (by rfl)
/-- The first k elements, but not the one at i if c says so. -/
def keepTo {α : Type} (E : Elt α) (c : Bool) (i : Int) (xs : List α) : Nat → List α
  | 0 => []
  | k + 1 => if c && decide ((k : Int) = i) then keepTo E c i xs k else keepTo E c i xs k ++ [eAt E xs k]
theorem keepTo_skip {α : Type} (E : Elt α) (i : Int) (xs : List α) (k : Nat) (h : (k : Int) = i) : keepTo E true i xs (k + 1) = keepTo E true i xs k := by
  conv => lhs; unfold keepTo
  rw [if_pos (by simp [h])]
theorem keepTo_take {α : Type} (E : Elt α) (c : Bool) (i : Int) (xs : List α) (k : Nat) (h : c = false ∨ ¬ (k : Int) = i) : keepTo E c i xs (k + 1) = keepTo E c i xs k ++ [eAt E xs k] := by
  conv => lhs; unfold keepTo
  rw [if_neg]
  simp only [Bool.and_eq_true, decide_eq_true_eq, not_and]
  rcases h with h | h
  · intro h2; rw [h] at h2; cases h2
  · intro _; exact h
theorem keepTo_len {α : Type} (E : Elt α) (c : Bool) (i : Int) (xs : List α) : ∀ k, (keepTo E c i xs k).length ≤ k
  | 0 => Nat.le_refl _
  | k + 1 => by
    unfold keepTo
    have := keepTo_len E c i xs k
    split
    · omega
    · simp; omega
theorem keepTo_none {α : Type} (E : Elt α) (c : Bool) (i : Int) (xs : List α) : ∀ k, k ≤ xs.length → (c = false ∨ i < 0 ∨ (k : Int) ≤ i) → keepTo E c i xs k = xs.take k
  | 0, _, _ => by simp [keepTo]
  | k + 1, hk, h => by
    rw [keepTo_take E c i xs k (by rcases h with h | h | h <;> first | exact .inl h | (right; omega)), keepTo_none E c i xs k (by omega) (by rcases h with h | h | h <;> first | exact .inl h | (right; omega)), take_snocE E xs k (by omega)]
theorem keepTo_some {α : Type} (E : Elt α) (j : Nat) (xs : List α) (hj : j < xs.length) : ∀ k, j + k + 1 ≤ xs.length → keepTo E true (j : Int) xs (j + k + 1) = xs.take j ++ (xs.drop (j + 1)).take k
  | 0, _ => by
    rw [Nat.add_zero, keepTo_skip E _ xs j rfl, keepTo_none E true _ xs j (by omega) (by right; right; omega)]
    simp
  | k + 1, h => by
    rw [show j + (k + 1) + 1 = (j + k + 1) + 1 by omega, keepTo_take E true _ xs (j + k + 1) (by right; omega), keepTo_some E j xs hj k (by omega), List.append_assoc]
    congr 1
    have hk : k < (xs.drop (j + 1)).length := by rw [List.length_drop]; omega
    rw [List.take_succ_eq_append_getElem hk]
    congr 1
    simp only [List.getElem_drop, List.cons.injEq, and_true]
    have e : j + 1 + k = j + k + 1 := by omega
    simp [eAt, e, show j + k + 1 < xs.length by omega]
theorem keepTo_at {α : Type} (E : Elt α) (j : Nat) (xs : List α) (hj : j < xs.length) : keepTo E true (j : Int) xs xs.length = xs.take j ++ xs.drop (j + 1) := by
  obtain ⟨k, hk⟩ : ∃ k, xs.length = j + k + 1 := ⟨xs.length - j - 1, by omega⟩
  have h := keepTo_some E j xs hj k (by omega)
  rw [← hk] at h
  rw [h, List.take_of_length_le (l := xs.drop (j + 1)) (by rw [List.length_drop]; omega)]
theorem keepTo_all {α : Type} (E : Elt α) (c : Bool) (i : Int) (xs : List α) (h : c = false ∨ i < 0 ∨ (xs.length : Int) ≤ i) : keepTo E c i xs xs.length = xs := by
  rw [keepTo_none E c i xs xs.length (Nat.le_refl _) h, List.take_length]
/-- A row with one element more. -/
theorem ERow.snocL {α : Type} {E : Elt α} {w : World} {B : Nat} {v : Value} {ys : List α} {x : α} {m : Nat} (hm : m = ys.length + 1) (h : w.ownsRow B E.T E.sz v m (ecells E ys ++ E.enc x)) : ERow E w B v (ys ++ [x]) := by
  unfold ERow
  have e2 : ecells E (ys ++ [x]) = ecells E ys ++ E.enc x := by
    rw [ecells_append]; simp [ecells]
  rw [List.length_append, e2]
  rw [hm] at h
  exact h
/-- What Drop answers. -/
def dropM (M : Mach) (which i : Int) : Mach := if validB M then ⟨M.mem, M.pend, keepTo eTlb (decide (which = 0)) i M.tlb M.tlb.length, keepTo eWc (decide (which = 1)) i M.wc M.wc.length⟩ else zM
theorem dropM_small {M : Mach} (hs : M.Small) (which i : Int) : (dropM M which i).Small := by
  unfold dropM
  split
  · exact ⟨hs.w, hs.p, Nat.le_trans (keepTo_len _ _ _ _ _) hs.t, Nat.le_trans (keepTo_len _ _ _ _ _) hs.c⟩
  · exact zM_small
end Go.Proofs.Ytnmhkgmmpkjjeab
