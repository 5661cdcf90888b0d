import Derived.Test.YtnmhkgmmpkjjeabRows
import Derived.Test.YtnmhkgmmpkjjeabTK
import Derived.WalkKit
import Derived.ProofKit
import Derived.OpenShut
import Derived.Below
import Derived.Deep.OwnRows
import Derived.Deep.QuietTactic
import Derived.BigQuiet
import Derived.Deep.AppendLies
import Derived.Deep.RegionHeld3
import Derived.Deep.DrawnRows
namespace Go.Proofs.Ytnmhkgmmpkjjeab
open Go.ChangeShapes Go.WideShapes Go.ChangeAt Go.RowKit
set_option linter.unusedVariables false

/-- A kind of struct that slices hold: its type, its number of cells, its cells. -/
structure Elt (α : Type) where
  T : TypeId
  sz : Nat
  enc : α → List Value
  dflt : α
  pos : 0 < sz
  len : ∀ a, (enc a).length = sz

section
variable {α : Type} (E : Elt α)
def ecells (xs : List α) : List Value := xs.flatMap E.enc
def eAt (xs : List α) (i : Nat) : α := xs.getD i E.dflt
theorem ecells_length (xs : List α) : (ecells E xs).length = xs.length * E.sz := by
  induction xs with
  | nil => simp [ecells]
  | cons p r ih =>
    have e : ecells E (p :: r) = E.enc p ++ ecells E r := rfl
    rw [e, List.length_append, ih, E.len, List.length_cons, Nat.add_mul]; omega
theorem ecells_append (a b : List α) : ecells E (a ++ b) = ecells E a ++ ecells E b := by simp [ecells]
theorem ecells_at (xs : List α) : ∀ i, i < xs.length → ∀ j, j < E.sz → (ecells E xs)[i * E.sz + j]? = (E.enc (eAt E xs i))[j]? := by
  induction xs with
  | nil => intro i hi; simp at hi
  | cons p r ih =>
    intro i hi j hj
    have e : ecells E (p :: r) = E.enc p ++ ecells E r := rfl
    rw [e]
    cases i with
    | zero =>
      rw [Nat.zero_mul, Nat.zero_add, List.getElem?_append_left (by rw [E.len]; exact hj)]
      rfl
    | succ i =>
      rw [List.getElem?_append_right (by rw [E.len, Nat.add_mul]; omega), E.len, show (i + 1) * E.sz + j - E.sz = i * E.sz + j by rw [Nat.add_mul]; omega]
      exact ih i (by simpa using hi) j hj
theorem cell_lt {n sz i j : Nat} (hi : i < n) (hj : j < sz) : i * sz + j < n * sz := by
  have h : (i + 1) * sz ≤ n * sz := Nat.mul_le_mul_right sz hi
  rw [Nat.add_mul] at h
  omega

/-- A slice of such structs in memory of the call's own, from block 'base' on. -/
def ERow (w : World) (base : Nat) (v : Value) (xs : List α) : Prop := w.ownsRow base E.T E.sz v xs.length (ecells E xs)
/-- What a slice of n such structs holds, cell by cell. -/
def EHas (w : World) (v : Value) (n : Nat) (c : Nat → Nat → Value) : Prop :=
  ∃ a cap, v = .slice a n cap ∧ (0 < n → ∃ g N f, a = some ⟨g, 0, none⟩ ∧ w.rowIs g E.T N f ∧ n * E.sz ≤ N ∧ ∀ i, i < n → ∀ j, j < E.sz → f (i * E.sz + j) = c i j)
def eCell (xs : List α) (i j : Nat) : Value := ((E.enc (eAt E xs i))[j]?).getD (.bool false)

variable {E}
theorem ERow.form {w : World} {base : Nat} {v : Value} {xs : List α} (h : ERow E w base v xs) : ∃ a cap, v = .slice a xs.length cap ∧ (0 < xs.length → ∃ g N f, a = some ⟨g, 0, none⟩ ∧ base ≤ g ∧ w.rowIs g E.T N f ∧ xs.length * E.sz ≤ N ∧ ∀ i, i < xs.length → ∀ j, j < E.sz → f (i * E.sz + j) = eCell E xs i j) := by
  rcases h.2 with ⟨rfl, h0⟩ | ⟨g, cap, cur, rfl, hb, hg, hn, hm, hs, ht⟩
  · rw [h0]; exact ⟨none, 0, rfl, fun h => absurd h (by omega)⟩
  · refine ⟨_, cap, rfl, fun _ => ⟨g, cur.size, fun i => cur.getD i (.bool false), rfl, hb, ⟨cur, hg, rfl, fun i hi => by simp [hi]⟩, by rw [hs]; exact Nat.mul_le_mul_right _ hn, fun i hi j hj => ?_⟩⟩
    have hu := ecells_at E xs i hi j hj
    rw [← ht, List.getElem?_take, if_pos (cell_lt hi hj)] at hu
    simp only [Array.getElem?_toList] at hu
    simp [Array.getD_eq_getD_getElem?, hu, eCell]
theorem ERow.of_row {w : World} {base g n cap N : Nat} {f : Nat → Value} {xs : List α} (hx : xs.length = n) (hb : base ≤ g) (hr : w.rowIs g E.T N f) (hN : N = cap * E.sz) (hc : n ≤ cap) (hm : cap ≤ maxLen) (hf : ∀ i, i < n → ∀ j, j < E.sz → f (i * E.sz + j) = eCell E xs i j) :
    ERow E w base (.slice (some ⟨g, 0, none⟩) n cap) xs := by
  obtain ⟨cur, hg, hs, hc2⟩ := hr
  subst hx
  refine ⟨ecells_length E xs, .inr ⟨g, cap, cur, rfl, hb, hg, hc, hm, by rw [hs, hN], ?_⟩⟩
  apply List.ext_getElem?
  intro q
  by_cases hq : q < xs.length * E.sz
  · have hpos := E.pos
    have hqi : q / E.sz < xs.length := (Nat.div_lt_iff_lt_mul hpos).2 hq
    have hqj : q % E.sz < E.sz := Nat.mod_lt _ hpos
    have e : q = q / E.sz * E.sz + q % E.sz := by rw [Nat.mul_comm]; exact (Nat.div_add_mod q E.sz).symm
    have hlt : q < N := by rw [hN]; exact Nat.lt_of_lt_of_le hq (Nat.mul_le_mul_right _ hc)
    have h1 := hc2 q hlt
    have h2 := ecells_at E xs _ hqi _ hqj
    have h3 := hf _ hqi _ hqj
    rw [← e] at h2 h3
    rw [List.getElem?_take, if_pos hq, Array.getElem?_toList, h1, h2, h3]
    unfold eCell
    rw [List.getElem?_eq_getElem (by rw [E.len]; exact hqj)]
    rfl
  · rw [List.getElem?_eq_none (by rw [List.length_take]; omega), List.getElem?_eq_none (by rw [ecells_length]; omega)]
theorem ERow.below {w w' : World} {base : Nat} {v : Value} {xs : List α} (h : ERow E w base v xs) (hb : Below w.heap.size w w') : ERow E w' base v xs :=
  World.ownsRow.kept (row := none) h ⟨hb.os, hb.tape, hb.output, hb.size, fun k hk _ => hb.block k hk⟩ (by cases hv : v.ownBlock <;> simp)
theorem ERow.kept {w w' : World} {base : Nat} {v : Value} {xs : List α} {row : Option Nat} (h : ERow E w base v xs) (hg : w.grownBy w' row) (hne : ∀ k, v.ownBlock = some k → some k ≠ row) : ERow E w' base v xs :=
  World.ownsRow.kept h hg (by
    cases hv : v.ownBlock with
    | none => exact .inl rfl
    | some k => exact .inr (hne k hv))
theorem ERow.rebase {w : World} {base base' : Nat} {v : Value} {xs : List α} (h : ERow E w base v xs) (hb : base' ≤ base) : ERow E w base' v xs := by
  refine ⟨h.1, ?_⟩
  rcases h.2 with hh | ⟨g, cap, cur, e, hg, r⟩
  · exact .inl hh
  · exact .inr ⟨g, cap, cur, e, Nat.le_trans hb hg, r⟩
theorem ERow.own {w : World} {base : Nat} {v : Value} {xs : List α} (h : ERow E w base v xs) : ∀ k, v.ownBlock = some k → base ≤ k ∧ k < w.heap.size := World.ownsRow.lt h
theorem ERow.has {w : World} {base : Nat} {v : Value} {xs : List α} (h : ERow E w base v xs) : EHas E w v xs.length (eCell E xs) := by
  obtain ⟨a, cap, e, h1⟩ := h.form
  refine ⟨a, cap, e, fun h0 => ?_⟩
  obtain ⟨g, N, f, p, _, q, r, s⟩ := h1 h0
  exact ⟨g, N, f, p, q, r, s⟩
theorem EHas.below {w w' : World} {v : Value} {n : Nat} {c : Nat → Nat → Value} (h : EHas E w v n c) (hb : Below w.heap.size w w') : EHas E w' v n c := by
  obtain ⟨a, cap, e, h1⟩ := h
  refine ⟨a, cap, e, fun h0 => ?_⟩
  obtain ⟨g, N, f, p, q, r, s⟩ := h1 h0
  exact ⟨g, N, f, p, q.of_block (hb.block g q.lt), r, s⟩
theorem EHas.kept {w w' : World} {v : Value} {n : Nat} {c : Nat → Nat → Value} {row : Option Nat} (h : EHas E w v n c) (hg : w.grownBy w' row) (hne : ∀ k, v.ownBlock = some k → some k ≠ row) : EHas E w' v n c := by
  obtain ⟨a, cap, e, h1⟩ := h
  refine ⟨a, cap, e, fun h0 => ?_⟩
  obtain ⟨g, N, f, p, q, r, s⟩ := h1 h0
  subst e p
  exact ⟨g, N, f, rfl, q.of_block (hg.block g q.lt (hne g rfl)), r, s⟩

variable (E)
/-- A slice of such structs that came in, and can be read. -/
def ESrc (w : World) (v : Value) (xs : List α) : Prop :=
  ∃ (a : Option Addr) (cap : Nat), v = .slice a xs.length cap ∧ (0 < xs.length → ∃ b o, a = some ⟨b, o, none⟩ ∧ b < w.heap.size ∧ ∀ i, i < xs.length → ∀ j, j < E.sz → w.cell? ⟨b, o + i * E.sz + j, none⟩ = some (eCell E xs i j))
variable {E}
theorem ESrc.at {w w' : World} {v : Value} {xs : List α} (h : ESrc E w v xs) (hb : Below w.heap.size w w') : ESrc E w' v xs := by
  obtain ⟨a, cap, rfl, ha⟩ := h
  refine ⟨a, cap, rfl, fun h0 => ?_⟩
  obtain ⟨b, o, rfl, hbl, hc⟩ := ha h0
  exact ⟨b, o, rfl, Nat.lt_of_lt_of_le hbl hb.size, fun i hi j hj => (hb.cell hbl).trans (hc i hi j hj)⟩
end

theorem eGrown_set {w wr : World} {g : Nat} (h : w.grownBy wr (some g)) (i : Nat) (v : Value) : w.grownBy (wr.setCell ⟨g, i, none⟩ v) (some g) :=
  ⟨h.os, h.tape, h.output, by simpa using h.size, fun j hj hne => (Below.heap_setCell _ _ _ _ (by intro e; exact hne (by rw [e]))).trans (h.block j hj hne)⟩
/-- 'make' of n elements of several cells: a new row at the heap's end. -/
theorem row_of_made {w : World} {base g n sz : Nat} {T : TypeId} {xs : List Value} (h : w.ownsRow base T sz (.slice (some ⟨g, 0, none⟩) n n) n xs) : ∃ f, w.rowIs g T (n * sz) f := by
  rcases h.2 with ⟨e, _⟩ | ⟨g', cap, cur, e, _, hg, _, _, hs, _⟩
  · cases e
  · simp only [Value.slice.injEq, Option.some.injEq, Addr.mk.injEq, and_true, true_and] at e
    obtain ⟨rfl, rfl⟩ := e
    exact ⟨fun i => cur.getD i (.bool false), cur, hg, hs, fun i hi => by rw [← hs] at hi; simp [hi]⟩
theorem take_snocE {α : Type} (E : Elt α) (xs : List α) (t : Nat) (h : t < xs.length) : xs.take (t + 1) = xs.take t ++ [eAt E xs t] := by
  rw [List.take_succ_eq_append_getElem h]; simp [eAt, h]
/-- A row with one element more. -/
theorem ERow.snoc {α : Type} {E : Elt α} {w : World} {B : Nat} {v : Value} {xs : List α} {t m : Nat} (ht : t < xs.length) (hm : m = t + 1) (h : w.ownsRow B E.T E.sz v m (ecells E (xs.take t) ++ E.enc (eAt E xs t))) : ERow E w B v (xs.take (t + 1)) := by
  unfold ERow
  have e1 : (xs.take (t + 1)).length = t + 1 := by rw [List.length_take]; omega
  have e2 : ecells E (xs.take (t + 1)) = ecells E (xs.take t) ++ E.enc (eAt E xs t) := by
    rw [take_snocE E xs t ht, ecells_append]; simp [ecells]
  rw [e1, e2, ← hm]
  exact h
theorem ERow.empty {α : Type} (E : Elt α) (w : World) (B : Nat) (hb : B ≤ w.heap.size) : ERow E (w.alloc (.cells #[] E.T)) B (.slice (some ⟨w.heap.size, 0, none⟩) 0 0) [] :=
  ⟨by simp [ecells], .inr ⟨w.heap.size, 0, #[], rfl, hb, heap_alloc_new w _, Nat.le_refl _, by unfold maxLen; omega, by simp, by simp [ecells]⟩⟩
end Go.Proofs.Ytnmhkgmmpkjjeab
