import Derived.Test.YtnmhkgmmpkjjeabERow
import Derived.Deep.Slices
import Derived.ChangeOld
namespace Go.Proofs.Ytnmhkgmmpkjjeab
open Go.ChangeShapes Go.WideShapes Go.ChangeAt Go.RowKit
set_option linter.unusedVariables false

/-- A slice of structs that came in can be read. -/
theorem esrc_open {α : Type} (E : Elt α) (Q : α → Prop) {H : Type} {enc : TypeId × Value → H} {W : World} {sp : Nat → Bool} {T ts : TypeId} (ht : Try.prog.underlying ts = some (.slice T)) (hc : Try.prog.cellsOf T = E.sz)
    (hel : ∀ n cs y, DataW.trod enc Try.prog W 0 sp true n T cs = some y → ∃ x, cs = E.enc x ∧ Q x) {fuel : Nat} {v : Value} {y : DataW H × List MemPlace} (hf : DataW.trod enc Try.prog W 0 sp true fuel ts [v] = some y) :
    ∃ xs, ESrc E W v xs ∧ xs.length ≤ 9223372036854775807 ∧ ∀ i, i < xs.length → Q (eAt E xs i) := by
  rcases Go.Deep.open_slice ht hf with ⟨hcs, _⟩ | ⟨a, len, cap, m, n, D, Pl, hcs, _, hl, hm, hmm, _, hx⟩
  · simp at hcs
    subst hcs
    exact ⟨[], ⟨none, 0, rfl, fun h => absurd h (by simp)⟩, by simp, fun i hi => absurd hi (by simp)⟩
  · simp at hcs
    subst hcs
    unfold maxLen at hm
    have hlm : len ≤ m := by rw [hmm]; split <;> omega
    have hex : ∀ i, i < len → ∃ x, Q x ∧ ∀ j, j < E.sz → W.cell? ((a.add (i * E.sz)).add j) = (E.enc x)[j]? := by
      intro i hi
      obtain ⟨cs', h1, h2⟩ := hx i (by omega)
      obtain ⟨x, rfl, hq⟩ := hel _ _ _ h2
      rw [hc] at h1
      exact ⟨x, hq, (World.cells?_some h1).2.2⟩
    have hch : ∃ X : Nat → α, ∀ i, i < len → Q (X i) ∧ ∀ j, j < E.sz → W.cell? ((a.add (i * E.sz)).add j) = (E.enc (X i))[j]? := by
      refine ⟨fun i => if hi : i < len then Classical.choose (hex i hi) else E.dflt, fun i hi => ?_⟩
      simp only [dif_pos hi]
      exact Classical.choose_spec (hex i hi)
    obtain ⟨X, hX⟩ := hch
    have hlen : ((List.range len).map X).length = len := by simp
    have hat : ∀ i, i < len → eAt E ((List.range len).map X) i = X i := by
      intro i hi
      simp [eAt, hi]
    refine ⟨(List.range len).map X, ⟨some a, cap, by rw [hlen], fun h0 => ?_⟩, by omega, fun i hi => ?_⟩
    · rw [hlen] at h0
      have hcell : ∀ i, i < len → ∀ j, j < E.sz → W.cell? ((a.add (i * E.sz)).add j) = some (eCell E ((List.range len).map X) i j) := by
        intro i hi j hj
        rw [(hX i hi).2 j hj, eCell, hat i hi, List.getElem?_eq_getElem (by rw [E.len]; exact hj)]
        rfl
      obtain ⟨b, off, spot⟩ := a
      have hspot : spot = none := by
        have := hcell 0 h0 0 E.pos
        simpa [Addr.add] using World.cell?_spot this
      subst hspot
      have hplain : ∀ i, i < len → ∀ j, j < E.sz → W.cell? ⟨b, off + i * E.sz + j, none⟩ = some (eCell E ((List.range len).map X) i j) := by
        intro i hi j hj
        have := hcell i hi j hj
        rwa [add_plain, add_plain] at this
      exact ⟨b, off, rfl, World.block_lt_of_cell? W _ (hplain 0 h0 0 E.pos), fun i hi j hj => hplain i (by omega) j hj⟩
    · rw [hlen] at hi
      rw [hat i hi]
      exact (hX i hi).1
theorem mach_laidOut : laidOutB Try.prog = true := by kernel_rfl
theorem list2 {α : Type} {l : List α} (h : l.length = 2) : ∃ a0 a1, l = [a0, a1] := by
  match l, h with
  | [a0, a1], _ => exact ⟨a0, a1, rfl⟩
theorem list4 {α : Type} {l : List α} (h : l.length = 4) : ∃ a0 a1 a2 a3, l = [a0, a1, a2, a3] := by
  match l, h with
  | [a0, a1, a2, a3], _ => exact ⟨a0, a1, a2, a3, rfl⟩
theorem list5 {α : Type} {l : List α} (h : l.length = 5) : ∃ a0 a1 a2 a3 a4, l = [a0, a1, a2, a3, a4] := by
  match l, h with
  | [a0, a1, a2, a3, a4], _ => exact ⟨a0, a1, a2, a3, a4, rfl⟩
end Go.Proofs.Ytnmhkgmmpkjjeab
