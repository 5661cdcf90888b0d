import Derived.Test.YtgabcaldjlenpabGreatMachT
import Derived.Deep.Slices
import Derived.ChangeOld
namespace Go.Proofs.YtgabcaldjlenpabGreat
open Go.ChangeShapes Go.WideShapes Go.ChangeAt Go.RowKit
set_option linter.unusedVariables false

/-- A slice of structs that came in can be read. -/
theorem esrc_open {α : Type} (E : Elt α) (Q : α → Prop) {H : Type} {enc : TypeId × Value → H} {W : World} {sp : Nat → Bool} {T ts : TypeId} (ht : Tryz.prog.underlying ts = some (.slice T)) (hc : Tryz.prog.cellsOf T = E.sz)
    (hel : ∀ n cs y, DataW.trod enc Tryz.prog W 0 sp true n T cs = some y → ∃ x, cs = E.enc x ∧ Q x) {fuel : Nat} {v : Value} {y : DataW H × List MemPlace} (hf : DataW.trod enc Tryz.prog W 0 sp true fuel ts [v] = some y) :
    ∃ xs, ESrc E W v xs ∧ xs.length ≤ 9223372036854775807 ∧ ∀ i, i < xs.length → Q (eAt E xs i) := by
  rcases Go.Deep.open_slice ht hf with ⟨hcs, _⟩ | ⟨a, len, cap, m, n, D, Pl, hcs, _, hl, hm, hmm, _, hx⟩
  · simp at hcs
    subst hcs
    exact ⟨[], ⟨none, 0, rfl, fun h => absurd h (by simp)⟩, by simp, fun i hi => absurd hi (by simp)⟩
  · simp at hcs
    subst hcs
    unfold maxLen at hm
    have hlm : len ≤ m := by rw [hmm]; split <;> omega
    have hex : ∀ i, i < len → ∃ x, Q x ∧ ∀ j, j < E.sz → W.cell? ((a.add (i * E.sz)).add j) = (E.enc x)[j]? := by
      intro i hi
      obtain ⟨cs', h1, h2⟩ := hx i (by omega)
      obtain ⟨x, rfl, hq⟩ := hel _ _ _ h2
      rw [hc] at h1
      exact ⟨x, hq, (World.cells?_some h1).2.2⟩
    have hch : ∃ X : Nat → α, ∀ i, i < len → Q (X i) ∧ ∀ j, j < E.sz → W.cell? ((a.add (i * E.sz)).add j) = (E.enc (X i))[j]? := by
      refine ⟨fun i => if hi : i < len then Classical.choose (hex i hi) else E.dflt, fun i hi => ?_⟩
      simp only [dif_pos hi]
      exact Classical.choose_spec (hex i hi)
    obtain ⟨X, hX⟩ := hch
    have hlen : ((List.range len).map X).length = len := by simp
    have hat : ∀ i, i < len → eAt E ((List.range len).map X) i = X i := by
      intro i hi
      simp [eAt, hi]
    refine ⟨(List.range len).map X, ⟨some a, cap, by rw [hlen], fun h0 => ?_⟩, by omega, fun i hi => ?_⟩
    · rw [hlen] at h0
      have hcell : ∀ i, i < len → ∀ j, j < E.sz → W.cell? ((a.add (i * E.sz)).add j) = some (eCell E ((List.range len).map X) i j) := by
        intro i hi j hj
        rw [(hX i hi).2 j hj, eCell, hat i hi, List.getElem?_eq_getElem (by rw [E.len]; exact hj)]
        rfl
      obtain ⟨b, off, spot⟩ := a
      have hspot : spot = none := by
        have := hcell 0 h0 0 E.pos
        simpa [Addr.add] using World.cell?_spot this
      subst hspot
      have hplain : ∀ i, i < len → ∀ j, j < E.sz → W.cell? ⟨b, off + i * E.sz + j, none⟩ = some (eCell E ((List.range len).map X) i j) := by
        intro i hi j hj
        have := hcell i hi j hj
        rwa [add_plain, add_plain] at this
      exact ⟨b, off, rfl, World.block_lt_of_cell? W _ (hplain 0 h0 0 E.pos), fun i hi j hj => hplain i (by omega) j hj⟩
    · rw [hlen] at hi
      rw [hat i hi]
      exact (hX i hi).1
theorem mach_laidOut : laidOutB Tryz.prog = true := by kernel_rfl
theorem list2 {α : Type} {l : List α} (h : l.length = 2) : ∃ a0 a1, l = [a0, a1] := by
  match l, h with
  | [a0, a1], _ => exact ⟨a0, a1, rfl⟩
theorem list4 {α : Type} {l : List α} (h : l.length = 4) : ∃ a0 a1 a2 a3, l = [a0, a1, a2, a3] := by
  match l, h with
  | [a0, a1, a2, a3], _ => exact ⟨a0, a1, a2, a3, rfl⟩
theorem list5 {α : Type} {l : List α} (h : l.length = 5) : ∃ a0 a1 a2 a3 a4, l = [a0, a1, a2, a3, a4] := by
  match l, h with
  | [a0, a1, a2, a3, a4], _ => exact ⟨a0, a1, a2, a3, a4, rfl⟩

theorem cellsWrite : Tryz.prog.cellsOf 141 = 2 := by kernel_rfl
def okWrite (x : WriteE) : Prop := (Lit.int .i64 x.addr).wf = true ∧ (Lit.int .u64 x.word).wf = true
set_option maxRecDepth 100000 in
theorem elWrite {H : Type} {enc : TypeId × Value → H} {W : World} {sp : Nat → Bool} (n : Nat) (cs : List Value) (y : DataW H × List MemPlace) (h : DataW.trod enc Tryz.prog W 0 sp true n 141 cs = some y) : ∃ x, cs = eWrite.enc x ∧ okWrite x := by
  obtain ⟨xs, m, _, _, hl, hlen, hf⟩ := DataW.trod_struct Tryz.underlying141 h
  rw [cellsWrite] at hl
  obtain ⟨v0, v1, rfl⟩ := list2 hl
  have h0 : DataW.trod enc Tryz.prog W 0 sp true m 3 [v0] = xs[0]? := hf 0 _ rfl
  have h1 : DataW.trod enc Tryz.prog W 0 sp true m 46 [v1] = xs[1]? := hf 1 _ rfl
  have k0 : ∃ z, xs[0]? = some z := ⟨_, List.getElem?_eq_getElem (by rw [hlen]; decide)⟩
  obtain ⟨z0, e0⟩ := k0
  rw [e0] at h0
  obtain ⟨q0, r0, _, w0⟩ := DataW.trod_int Tryz.underlying3 h0
  simp only [List.cons.injEq, and_true] at r0
  have k1 : ∃ z, xs[1]? = some z := ⟨_, List.getElem?_eq_getElem (by rw [hlen]; decide)⟩
  obtain ⟨z1, e1⟩ := k1
  rw [e1] at h1
  obtain ⟨q1, r1, _, w1⟩ := DataW.trod_int Tryz.underlying46 h1
  simp only [List.cons.injEq, and_true] at r1
  exact ⟨⟨q0, q1⟩, by rw [r0, r1]; rfl, w0, w1⟩

theorem cellsTlb : Tryz.prog.cellsOf 143 = 5 := by kernel_rfl
def okTlb (x : TlbE) : Prop := (Lit.int .i64 x.page).wf = true ∧ (Lit.int .i64 x.size).wf = true ∧ (Lit.int .i64 x.out).wf = true ∧ (Lit.int .i64 x.perm).wf = true
set_option maxRecDepth 100000 in
theorem elTlb {H : Type} {enc : TypeId × Value → H} {W : World} {sp : Nat → Bool} (n : Nat) (cs : List Value) (y : DataW H × List MemPlace) (h : DataW.trod enc Tryz.prog W 0 sp true n 143 cs = some y) : ∃ x, cs = eTlb.enc x ∧ okTlb x := by
  obtain ⟨xs, m, _, _, hl, hlen, hf⟩ := DataW.trod_struct Tryz.underlying143 h
  rw [cellsTlb] at hl
  obtain ⟨v0, v1, v2, v3, v4, rfl⟩ := list5 hl
  have h0 : DataW.trod enc Tryz.prog W 0 sp true m 3 [v0] = xs[0]? := hf 0 _ rfl
  have h1 : DataW.trod enc Tryz.prog W 0 sp true m 3 [v1] = xs[1]? := hf 1 _ rfl
  have h2 : DataW.trod enc Tryz.prog W 0 sp true m 3 [v2] = xs[2]? := hf 2 _ rfl
  have h3 : DataW.trod enc Tryz.prog W 0 sp true m 3 [v3] = xs[3]? := hf 3 _ rfl
  have h4 : DataW.trod enc Tryz.prog W 0 sp true m 4 [v4] = xs[4]? := hf 4 _ rfl
  have k0 : ∃ z, xs[0]? = some z := ⟨_, List.getElem?_eq_getElem (by rw [hlen]; decide)⟩
  obtain ⟨z0, e0⟩ := k0
  rw [e0] at h0
  obtain ⟨q0, r0, _, w0⟩ := DataW.trod_int Tryz.underlying3 h0
  simp only [List.cons.injEq, and_true] at r0
  have k1 : ∃ z, xs[1]? = some z := ⟨_, List.getElem?_eq_getElem (by rw [hlen]; decide)⟩
  obtain ⟨z1, e1⟩ := k1
  rw [e1] at h1
  obtain ⟨q1, r1, _, w1⟩ := DataW.trod_int Tryz.underlying3 h1
  simp only [List.cons.injEq, and_true] at r1
  have k2 : ∃ z, xs[2]? = some z := ⟨_, List.getElem?_eq_getElem (by rw [hlen]; decide)⟩
  obtain ⟨z2, e2⟩ := k2
  rw [e2] at h2
  obtain ⟨q2, r2, _, w2⟩ := DataW.trod_int Tryz.underlying3 h2
  simp only [List.cons.injEq, and_true] at r2
  have k3 : ∃ z, xs[3]? = some z := ⟨_, List.getElem?_eq_getElem (by rw [hlen]; decide)⟩
  obtain ⟨z3, e3⟩ := k3
  rw [e3] at h3
  obtain ⟨q3, r3, _, w3⟩ := DataW.trod_int Tryz.underlying3 h3
  simp only [List.cons.injEq, and_true] at r3
  have k4 : ∃ z, xs[4]? = some z := ⟨_, List.getElem?_eq_getElem (by rw [hlen]; decide)⟩
  obtain ⟨z4, e4⟩ := k4
  rw [e4] at h4
  obtain ⟨q4, r4, _⟩ := DataW.trod_bool Tryz.underlying4 h4
  simp only [List.cons.injEq, and_true] at r4
  exact ⟨⟨q0, q1, q2, q3, q4⟩, by rw [r0, r1, r2, r3, r4]; rfl, w0, w1, w2, w3⟩

theorem cellsWc : Tryz.prog.cellsOf 145 = 4 := by kernel_rfl
def okWc (x : WcE) : Prop := (Lit.int .i64 x.level).wf = true ∧ (Lit.int .i64 x.page).wf = true ∧ (Lit.int .i64 x.table).wf = true
set_option maxRecDepth 100000 in
theorem elWc {H : Type} {enc : TypeId × Value → H} {W : World} {sp : Nat → Bool} (n : Nat) (cs : List Value) (y : DataW H × List MemPlace) (h : DataW.trod enc Tryz.prog W 0 sp true n 145 cs = some y) : ∃ x, cs = eWc.enc x ∧ okWc x := by
  obtain ⟨xs, m, _, _, hl, hlen, hf⟩ := DataW.trod_struct Tryz.underlying145 h
  rw [cellsWc] at hl
  obtain ⟨v0, v1, v2, v3, rfl⟩ := list4 hl
  have h0 : DataW.trod enc Tryz.prog W 0 sp true m 3 [v0] = xs[0]? := hf 0 _ rfl
  have h1 : DataW.trod enc Tryz.prog W 0 sp true m 3 [v1] = xs[1]? := hf 1 _ rfl
  have h2 : DataW.trod enc Tryz.prog W 0 sp true m 3 [v2] = xs[2]? := hf 2 _ rfl
  have h3 : DataW.trod enc Tryz.prog W 0 sp true m 4 [v3] = xs[3]? := hf 3 _ rfl
  have k0 : ∃ z, xs[0]? = some z := ⟨_, List.getElem?_eq_getElem (by rw [hlen]; decide)⟩
  obtain ⟨z0, e0⟩ := k0
  rw [e0] at h0
  obtain ⟨q0, r0, _, w0⟩ := DataW.trod_int Tryz.underlying3 h0
  simp only [List.cons.injEq, and_true] at r0
  have k1 : ∃ z, xs[1]? = some z := ⟨_, List.getElem?_eq_getElem (by rw [hlen]; decide)⟩
  obtain ⟨z1, e1⟩ := k1
  rw [e1] at h1
  obtain ⟨q1, r1, _, w1⟩ := DataW.trod_int Tryz.underlying3 h1
  simp only [List.cons.injEq, and_true] at r1
  have k2 : ∃ z, xs[2]? = some z := ⟨_, List.getElem?_eq_getElem (by rw [hlen]; decide)⟩
  obtain ⟨z2, e2⟩ := k2
  rw [e2] at h2
  obtain ⟨q2, r2, _, w2⟩ := DataW.trod_int Tryz.underlying3 h2
  simp only [List.cons.injEq, and_true] at r2
  have k3 : ∃ z, xs[3]? = some z := ⟨_, List.getElem?_eq_getElem (by rw [hlen]; decide)⟩
  obtain ⟨z3, e3⟩ := k3
  rw [e3] at h3
  obtain ⟨q3, r3, _⟩ := DataW.trod_bool Tryz.underlying4 h3
  simp only [List.cons.injEq, and_true] at r3
  exact ⟨⟨q0, q1, q2, q3⟩, by rw [r0, r1, r2, r3]; rfl, w0, w1, w2⟩
end Go.Proofs.YtgabcaldjlenpabGreat
