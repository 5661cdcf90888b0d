import Derived.Test.YtnmhkgmmpkjjeabMachT
import Derived.Test.YtnmhkgmmpkjjeabEOpen
namespace Go.Proofs.Ytnmhkgmmpkjjeab
open Go.ChangeShapes Go.WideShapes Go.ChangeAt Go.RowKit
set_option linter.unusedVariables false

theorem cellsWrite : Try.prog.cellsOf 185 = 2 := by kernel_rfl
def okWrite (x : WriteE) : Prop := (Lit.int .i64 x.addr).wf = true ∧ (Lit.int .u64 x.word).wf = true
set_option maxRecDepth 100000 in
theorem elWrite {H : Type} {enc : TypeId × Value → H} {W : World} {sp : Nat → Bool} (n : Nat) (cs : List Value) (y : DataW H × List MemPlace) (h : DataW.trod enc Try.prog W 0 sp true n 185 cs = some y) : ∃ x, cs = eWrite.enc x ∧ okWrite x := by
  obtain ⟨xs, m, _, _, hl, hlen, hf⟩ := DataW.trod_struct Try.underlying185 h
  rw [cellsWrite] at hl
  obtain ⟨v0, v1, rfl⟩ := list2 hl
  have h0 : DataW.trod enc Try.prog W 0 sp true m 3 [v0] = xs[0]? := hf 0 _ rfl
  have h1 : DataW.trod enc Try.prog W 0 sp true m 84 [v1] = xs[1]? := hf 1 _ rfl
  have k0 : ∃ z, xs[0]? = some z := ⟨_, List.getElem?_eq_getElem (by rw [hlen]; decide)⟩
  obtain ⟨z0, e0⟩ := k0
  rw [e0] at h0
  obtain ⟨q0, r0, _, w0⟩ := DataW.trod_int Try.underlying3 h0
  simp only [List.cons.injEq, and_true] at r0
  have k1 : ∃ z, xs[1]? = some z := ⟨_, List.getElem?_eq_getElem (by rw [hlen]; decide)⟩
  obtain ⟨z1, e1⟩ := k1
  rw [e1] at h1
  obtain ⟨q1, r1, _, w1⟩ := DataW.trod_int Try.underlying84 h1
  simp only [List.cons.injEq, and_true] at r1
  exact ⟨⟨q0, q1⟩, by rw [r0, r1]; rfl, w0, w1⟩

theorem cellsTlb : Try.prog.cellsOf 187 = 5 := by kernel_rfl
def okTlb (x : TlbE) : Prop := (Lit.int .i64 x.page).wf = true ∧ (Lit.int .i64 x.size).wf = true ∧ (Lit.int .i64 x.out).wf = true ∧ (Lit.int .i64 x.perm).wf = true
set_option maxRecDepth 100000 in
theorem elTlb {H : Type} {enc : TypeId × Value → H} {W : World} {sp : Nat → Bool} (n : Nat) (cs : List Value) (y : DataW H × List MemPlace) (h : DataW.trod enc Try.prog W 0 sp true n 187 cs = some y) : ∃ x, cs = eTlb.enc x ∧ okTlb x := by
  obtain ⟨xs, m, _, _, hl, hlen, hf⟩ := DataW.trod_struct Try.underlying187 h
  rw [cellsTlb] at hl
  obtain ⟨v0, v1, v2, v3, v4, rfl⟩ := list5 hl
  have h0 : DataW.trod enc Try.prog W 0 sp true m 3 [v0] = xs[0]? := hf 0 _ rfl
  have h1 : DataW.trod enc Try.prog W 0 sp true m 3 [v1] = xs[1]? := hf 1 _ rfl
  have h2 : DataW.trod enc Try.prog W 0 sp true m 3 [v2] = xs[2]? := hf 2 _ rfl
  have h3 : DataW.trod enc Try.prog W 0 sp true m 3 [v3] = xs[3]? := hf 3 _ rfl
  have h4 : DataW.trod enc Try.prog W 0 sp true m 4 [v4] = xs[4]? := hf 4 _ rfl
  have k0 : ∃ z, xs[0]? = some z := ⟨_, List.getElem?_eq_getElem (by rw [hlen]; decide)⟩
  obtain ⟨z0, e0⟩ := k0
  rw [e0] at h0
  obtain ⟨q0, r0, _, w0⟩ := DataW.trod_int Try.underlying3 h0
  simp only [List.cons.injEq, and_true] at r0
  have k1 : ∃ z, xs[1]? = some z := ⟨_, List.getElem?_eq_getElem (by rw [hlen]; decide)⟩
  obtain ⟨z1, e1⟩ := k1
  rw [e1] at h1
  obtain ⟨q1, r1, _, w1⟩ := DataW.trod_int Try.underlying3 h1
  simp only [List.cons.injEq, and_true] at r1
  have k2 : ∃ z, xs[2]? = some z := ⟨_, List.getElem?_eq_getElem (by rw [hlen]; decide)⟩
  obtain ⟨z2, e2⟩ := k2
  rw [e2] at h2
  obtain ⟨q2, r2, _, w2⟩ := DataW.trod_int Try.underlying3 h2
  simp only [List.cons.injEq, and_true] at r2
  have k3 : ∃ z, xs[3]? = some z := ⟨_, List.getElem?_eq_getElem (by rw [hlen]; decide)⟩
  obtain ⟨z3, e3⟩ := k3
  rw [e3] at h3
  obtain ⟨q3, r3, _, w3⟩ := DataW.trod_int Try.underlying3 h3
  simp only [List.cons.injEq, and_true] at r3
  have k4 : ∃ z, xs[4]? = some z := ⟨_, List.getElem?_eq_getElem (by rw [hlen]; decide)⟩
  obtain ⟨z4, e4⟩ := k4
  rw [e4] at h4
  obtain ⟨q4, r4, _⟩ := DataW.trod_bool Try.underlying4 h4
  simp only [List.cons.injEq, and_true] at r4
  exact ⟨⟨q0, q1, q2, q3, q4⟩, by rw [r0, r1, r2, r3, r4]; rfl, w0, w1, w2, w3⟩

theorem cellsWc : Try.prog.cellsOf 189 = 4 := by kernel_rfl
def okWc (x : WcE) : Prop := (Lit.int .i64 x.level).wf = true ∧ (Lit.int .i64 x.page).wf = true ∧ (Lit.int .i64 x.table).wf = true
set_option maxRecDepth 100000 in
theorem elWc {H : Type} {enc : TypeId × Value → H} {W : World} {sp : Nat → Bool} (n : Nat) (cs : List Value) (y : DataW H × List MemPlace) (h : DataW.trod enc Try.prog W 0 sp true n 189 cs = some y) : ∃ x, cs = eWc.enc x ∧ okWc x := by
  obtain ⟨xs, m, _, _, hl, hlen, hf⟩ := DataW.trod_struct Try.underlying189 h
  rw [cellsWc] at hl
  obtain ⟨v0, v1, v2, v3, rfl⟩ := list4 hl
  have h0 : DataW.trod enc Try.prog W 0 sp true m 3 [v0] = xs[0]? := hf 0 _ rfl
  have h1 : DataW.trod enc Try.prog W 0 sp true m 3 [v1] = xs[1]? := hf 1 _ rfl
  have h2 : DataW.trod enc Try.prog W 0 sp true m 3 [v2] = xs[2]? := hf 2 _ rfl
  have h3 : DataW.trod enc Try.prog W 0 sp true m 4 [v3] = xs[3]? := hf 3 _ rfl
  have k0 : ∃ z, xs[0]? = some z := ⟨_, List.getElem?_eq_getElem (by rw [hlen]; decide)⟩
  obtain ⟨z0, e0⟩ := k0
  rw [e0] at h0
  obtain ⟨q0, r0, _, w0⟩ := DataW.trod_int Try.underlying3 h0
  simp only [List.cons.injEq, and_true] at r0
  have k1 : ∃ z, xs[1]? = some z := ⟨_, List.getElem?_eq_getElem (by rw [hlen]; decide)⟩
  obtain ⟨z1, e1⟩ := k1
  rw [e1] at h1
  obtain ⟨q1, r1, _, w1⟩ := DataW.trod_int Try.underlying3 h1
  simp only [List.cons.injEq, and_true] at r1
  have k2 : ∃ z, xs[2]? = some z := ⟨_, List.getElem?_eq_getElem (by rw [hlen]; decide)⟩
  obtain ⟨z2, e2⟩ := k2
  rw [e2] at h2
  obtain ⟨q2, r2, _, w2⟩ := DataW.trod_int Try.underlying3 h2
  simp only [List.cons.injEq, and_true] at r2
  have k3 : ∃ z, xs[3]? = some z := ⟨_, List.getElem?_eq_getElem (by rw [hlen]; decide)⟩
  obtain ⟨z3, e3⟩ := k3
  rw [e3] at h3
  obtain ⟨q3, r3, _⟩ := DataW.trod_bool Try.underlying4 h3
  simp only [List.cons.injEq, and_true] at r3
  exact ⟨⟨q0, q1, q2, q3⟩, by rw [r0, r1, r2, r3]; rfl, w0, w1, w2⟩
end Go.Proofs.Ytnmhkgmmpkjjeab
