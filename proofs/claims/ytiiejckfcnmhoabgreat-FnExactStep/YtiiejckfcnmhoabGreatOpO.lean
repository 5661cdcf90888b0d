import Derived.Test.YtiiejckfcnmhoabGreatMStep
namespace Go.Proofs.YtiiejckfcnmhoabGreat
open Go.ChangeShapes Go.WideShapes Go.ChangeAt Go.RowKit
set_option linter.unusedVariables false
theorem u64_lt {x : Int} (h : (Lit.int .u64 x).wf = true) : 0 ≤ x ∧ x < 2 ^ 64 := by
  have := bounds_u64 h
  omega
theorem cellsOpL : Tryz.prog.cellsOf 48 = 4 := by kernel_rfl
set_option maxRecDepth 100000 in
set_option maxHeartbeats 1000000 in
theorem elOp {H : Type} {enc : TypeId × Value → H} {W : World} {sp : Nat → Bool} (n : Nat) (cs : List Value) (y : DataW H × List MemPlace) (h : DataW.trod enc Tryz.prog W 0 sp true n 48 cs = some y) : ∃ x : OpE, cs = [.int .i64 x.kind, .int .i64 x.a, .int .i64 x.b, .int .u64 x.word] ∧ OpOk x := by
  obtain ⟨xs, m, _, _, hl, hlen, hf⟩ := DataW.trod_struct Tryz.underlying48 h
  rw [cellsOpL] at hl
  obtain ⟨v0, v1, v2, v3, rfl⟩ := list4 hl
  have h0 : DataW.trod enc Tryz.prog W 0 sp true m 3 [v0] = xs[0]? := hf 0 _ rfl
  have k0 : ∃ z, xs[0]? = some z := ⟨_, List.getElem?_eq_getElem (by rw [hlen]; decide)⟩
  obtain ⟨z0, e0⟩ := k0
  rw [e0] at h0
  obtain ⟨q0, r0, _, w0⟩ := DataW.trod_int Tryz.underlying3 h0
  simp only [List.cons.injEq, and_true] at r0
  have h1 : DataW.trod enc Tryz.prog W 0 sp true m 3 [v1] = xs[1]? := hf 1 _ rfl
  have k1 : ∃ z, xs[1]? = some z := ⟨_, List.getElem?_eq_getElem (by rw [hlen]; decide)⟩
  obtain ⟨z1, e1⟩ := k1
  rw [e1] at h1
  obtain ⟨q1, r1, _, w1⟩ := DataW.trod_int Tryz.underlying3 h1
  simp only [List.cons.injEq, and_true] at r1
  have h2 : DataW.trod enc Tryz.prog W 0 sp true m 3 [v2] = xs[2]? := hf 2 _ rfl
  have k2 : ∃ z, xs[2]? = some z := ⟨_, List.getElem?_eq_getElem (by rw [hlen]; decide)⟩
  obtain ⟨z2, e2⟩ := k2
  rw [e2] at h2
  obtain ⟨q2, r2, _, w2⟩ := DataW.trod_int Tryz.underlying3 h2
  simp only [List.cons.injEq, and_true] at r2
  have h3 : DataW.trod enc Tryz.prog W 0 sp true m 46 [v3] = xs[3]? := hf 3 _ rfl
  have k3 : ∃ z, xs[3]? = some z := ⟨_, List.getElem?_eq_getElem (by rw [hlen]; decide)⟩
  obtain ⟨z3, e3⟩ := k3
  rw [e3] at h3
  obtain ⟨q3, r3, _, w3⟩ := DataW.trod_int Tryz.underlying46 h3
  simp only [List.cons.injEq, and_true] at r3
  exact ⟨⟨q0, q1, q2, q3⟩, by rw [r0, r1, r2, r3], ⟨bounds_i64 w0, bounds_i64 w1, bounds_i64 w2, u64_lt w3⟩⟩
end Go.Proofs.YtiiejckfcnmhoabGreat
