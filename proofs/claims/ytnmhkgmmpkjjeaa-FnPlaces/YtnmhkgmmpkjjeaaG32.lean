import Derived.Test.YtnmhkgmmpkjjeaaRows
import Derived.Test.YtnmhkgmmpkjjeaaG01
namespace Go.Proofs.Ytnmhkgmmpkjjeaa
open Go.ChangeShapes Go.WideShapes Go.ChangeAt Go.RowKit
set_option linter.unusedVariables false
def eInt : Elt Int := ⟨3, 1, fun x => [.int .i64 x], 0, by omega, fun _ => rfl⟩
theorem infoInt : (Try.prog.info? 3).map (fun i => (i.zero, i.size, i.bytes)) = some (some (.int .i64 0), 1, 8) := by kernel_rfl
theorem eInt_cells {w : World} {b g c : Nat} {xs : List Int} (h : ERow eInt w b (.slice (some ⟨g, 0, none⟩) xs.length c) xs) (i : Nat) (hi : i < xs.length) : g < w.heap.size ∧ w.cell? ⟨g, i, none⟩ = some (.int .i64 (eAt eInt xs i)) := by
  obtain ⟨a, c', e, h1⟩ := h.form
  obtain ⟨g', N, f, e2, _, hr, hN, hf⟩ := h1 (by omega)
  have hN' : xs.length * 1 ≤ N := hN
  simp only [Value.slice.injEq] at e
  obtain ⟨e, _, _⟩ := e
  rw [e2] at e
  simp only [Option.some.injEq, Addr.mk.injEq, and_true] at e
  subst e
  have h5 := hf i hi 0 (by decide)
  have e5 : i * eInt.sz + 0 = i := by show i * 1 + 0 = i; omega
  rw [e5] at h5
  exact ⟨hr.lt, by rw [hr.cell (i := i) (by omega)]; exact congrArg some h5⟩
end Go.Proofs.Ytnmhkgmmpkjjeaa
