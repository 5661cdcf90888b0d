import Derived.Test.YtnmhkgmmpkjjeabRows
import Derived.WalkKit
import Derived.ProofKit
import Derived.OpenShut
import Derived.Below
import Derived.Deep.OwnRows
import Derived.Deep.QuietTactic
import Derived.BigQuiet
namespace Go.Proofs.Ytnmhkgmmpkjjeab
open Go.ChangeShapes Go.WideShapes Go.ChangeAt Go.RowKit
set_option linter.unusedVariables false

theorem info_u64 : (Try.prog.info? 84).map (fun i => (i.zero, i.size, i.bytes)) = some (some (.int .u64 0), 1, 8) := by kernel_rfl

/-- Block g is a row of words of its own. -/
def IRow (w : World) (g : Nat) (zs : List Int) : Prop := w.rowIs g 84 zs.length (fun i => .int .u64 (zs.getD i 0))
theorem IRow.cell {w : World} {g : Nat} {zs : List Int} (h : IRow w g zs) {i : Nat} (hi : i < zs.length) : w.cell? ⟨g, i, none⟩ = some (.int .u64 (zs.getD i 0)) := World.rowIs.cell h hi
theorem IRow.below {w w' : World} {g B : Nat} {zs : List Int} (h : IRow w g zs) (hb : Below B w w') (hg : g < B) : IRow w' g zs := World.rowIs.of_block h (hb.block g hg)
theorem IRow.lt {w : World} {g : Nat} {zs : List Int} (h : IRow w g zs) : g < w.heap.size := World.rowIs.lt h

theorem bDrewN {B : Nat} {a w : World} (h : Below B a w) (n : Nat) : Below B a (w.drewN n) := ⟨h.os, h.tape, h.output, h.size, h.block⟩
end Go.Proofs.Ytnmhkgmmpkjjeab
