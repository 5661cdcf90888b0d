import Derived.Test.YtnmhkgmmpkjjeabWM
namespace Go.Proofs.Ytnmhkgmmpkjjeab
open Go.ChangeShapes Go.WideShapes Go.ChangeAt Go.RowKit
set_option linter.unusedVariables false
def oBlk (a : Option Addr) : Option Nat := (Value.slice a 0 0).ownBlock
theorem own_blk (a : Option Addr) (n c : Nat) : (Value.slice a n c).ownBlock = oBlk a := by
  unfold oBlk
  rcases a with _ | ⟨b, o, sp⟩ <;> rfl
end Go.Proofs.Ytnmhkgmmpkjjeab
