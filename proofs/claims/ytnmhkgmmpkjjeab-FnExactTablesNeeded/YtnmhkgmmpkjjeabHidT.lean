import Derived.WalkKit
import Derived.ProofKit
import Derived.Below
namespace Go.Proofs.Ytnmhkgmmpkjjeab
open Go.ChangeShapes Go.WideShapes Go.ChangeAt Go.RowKit
theorem hidOf {p : Prop} (h : p) : Hid p := h
end Go.Proofs.Ytnmhkgmmpkjjeab
