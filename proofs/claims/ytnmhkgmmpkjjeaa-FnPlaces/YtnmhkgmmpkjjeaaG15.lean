import Derived.Test.YtnmhkgmmpkjjeaaG01
namespace Go.Proofs.Ytnmhkgmmpkjjeaa
open Go.ChangeShapes Go.WideShapes Go.ChangeAt Go.RowKit
set_option linter.unusedVariables false
attribute [local go_sem ↓] Go.wp_at_zero Go.wp_at_succ

structure TlbE where
  page : Int
  size : Int
  out : Int
  perm : Int
  doom : Bool
def eTlb : Elt TlbE := ⟨72, 5, fun x => [.int .i64 x.page, .int .i64 x.size, .int .i64 x.out, .int .i64 x.perm, .bool x.doom], ⟨0, 0, 0, 0, false⟩, by omega, fun _ => rfl⟩
theorem infoTlb : (Try.prog.info? 72).map (fun i => (i.zero, i.size, i.bytes)) = some (some (.agg #[.int .i64 0, .int .i64 0, .int .i64 0, .int .i64 0, .bool false]), 5, 40) := by kernel_rfl

/-- What is in cell j of element i when the slice has been marked from s on. -/
def markTlb (s : Int) (i j : Nat) : Value :=
  match j with
  | 0 => .int .i64 (s + i * 5)
  | 1 => .int .i64 (s + i * 5 + 1)
  | 2 => .int .i64 (s + i * 5 + 1 + 1)
  | 3 => .int .i64 (s + i * 5 + 1 + 1 + 1)
  | 4 => .bool ((s + i * 5 + 1 + 1 + 1 + 1) % 3 == 0)
  | _ => .bool false

end Go.Proofs.Ytnmhkgmmpkjjeaa
