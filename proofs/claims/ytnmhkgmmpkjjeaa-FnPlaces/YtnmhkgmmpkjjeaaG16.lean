import Derived.Test.YtnmhkgmmpkjjeaaG01
namespace Go.Proofs.Ytnmhkgmmpkjjeaa
open Go.ChangeShapes Go.WideShapes Go.ChangeAt Go.RowKit
set_option linter.unusedVariables false
attribute [local go_sem ↓] Go.wp_at_zero Go.wp_at_succ

structure WcE where
  level : Int
  page : Int
  table : Int
  doom : Bool
def eWc : Elt WcE := ⟨74, 4, fun x => [.int .i64 x.level, .int .i64 x.page, .int .i64 x.table, .bool x.doom], ⟨0, 0, 0, false⟩, by omega, fun _ => rfl⟩
theorem infoWc : (Try.prog.info? 74).map (fun i => (i.zero, i.size, i.bytes)) = some (some (.agg #[.int .i64 0, .int .i64 0, .int .i64 0, .bool false]), 4, 32) := by kernel_rfl

/-- What is in cell j of element i when the slice has been marked from s on. -/
def markWc (s : Int) (i j : Nat) : Value :=
  match j with
  | 0 => .int .i64 (s + i * 4)
  | 1 => .int .i64 (s + i * 4 + 1)
  | 2 => .int .i64 (s + i * 4 + 1 + 1)
  | 3 => .bool ((s + i * 4 + 1 + 1 + 1) % 3 == 0)
  | _ => .bool false

end Go.Proofs.Ytnmhkgmmpkjjeaa
