import Derived.Test.YtnmhkgmmpkjjeabERow
namespace Go.Proofs.Ytnmhkgmmpkjjeab
open Go.ChangeShapes Go.WideShapes Go.ChangeAt Go.RowKit
set_option linter.unusedVariables false
attribute [local go_sem ↓] Go.wp_at_zero Go.wp_at_succ

structure SpanE where
  page : Int
  count : Int
  out : Int
  perm : Int
  huge : Bool
def eSpan : Elt SpanE := ⟨127, 5, fun x => [.int .i64 x.page, .int .i64 x.count, .int .i64 x.out, .int .i64 x.perm, .bool x.huge], ⟨0, 0, 0, 0, false⟩, by omega, fun _ => rfl⟩
theorem infoSpan : (Try.prog.info? 127).map (fun i => (i.zero, i.size, i.bytes)) = some (some (.agg #[.int .i64 0, .int .i64 0, .int .i64 0, .int .i64 0, .bool false]), 5, 40) := by kernel_rfl

end Go.Proofs.Ytnmhkgmmpkjjeab
