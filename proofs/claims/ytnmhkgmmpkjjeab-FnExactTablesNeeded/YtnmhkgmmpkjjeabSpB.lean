import Derived.Test.YtnmhkgmmpkjjeabSpT
namespace Go.Proofs.Ytnmhkgmmpkjjeab
open Go.ChangeShapes Go.WideShapes Go.ChangeAt Go.RowKit
set_option linter.unusedVariables false
attribute [local go_sem ↓] Go.wp_at_zero Go.wp_at_succ

/-- The fields of a span are numbers of int. -/
def wfS (x : SpanE) : Prop := -9223372036854775808 ≤ x.page ∧ x.page ≤ 9223372036854775807 ∧ -9223372036854775808 ≤ x.count ∧ x.count ≤ 9223372036854775807 ∧ -9223372036854775808 ≤ x.out ∧ x.out ≤ 9223372036854775807 ∧ -9223372036854775808 ≤ x.perm ∧ x.perm ≤ 9223372036854775807
def spanOk (x : SpanE) : Bool := decide (1 ≤ x.count ∧ 0 ≤ x.page ∧ x.page + x.count ≤ 4096 ∧ 0 ≤ x.out ∧ x.out + x.count ≤ 65536 ∧ 1 ≤ x.perm ∧ x.perm ≤ 7)
theorem spanOk_iff {x : SpanE} : spanOk x = true ↔ (1 ≤ x.count ∧ 0 ≤ x.page ∧ x.page + x.count ≤ 4096 ∧ 0 ≤ x.out ∧ x.out + x.count ≤ 65536 ∧ 1 ≤ x.perm ∧ x.perm ≤ 7) := by simp [spanOk]
def joinsB (a b : SpanE) : Bool := decide (b.page = a.page + a.count ∧ b.out = a.out + a.count ∧ b.perm = a.perm ∧ b.huge = a.huge)
def pairOk (a b : SpanE) : Bool := decide (a.page + a.count ≤ b.page) && !joinsB a b
/-- A valid list of spans. -/
def VS (xs : List SpanE) : Prop := (∀ i, i < xs.length → spanOk (eAt eSpan xs i) = true) ∧ ∀ i, i + 1 < xs.length → pairOk (eAt eSpan xs i) (eAt eSpan xs (i + 1)) = true
def vsB (xs : List SpanE) : Bool := (List.range xs.length).all (fun i => spanOk (eAt eSpan xs i)) && (List.range (xs.length - 1)).all (fun i => pairOk (eAt eSpan xs i) (eAt eSpan xs (i + 1)))
theorem vsB_iff {xs : List SpanE} : vsB xs = true ↔ VS xs := by
  unfold vsB VS
  rw [Bool.and_eq_true, List.all_eq_true, List.all_eq_true]
  exact ⟨fun h => ⟨fun i hi => h.1 i (List.mem_range.2 hi), fun i hi => h.2 i (List.mem_range.2 (by omega))⟩, fun h => ⟨fun i hi => h.1 i (List.mem_range.1 hi), fun i hi => h.2 i (by have := List.mem_range.1 hi; omega)⟩⟩
theorem vsB_true {xs : List SpanE} (h : VS xs) : vsB xs = true := vsB_iff.2 h
theorem vsB_false {xs : List SpanE} (h : ¬ VS xs) : vsB xs = false := by
  cases hb : vsB xs
  · rfl
  · exact absurd (vsB_iff.1 hb) h
theorem VS.of_true {xs : List SpanE} (h : vsB xs = true) : VS xs := vsB_iff.1 h
end Go.Proofs.Ytnmhkgmmpkjjeab
