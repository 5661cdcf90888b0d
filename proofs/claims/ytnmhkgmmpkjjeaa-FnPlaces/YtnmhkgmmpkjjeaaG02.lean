import Derived.Test.YtnmhkgmmpkjjeaaRows
import Derived.WalkKit
import Derived.ProofKit
import Derived.OpenShut
import Derived.Below
import Derived.Deep.OwnRows
import Derived.Deep.QuietTactic
import Derived.BigQuiet
import Derived.Test.YtnmhkgmmpkjjeaaG01
namespace Go.Proofs.Ytnmhkgmmpkjjeaa
open Go.ChangeShapes Go.WideShapes Go.ChangeAt Go.RowKit
set_option linter.unusedVariables false

theorem info_u64 : (Try.prog.info? 61).map (fun i => (i.zero, i.size, i.bytes)) = some (some (.int .u64 0), 1, 8) := by kernel_rfl

/-- Block g is a row of words of its own. -/
def IRow (w : World) (g : Nat) (zs : List Int) : Prop := w.rowIs g 61 zs.length (fun i => .int .u64 (zs.getD i 0))
theorem IRow.cell {w : World} {g : Nat} {zs : List Int} (h : IRow w g zs) {i : Nat} (hi : i < zs.length) : w.cell? ⟨g, i, none⟩ = some (.int .u64 (zs.getD i 0)) := World.rowIs.cell h hi
theorem IRow.below {w w' : World} {g B : Nat} {zs : List Int} (h : IRow w g zs) (hb : Below B w w') (hg : g < B) : IRow w' g zs := World.rowIs.of_block h (hb.block g hg)
theorem IRow.lt {w : World} {g : Nat} {zs : List Int} (h : IRow w g zs) : g < w.heap.size := World.rowIs.lt h

theorem bDrewN {B : Nat} {a w : World} (h : Below B a w) (n : Nat) : Below B a (w.drewN n) := ⟨h.os, h.tape, h.output, h.size, h.block⟩
end Go.Proofs.Ytnmhkgmmpkjjeaa
namespace Go.Proofs.Ytnmhkgmmpkjjeaa
open Go.ChangeShapes Go.WideShapes Go.ChangeAt Go.RowKit
set_option linter.unusedVariables false

/-- A slice of words that can be read. -/
def Src (w : World) (v : Value) (zs : List Int) : Prop :=
  ∃ (a : Option Addr) (cap : Nat), v = .slice a zs.length cap ∧ (0 < zs.length → ∃ b o, a = some ⟨b, o, none⟩ ∧ b < w.heap.size ∧ ∀ i, i < zs.length → w.cell? ⟨b, o + i, none⟩ = some (.int .u64 (zs.getD i 0)))

end Go.Proofs.Ytnmhkgmmpkjjeaa
namespace Go.Proofs.Ytnmhkgmmpkjjeaa
open Go.ChangeShapes Go.WideShapes Go.ChangeAt Go.RowKit
set_option linter.unusedVariables false
attribute [local go_sem ↓] Go.wp_at_zero Go.wp_at_succ

def eWord : Elt Int := ⟨61, 1, fun x => [.int .u64 x], 0, by omega, fun _ => rfl⟩
theorem IRow.erow {w : World} {g base : Nat} {zs : List Int} (h : IRow w g zs) (hb : base ≤ g) (hn : zs.length ≤ 1048576) : ERow eWord w base (.slice (some ⟨g, 0, none⟩) zs.length zs.length) zs := by
  refine ERow.of_row (cap := zs.length) rfl hb h (by simp [eWord]) (Nat.le_refl _) (by unfold maxLen; omega) ?_
  intro i hi j hj
  have : j = 0 := by simp [eWord] at hj; omega
  subst this
  simp [eCell, eWord, eAt]
/-- A slice of words, cell by cell. -/
theorem eWord_form {w : World} {base : Nat} {v : Value} {zs : List Int} (h : ERow eWord w base v zs) : ∃ a cap, v = .slice a zs.length cap ∧ (0 < zs.length → ∃ g N f, a = some ⟨g, 0, none⟩ ∧ base ≤ g ∧ w.rowIs g 61 N f ∧ zs.length ≤ N ∧ ∀ i, i < zs.length → f i = .int .u64 (zs.getD i 0)) := by
  obtain ⟨a, c, e, ha⟩ := h.form
  refine ⟨a, c, e, fun h0 => ?_⟩
  obtain ⟨g, N, f, p, q, r, s, t⟩ := ha h0
  refine ⟨g, N, f, p, q, r, by simpa [eWord] using s, fun i hi => ?_⟩
  have := t i hi 0 (by decide)
  simpa [eCell, eWord, eAt] using this

def markWord (s : Int) (i _j : Nat) : Value := .int .u64 (s + i)
end Go.Proofs.Ytnmhkgmmpkjjeaa
