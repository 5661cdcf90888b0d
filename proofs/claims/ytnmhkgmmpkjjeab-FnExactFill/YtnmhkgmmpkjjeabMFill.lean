import Derived.Test.YtnmhkgmmpkjjeabWM
namespace Go.Proofs.Ytnmhkgmmpkjjeab
open Go.ChangeShapes Go.WideShapes Go.ChangeAt Go.RowKit
set_option linter.unusedVariables false

/-- The machine without anything. -/
def zM : Mach := ⟨[], [], [], []⟩
def zS : SV := ⟨none, 0, none, 0, none, 0, none, 0⟩
theorem ERow.nilz {α : Type} (E : Elt α) (w : World) (b : Nat) : ERow E w b (.slice none 0 0) [] := ⟨by simp [ecells], .inl ⟨rfl, rfl⟩⟩
theorem zM_row (w : World) (b : Nat) : MRow w b (zS.mv zM) zM := ⟨ERow.nilz _ _ _, ERow.nilz _ _ _, ERow.nilz _ _ _, ERow.nilz _ _ _⟩
theorem zM_apart : (zS.mv zM).apart := fun k => ⟨fun h => (by cases h), fun h => (by cases h), fun h => (by cases h)⟩
theorem zM_small : zM.Small := ⟨by simp [zM], by simp [zM], by simp [zM], by simp [zM]⟩
/-- What Fill answers. -/
def fillM (M : Mach) (page choice : Int) : Mach := if validB M && pageOk page && choiceOk choice then (walkM M page choice).1 else zM
theorem walkM_ok {M : Mach} (h : WOk M) (page choice : Int) : WOk (walkM M page choice).1 := goM_ok page choice _ h _ _ _
theorem fillM_small {M : Mach} (hk : MOk M) (page choice : Int) : (fillM M page choice).Small := by
  unfold fillM
  split
  · rename_i h
    have hv : validB M = true := by
      simp only [Bool.and_eq_true] at h
      exact h.1.1
    exact (walkM_ok (WOk.of hk hv) page choice).small
  · exact zM_small
end Go.Proofs.Ytnmhkgmmpkjjeab
