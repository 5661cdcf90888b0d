import Derived.Test.YtnmhkgmmpkjjeabUState
namespace Go.Proofs.Ytnmhkgmmpkjjeab
open Go.ChangeShapes Go.WideShapes Go.ChangeAt Go.RowKit
set_option linter.unusedVariables false

def lateTo (M : Mach) (k : Nat) : List Int := (M.pend.take k).foldl (fun z e => z.set e.addr.toNat e.word) M.mem
theorem lateTo_zero (M : Mach) : lateTo M 0 = M.mem := rfl
theorem lateTo_succ (M : Mach) (k : Nat) (hk : k < M.pend.length) : lateTo M (k + 1) = (lateTo M k).set (eAt eWrite M.pend k).addr.toNat (eAt eWrite M.pend k).word := by
  unfold lateTo
  rw [List.take_add_one, List.foldl_append]
  have : M.pend[k]? = some (eAt eWrite M.pend k) := by
    unfold eAt
    rw [List.getD_eq_getElem?_getD, List.getElem?_eq_getElem hk]
    rfl
  rw [this]
  rfl
theorem lateTo_all (M : Mach) : lateTo M M.pend.length = lateL M := by
  unfold lateTo lateL
  rw [List.take_length]
theorem lateTo_length (M : Mach) : ∀ k, k ≤ M.pend.length → (lateTo M k).length = M.mem.length
  | 0, _ => rfl
  | k + 1, hk => by rw [lateTo_succ M k (by omega), List.length_set]; exact lateTo_length M k (by omega)
theorem lateL_length (M : Mach) : (lateL M).length = M.mem.length := by
  rw [← lateTo_all]; exact lateTo_length M _ (Nat.le_refl _)
theorem late_read (M : Mach) (A : Nat) (hA : A < M.mem.length) (hp : ∀ i, i < M.pend.length → 0 ≤ (eAt eWrite M.pend i).addr) : ∀ k, k ≤ M.pend.length → (lateTo M k).getD A 0 = readTo M A k
  | 0, _ => by simp [lateTo, readTo]
  | k + 1, hk => by
    have ih := late_read M A hA hp k (by omega)
    have hl := lateTo_length M k (by omega)
    have h0 := hp k (by omega)
    rw [lateTo_succ M k (by omega)]
    unfold readTo
    rw [List.getD_eq_getElem?_getD, List.getElem?_set]
    by_cases h : (eAt eWrite M.pend k).addr = (A : Int)
    · rw [if_pos (by omega), if_pos h, if_pos (by omega)]
      rfl
    · rw [if_neg (by omega), if_neg h, ← List.getD_eq_getElem?_getD]
      exact ih
theorem lateL_read (M : Mach) (A : Nat) (hA : A < M.mem.length) (hp : ∀ i, i < M.pend.length → 0 ≤ (eAt eWrite M.pend i).addr) : (lateL M).getD A 0 = readTo M A M.pend.length := by
  rw [← lateTo_all]; exact late_read M A hA hp _ (Nat.le_refl _)
end Go.Proofs.Ytnmhkgmmpkjjeab
