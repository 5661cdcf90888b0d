import Derived.Test.YtnmhkgmmpkjjeabSDrop
import Derived.Test.YtnmhkgmmpkjjeabIDrop
import Derived.Test.YtnmhkgmmpkjjeabLawDrop
import Derived.Test.YtnmhkgmmpkjjeabFrDrop
namespace Go.Proofs.Ytnmhkgmmpkjjeab
open Go.ChangeShapes Go.WideShapes Go.ChangeAt Go.RowKit
set_option linter.unusedVariables false

theorem drop_law (s : SV) (M : Mach) (which i : Int) (w : World) (hk : MOk M) (hsrc : MSrc w (s.mv M) M) : Calls Try.prog 6 #[.agg #[.slice s.a1 M.mem.length s.c1, .slice s.a2 M.pend.length s.c2, .slice s.a3 M.tlb.length s.c3, .slice s.a4 M.wc.length s.c4], .int .i64 which, .int .i64 i] w fun e w' => e = .returned (.bool true) ∧ Below w.heap.size w w' := by
  by_cases hb : M.mem.length + M.pend.length + M.tlb.length + M.wc.length ≤ 1048576
  · have hs : M.Small := ⟨by omega, by omega, by omega, by omega⟩
    exact fnexactdrop_walk s M (dropM M which i) which i w hs (dropM_small hs which i) hb hsrc
      (fun s b w h => specDrop_any s M b which i w hk hs h) (fun s b w h => implDrop_any s M b which i w hk hs h)
  · exact fnexactdrop_big s M which i w hk.w hk.p hk.t hk.c hb

/-- THE STATEMENT -/
theorem drop_proved : Rows.FnExactDropSaid :=
  OpenClaim.holds_of_wide 6 Try.f6 rfl rfl rfl rfl rfl rfl rfl ⟨rfl, rfl, rfl, rfl, rfl⟩ rfl rfl rfl rfl rfl (by kernel_rfl) Try.func6 (by kernel_rfl)
    (of_decide_eq_true (by kernel_rfl)) (by unfold Func.isWrapper; first | (rw [if_pos (by decide +kernel)]; kernel_rfl) | (rw [if_neg (by decide +kernel)]; exact ⟨rfl, rfl⟩))
    (fun os started H enc _ => fnexactdrop_lifted drop_law os started H enc)
#print axioms drop_proved
end Go.Proofs.Ytnmhkgmmpkjjeab
