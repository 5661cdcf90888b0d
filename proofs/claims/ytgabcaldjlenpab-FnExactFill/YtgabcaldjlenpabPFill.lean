import Derived.Test.YtgabcaldjlenpabSFill
import Derived.Test.YtgabcaldjlenpabIFill
import Derived.Test.YtgabcaldjlenpabLawFill
import Derived.Test.YtgabcaldjlenpabFrFill
namespace Go.Proofs.Ytgabcaldjlenpab
open Go.ChangeShapes Go.WideShapes Go.ChangeAt Go.RowKit
set_option linter.unusedVariables false

theorem fill_law (s : SV) (M : Mach) (page choice : Int) (w : World) (hk : MOk M) (hsrc : MSrc w (s.mv M) M) : Calls Try.prog 5 #[.agg #[.slice s.a1 M.mem.length s.c1, .slice s.a2 M.pend.length s.c2, .slice s.a3 M.tlb.length s.c3, .slice s.a4 M.wc.length s.c4], .int .i64 page, .int .i64 choice] w fun e w' => e = .returned (.bool true) ∧ Below w.heap.size w w' := by
  by_cases hb : M.mem.length + M.pend.length + M.tlb.length + M.wc.length ≤ 1048576
  · have hs : M.Small := ⟨by omega, by omega, by omega, by omega⟩
    exact fnexactfill_walk s M (fillM M page choice) page choice w hs (fillM_small hk page choice) hb hsrc
      (fun s b w h => specFill_any s M b page choice w hk hs h) (fun s b w h => implFill_any s M b page choice w hk hs h)
  · exact fnexactfill_big s M page choice w hk.w hk.p hk.t hk.c hb

/-- THE STATEMENT -/
theorem fill_proved : Rows.FnExactFillSaid :=
  OpenClaim.holds_of_wide 5 Try.f5 rfl rfl rfl rfl rfl rfl rfl ⟨rfl, rfl, rfl, rfl, rfl⟩ rfl rfl rfl rfl rfl (by kernel_rfl) Try.func5 (by kernel_rfl)
    (of_decide_eq_true (by kernel_rfl)) (by unfold Func.isWrapper; first | (rw [if_pos (by decide +kernel)]; kernel_rfl) | (rw [if_neg (by decide +kernel)]; exact ⟨rfl, rfl⟩))
    (fun os started H enc _ => fnexactfill_lifted fill_law os started H enc)
#print axioms fill_proved
end Go.Proofs.Ytgabcaldjlenpab
