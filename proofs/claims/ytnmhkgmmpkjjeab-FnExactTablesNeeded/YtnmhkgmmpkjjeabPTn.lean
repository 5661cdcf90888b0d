import Derived.Test.YtnmhkgmmpkjjeabTnI
import Derived.Test.YtnmhkgmmpkjjeabRowSpan
import Derived.Test.YtnmhkgmmpkjjeabSpOpen
namespace Go.Proofs.Ytnmhkgmmpkjjeab
open Go.ChangeShapes Go.WideShapes Go.ChangeAt Go.RowKit
set_option linter.unusedVariables false
attribute [local go_sem ↓] Go.wp_at_zero Go.wp_at_succ

theorem tnl_big (a : Option Addr) (n cap : Nat) (w : World) (h1 : n ≤ 9223372036854775807) (hb : ¬ n ≤ 1048576) :
    Calls Try.prog 11 #[.slice a n cap] w fun e w' => e = .returned (.bool true) ∧ Below w.heap.size w w' := by
  have hs := szSpan_any a n cap 1048576 h1 (by omega) (by omega)
  rw [if_neg (by omega)] at hs
  go_enter Try.func11, Try.ntmps11
  go_wp2_with (go_at_call 35; refine (hs _).mono ?_; rintro e w1 ⟨rfl, rfl⟩)
  go_ret
  exact ⟨rfl, Below.refl _ _⟩

set_option maxHeartbeats 2000000 in
theorem tnl_walk (a : Option Addr) (cap : Nat) (xs : List SpanE) (VB : Int) (w : World) (hn : xs.length ≤ 1048576) (hv : ESrc eSpan w (.slice a xs.length cap) xs)
    (hS : ∀ (g b : Nat) (w : World), ERow eSpan w b (.slice (some ⟨g, 0, none⟩) xs.length xs.length) xs → Calls Try.prog 47 #[.slice (some ⟨g, 0, none⟩) xs.length xs.length] w fun e w' => e = .returned (.int .i64 VB) ∧ Below w.heap.size w w')
    (hI : ∀ (g b : Nat) (w : World), ERow eSpan w b (.slice (some ⟨g, 0, none⟩) xs.length xs.length) xs → Calls Try.prog 48 #[.slice (some ⟨g, 0, none⟩) xs.length xs.length] w fun e w' => e = .returned (.int .i64 VB) ∧ Below w.heap.size w w') :
    Calls Try.prog 11 #[.slice a xs.length cap] w fun e w' => e = .returned (.bool true) ∧ Below w.heap.size w w' := by
  have hsz := szSpan_any a xs.length cap 1048576 (by omega) (by omega) (by omega)
  rw [if_pos (by omega)] at hsz
  have d0 : decide ((1048576 : Int) - xs.length < 0) = false := by simp; omega
  have hcc : (VB != VB) = false := by simp
  have HTO : Hid (∀ wX, Below w.heap.size w wX → Calls Try.prog 37 #[.slice a xs.length cap] wX fun e w' => e = .returned (.slice (some ⟨wX.heap.size, 0, none⟩) xs.length xs.length) ∧ ERow eSpan w' wX.heap.size (.slice (some ⟨wX.heap.size, 0, none⟩) xs.length xs.length) xs ∧ Below wX.heap.size wX w') :=
    fun wX hX => toSpanS_any _ xs wX (hv.at hX) hn
  have HS : Hid _ := hS
  have HI : Hid _ := hI
  clear hv hS hI
  go_enter Try.func11, Try.ntmps11
  go_wp2_with fail
  refine (hsz _).mono ?_
  rintro e w0 ⟨rfl, rfl⟩
  go_wp2_with fail
  refine (HTO.out _ (Below.refl _ _)).mono ?_
  rintro e w1 ⟨rfl, hr1, hb1⟩
  have h2 := HS.out _ _ w1 hr1
  clear hr1
  go_wp2_with fail
  refine h2.mono ?_
  rintro e w2 ⟨rfl, hb2⟩
  have b2 : Below w0.heap.size w0 w2 := hb1.trans (hb2.mono hb1.size)
  clear h2 hb1 hb2
  go_wp2_with fail
  refine (HTO.out w2 b2).mono ?_
  rintro e w3 ⟨rfl, hr3, hb3⟩
  have h4 := HI.out _ _ w3 hr3
  have b3 : Below w0.heap.size w0 w3 := b2.trans (hb3.mono b2.size)
  have HR3 : Hid (ERow eSpan w3 w2.heap.size (.slice (some ⟨w2.heap.size, 0, none⟩) xs.length xs.length) xs) := hr3
  clear hr3 hb3 b2
  go_wp2_with fail
  refine h4.mono ?_
  rintro e w4 ⟨rfl, hb4⟩
  have b4 : Below w0.heap.size w0 w4 := b3.trans (hb4.mono b3.size)
  have HR4 : Hid (∀ wX, Below w4.heap.size w4 wX → ERow eSpan wX w2.heap.size (.slice (some ⟨w2.heap.size, 0, none⟩) xs.length xs.length) xs) := fun wX hX => (HR3.out.below hb4).below hX
  clear h4 hb4 b3
  go_wp2_with fail
  refine (HTO.out w4 b4).mono ?_
  rintro e w5 ⟨rfl, hr5, hb5⟩
  have b5 : Below w0.heap.size w0 w5 := b4.trans (hb5.mono b4.size)
  have h6 := eqSpanS_same _ _ _ _ xs w5 hn (HR4.out w5 hb5) hr5
  clear hr5 hb5
  go_wp2_with fail
  refine h6.mono ?_
  rintro e w6 ⟨rfl, hb6⟩
  have b6 : Below w0.heap.size w0 w6 := b5.trans (hb6.mono b5.size)
  clear h6 hb6
  go_wp2_with fail
  go_ret
  exact ⟨rfl, b6⟩

theorem tnl_own : ownKnob Try.prog.godebug = none := by kernel_rfl
theorem tnl_any (a : Option Addr) (cap : Nat) (xs : List SpanE) (w : World) (hm : xs.length ≤ 9223372036854775807) (hq : ∀ i, i < xs.length → okSpan (eAt eSpan xs i)) (hv : ESrc eSpan w (.slice a xs.length cap) xs) :
    Calls Try.prog 11 #[.slice a xs.length cap] w fun e w' => e = .returned (.bool true) ∧ Below w.heap.size w w' := by
  have hwf : ∀ i, i < xs.length → wfS (eAt eSpan xs i) := fun i hi => (hq i hi).wf
  by_cases hb : xs.length ≤ 1048576
  · exact tnl_walk a cap xs (tnF xs) w hb hv (fun g b w h => specTN_any _ _ b xs w hb hwf h) (fun g b w h => implTN_any _ _ b xs w hb hwf h)
  · exact tnl_big a xs.length cap w hm hb

set_option maxRecDepth 100000 in
theorem tnl_lifted (os : Os) (started : os.Started) (H : Type) (enc : TypeId × Value → H) :
    ReturnsInHanded {} Try.checked os 11 .any (Rows.fnExactTablesNeededSpec.pre6 enc Try.prog Try.f11 Rows.fnExactTablesNeededRow.domain false) (Rows.fnExactTablesNeededSpec.post enc Try.prog Try.f11 false true false false) := by
  refine returnsInHanded_of_change (C := Try.checked) tnl_own started (by kernel_rfl) Try.func11
    (ChangeSpec.witness6 (enc := enc) (C := Try.checked) false ⟨#[], #[.slice none 0 0], []⟩ 8 (by kernel_rfl) (by kernel_rfl) (by kernel_rfl) (by kernel_rfl)) ?_
  intro W base args ds gs before hval0 hW hcnd _
  have hval : ∀ (j : Nat) t v, Try.f11.params[j]? = some t → args[j]? = some v → Value.okWide Try.prog W .any base t v := hval0
  have hW' := hW
  obtain ⟨p, q, hA0, hV, rfl, hfz, hnd⟩ := hW
  have hA : DataW.TrodAll enc Try.prog W 0 (fun _ => true) true Try.f11.params.toList args.toList ds p := hA0
  rw [Try.params11] at hA hval
  obtain ⟨v0, vs0, d0, ds0, p0, q0, hargs, rfl, rfl, h0, r0⟩ := trodAll_cons hA
  obtain ⟨rfl, rfl, rfl⟩ := trodAll_nil r0
  obtain rfl : args = #[v0] := by cases args; simp_all
  obtain ⟨rfl, rfl⟩ := trodVars_none hV
  have k0 := h0
  have lt0 : ∀ x ∈ p0, x.block < W.heap.size := by obtain ⟨m, hm⟩ := k0; exact DataW.trod_lt m _ _ _ hm
  obtain ⟨a0, l0, c0, rfl⟩ := okWide_slice Try.underlying59 (hval 0 59 v0 rfl rfl)
  obtain ⟨m0, hm0⟩ := h0
  have hm1 : DataW.trod enc Try.prog W 0 (fun _ => true) true m0 59 [.slice a0 l0 c0] = some (d0, p0) := hm0
  obtain ⟨xs, hsrc, hm, hq⟩ := esrc_open eSpan okSpan Try.underlying59 cellsSpan elSpan hm1
  obtain ⟨a, cap, hsl, hrest⟩ := hsrc
  simp only [Value.slice.injEq] at hsl
  obtain ⟨rfl, rfl, rfl⟩ := hsl
  clear hA0 hval0
  refine (tnl_any _ _ xs W hm hq ⟨_, _, rfl, hrest⟩).mono fun e W' ⟨he, bel⟩ => ?_
  subst he
  exact ⟨_, rfl, _, _, _, [], _, [], hW', trodAll_mk1 (shut_bool Try.underlying4 _), (trodAll_cons_mk (Below.trod mach_laidOut (by kernel_rfl) (of_decide_eq_true (by kernel_rfl)) k0 bel lt0) trodAll_mk0), rfl, bel.frame _, fun h => by cases h⟩

/-- THE STATEMENT -/
theorem tnl_proved : Rows.FnExactTablesNeededSaid :=
  OpenClaim.holds_of_wide 11 Try.f11 rfl rfl rfl rfl rfl rfl rfl ⟨rfl, rfl, rfl, rfl, rfl⟩ rfl rfl rfl rfl rfl (by kernel_rfl) Try.func11 (by kernel_rfl)
    (of_decide_eq_true (by kernel_rfl)) (by unfold Func.isWrapper; first | (rw [if_pos (by decide +kernel)]; kernel_rfl) | (rw [if_neg (by decide +kernel)]; exact ⟨rfl, rfl⟩))
    (fun os started H enc _ => tnl_lifted os started H enc)
#print axioms tnl_proved
end Go.Proofs.Ytnmhkgmmpkjjeab
