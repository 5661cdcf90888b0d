import Derived.Test.YtnmhkgmmpkjjeabSpAt
import Derived.Test.YtnmhkgmmpkjjeabRowSpan
import Derived.Test.YtnmhkgmmpkjjeabSpOpen
import Derived.ChangeOld
namespace Go.Proofs.Ytnmhkgmmpkjjeab
open Go.ChangeShapes Go.WideShapes Go.ChangeAt Go.RowKit
set_option linter.unusedVariables false
attribute [local go_sem ↓] Go.wp_at_zero Go.wp_at_succ

theorem eqHitS_same (A B C D : Int) (w : World) :
    Calls Try.prog 23 #[.agg #[.int .i64 A, .int .i64 B, .int .i64 C, .int .i64 D], .agg #[.int .i64 A, .int .i64 B, .int .i64 C, .int .i64 D]] w fun e w' => e = .returned (.bool true) ∧ Below w.heap.size w w' := by
  go_enter Try.func23, Try.ntmps23
  go_wp2
  go_ret
  exact ⟨rfl, ((Below.refl _ _).alloc (Nat.le_refl _) _).alloc (by simp) _⟩

theorem atl_big (a : Option Addr) (n cap : Nat) (page : Int) (w : World) (h1 : n ≤ 9223372036854775807) (hb : ¬ n ≤ 1048576) :
    Calls Try.prog 9 #[.slice a n cap, .int .i64 page] w fun e w' => e = .returned (.bool true) ∧ Below w.heap.size w w' := by
  have hs := szSpan_any a n cap 1048576 h1 (by omega) (by omega)
  rw [if_neg (by omega)] at hs
  go_enter Try.func9, Try.ntmps9
  go_wp2_with (go_at_call 35; refine (hs _).mono ?_; rintro e w1 ⟨rfl, rfl⟩)
  go_ret
  exact ⟨rfl, Below.refl _ _⟩

set_option maxHeartbeats 2000000 in
theorem atl_walk (a : Option Addr) (cap : Nat) (xs : List SpanE) (page A B C D : Int) (w : World) (hn : xs.length ≤ 1048576) (hv : ESrc eSpan w (.slice a xs.length cap) xs)
    (hS : ∀ (g b : Nat) (w : World), ERow eSpan w b (.slice (some ⟨g, 0, none⟩) xs.length xs.length) xs → Calls Try.prog 40 #[.slice (some ⟨g, 0, none⟩) xs.length xs.length, .int .i64 page] w fun e w' => e = .returned (.agg #[.int .i64 A, .int .i64 B, .int .i64 C, .int .i64 D]) ∧ Below w.heap.size w w')
    (hI : ∀ (g b : Nat) (w : World), ERow eSpan w b (.slice (some ⟨g, 0, none⟩) xs.length xs.length) xs → Calls Try.prog 41 #[.slice (some ⟨g, 0, none⟩) xs.length xs.length, .int .i64 page] w fun e w' => e = .returned (.agg #[.int .i64 A, .int .i64 B, .int .i64 C, .int .i64 D]) ∧ Below w.heap.size w w') :
    Calls Try.prog 9 #[.slice a xs.length cap, .int .i64 page] w fun e w' => e = .returned (.bool true) ∧ Below w.heap.size w w' := by
  have hsz := szSpan_any a xs.length cap 1048576 (by omega) (by omega) (by omega)
  rw [if_pos (by omega)] at hsz
  have d0 : decide ((1048576 : Int) - xs.length < 0) = false := by simp; omega
  have HTO : Hid (∀ wX, Below w.heap.size w wX → Calls Try.prog 37 #[.slice a xs.length cap] wX fun e w' => e = .returned (.slice (some ⟨wX.heap.size, 0, none⟩) xs.length xs.length) ∧ ERow eSpan w' wX.heap.size (.slice (some ⟨wX.heap.size, 0, none⟩) xs.length xs.length) xs ∧ Below wX.heap.size wX w') :=
    fun wX hX => toSpanS_any _ xs wX (hv.at hX) hn
  have HS : Hid _ := hS
  have HI : Hid _ := hI
  clear hv hS hI
  go_enter Try.func9, Try.ntmps9
  go_wp2_with fail
  refine (hsz _).mono ?_
  rintro e w0 ⟨rfl, rfl⟩
  go_wp2_with fail
  refine (HTO.out _ (Below.refl _ _)).mono ?_
  rintro e w1 ⟨rfl, hr1, hb1⟩
  have h2 := HS.out _ _ w1 hr1
  clear hr1
  go_wp2_with fail
  refine h2.mono ?_
  rintro e w2 ⟨rfl, hb2⟩
  have b2 : Below w0.heap.size w0 w2 := hb1.trans (hb2.mono hb1.size)
  obtain ⟨wS, hwS⟩ : ∃ wS, wS = w2.alloc (.cells #[.int .i64 A, .int .i64 B, .int .i64 C, .int .i64 D] 37) := ⟨_, rfl⟩
  have hzS : wS.heap.size = w2.heap.size + 1 := by rw [hwS]; simp
  have bS : Below w0.heap.size w0 wS := by rw [hwS]; exact b2.alloc b2.size _
  have HSC : Hid (∀ wX, Below wS.heap.size wS wX → wX.cell? ⟨w2.heap.size, 0, none⟩ = some (.int .i64 A) ∧ wX.cell? ⟨w2.heap.size, 1, none⟩ = some (.int .i64 B) ∧ wX.cell? ⟨w2.heap.size, 2, none⟩ = some (.int .i64 C) ∧ wX.cell? ⟨w2.heap.size, 3, none⟩ = some (.int .i64 D)) := fun wX hX => by
    refine ⟨?_, ?_, ?_, ?_⟩
    iterate 4 (exact (hX.cell (by simp; omega)).trans (by rw [hwS]; simp [go_sem]))
  have htS := HTO.out wS bS
  rw [hwS] at htS
  have HWS : Hid (wS = _) := hwS
  have HZS : Hid (wS.heap.size = _) := hzS
  have HBS : Hid (Below w0.heap.size w0 wS) := bS
  clear h2 hb1 hb2 b2 bS hwS hzS
  go_wp2_with fail
  refine htS.mono ?_
  rintro e w3 ⟨rfl, hr3, hb3'⟩
  rw [← HWS.out] at hr3 hb3' ⊢
  have h4 := HI.out _ _ w3 hr3
  have b3 : Below w0.heap.size w0 w3 := HBS.out.trans (hb3'.mono HBS.out.size)
  have HB3 : Hid (Below wS.heap.size wS w3) := hb3'
  have HR3 : Hid (ERow eSpan w3 wS.heap.size (.slice (some ⟨wS.heap.size, 0, none⟩) xs.length xs.length) xs) := hr3
  clear hr3 hb3' htS
  go_wp2_with fail
  refine h4.mono ?_
  rintro e w4 ⟨rfl, hb4⟩
  have b4 : Below w0.heap.size w0 w4 := b3.trans (hb4.mono b3.size)
  obtain ⟨wG, hwG⟩ : ∃ wG, wG = w4.alloc (.cells #[.int .i64 A, .int .i64 B, .int .i64 C, .int .i64 D] 37) := ⟨_, rfl⟩
  have bG4 : Below w4.heap.size w4 wG := by rw [hwG]; exact (Below.refl _ _).alloc (Nat.le_refl _) _
  have bG : Below w0.heap.size w0 wG := b4.trans (bG4.mono b4.size)
  have bSG : Below wS.heap.size wS wG := HB3.out.trans ((hb4.trans (bG4.mono hb4.size)).mono HB3.out.size)
  obtain ⟨s0, s1, s2, s3⟩ := HSC.out wG bSG
  have HR4 : Hid (∀ wX, Below wG.heap.size wG wX → ERow eSpan wX wS.heap.size (.slice (some ⟨wS.heap.size, 0, none⟩) xs.length xs.length) xs) := fun wX hX => (HR3.out.below hb4).below (bG4.trans (hX.mono bG4.size))
  have heq := eqHitS_same A B C D wG
  rw [hwG] at heq s0 s1 s2 s3
  have HWG : Hid (wG = _) := hwG
  have HBG : Hid (Below w0.heap.size w0 wG) := bG
  clear h4 hb4 b3 b4 hwG bG4 bG bSG
  go_wp2_with fail
  refine heq.mono ?_
  rintro e w5 ⟨rfl, hb5'⟩
  rw [← HWG.out] at hb5'
  have b5 : Below w0.heap.size w0 w5 := HBG.out.trans (hb5'.mono HBG.out.size)
  have HB5 : Hid (Below wG.heap.size wG w5) := hb5'
  clear heq hb5' s0 s1 s2 s3
  go_wp2_with fail
  refine (HTO.out w5 b5).mono ?_
  rintro e w6 ⟨rfl, hr6, hb6⟩
  have b6 : Below w0.heap.size w0 w6 := b5.trans (hb6.mono b5.size)
  have h7 := eqSpanS_same _ _ _ _ xs w6 hn (HR4.out w6 (HB5.out.trans (hb6.mono HB5.out.size))) hr6
  clear hr6 hb6
  go_wp2_with fail
  refine h7.mono ?_
  rintro e w7 ⟨rfl, hb7⟩
  have b7 : Below w0.heap.size w0 w7 := b6.trans (hb7.mono b6.size)
  clear h7 hb7
  go_wp2_with fail
  go_ret
  exact ⟨rfl, b7⟩

theorem atl_own : ownKnob Try.prog.godebug = none := by kernel_rfl
theorem atl_any (a : Option Addr) (cap : Nat) (xs : List SpanE) (page : Int) (w : World) (hm : xs.length ≤ 9223372036854775807) (hq : ∀ i, i < xs.length → okSpan (eAt eSpan xs i)) (hv : ESrc eSpan w (.slice a xs.length cap) xs) :
    Calls Try.prog 9 #[.slice a xs.length cap, .int .i64 page] w fun e w' => e = .returned (.bool true) ∧ Below w.heap.size w w' := by
  have hwf : ∀ i, i < xs.length → wfS (eAt eSpan xs i) := fun i hi => (hq i hi).wf
  by_cases hb : xs.length ≤ 1048576
  · exact atl_walk a cap xs page _ _ _ _ w hb hv (fun g b w h => specAt_any _ _ b xs page w hb hwf h) (fun g b w h => implAt_any _ _ b xs page w hb hwf h)
  · exact atl_big a xs.length cap page w hm hb

set_option maxRecDepth 100000 in
theorem atl_lifted (os : Os) (started : os.Started) (H : Type) (enc : TypeId × Value → H) :
    ReturnsInHanded {} Try.checked os 9 .any (Rows.fnExactAtSpec.pre6 enc Try.prog Try.f9 Rows.fnExactAtRow.domain false) (Rows.fnExactAtSpec.post enc Try.prog Try.f9 false true false false) := by
  refine returnsInHanded_of_change (C := Try.checked) atl_own started (by kernel_rfl) Try.func9
    (ChangeSpec.witness6 (enc := enc) (C := Try.checked) false ⟨#[], #[.slice none 0 0, .int .i64 0], []⟩ 8 (by kernel_rfl) (by kernel_rfl) (by kernel_rfl) (by kernel_rfl)) ?_
  intro W base args ds gs before hval0 hW hcnd _
  have hval : ∀ (j : Nat) t v, Try.f9.params[j]? = some t → args[j]? = some v → Value.okWide Try.prog W .any base t v := hval0
  have hW' := hW
  obtain ⟨p, q, hA0, hV, rfl, hfz, hnd⟩ := hW
  have hA : DataW.TrodAll enc Try.prog W 0 (fun _ => true) true Try.f9.params.toList args.toList ds p := hA0
  rw [Try.params9] at hA hval
  obtain ⟨v0, vs0, d0, ds0, p0, q0, hargs, rfl, rfl, h0, r0⟩ := trodAll_cons hA
  obtain ⟨v1, vs1, d1, ds1, p1, q1, rfl, rfl, rfl, h1, r1⟩ := trodAll_cons r0
  obtain ⟨rfl, rfl, rfl⟩ := trodAll_nil r1
  obtain rfl : args = #[v0, v1] := by cases args; simp_all
  obtain ⟨rfl, rfl⟩ := trodVars_none hV
  have k0 := h0
  have lt0 : ∀ x ∈ p0, x.block < W.heap.size := by obtain ⟨m, hm⟩ := k0; exact DataW.trod_lt m _ _ _ hm
  obtain ⟨n1, rfl, rfl, rfl, w1⟩ := open_int Try.underlying3 (hval 1 3 v1 rfl rfl) h1
  obtain ⟨a0, l0, c0, rfl⟩ := okWide_slice Try.underlying59 (hval 0 59 v0 rfl rfl)
  obtain ⟨m0, hm0⟩ := h0
  have hm1 : DataW.trod enc Try.prog W 0 (fun _ => true) true m0 59 [.slice a0 l0 c0] = some (d0, p0) := hm0
  obtain ⟨xs, hsrc, hm, hq⟩ := esrc_open eSpan okSpan Try.underlying59 cellsSpan elSpan hm1
  obtain ⟨a, cap, hsl, hrest⟩ := hsrc
  simp only [Value.slice.injEq] at hsl
  obtain ⟨rfl, rfl, rfl⟩ := hsl
  clear hA0 hval0
  refine (atl_any _ _ xs n1 W hm hq ⟨_, _, rfl, hrest⟩).mono fun e W' ⟨he, bel⟩ => ?_
  subst he
  exact ⟨_, rfl, _, _, _, [], _, [], hW', trodAll_mk1 (shut_bool Try.underlying4 _), (trodAll_cons_mk (Below.trod mach_laidOut (by kernel_rfl) (of_decide_eq_true (by kernel_rfl)) k0 bel lt0) (trodAll_cons_mk (shut_int Try.underlying3 w1) trodAll_mk0)), rfl, bel.frame _, fun h => by cases h⟩

/-- THE STATEMENT -/
theorem atl_proved : Rows.FnExactAtSaid :=
  OpenClaim.holds_of_wide 9 Try.f9 rfl rfl rfl rfl rfl rfl rfl ⟨rfl, rfl, rfl, rfl, rfl⟩ rfl rfl rfl rfl rfl (by kernel_rfl) Try.func9 (by kernel_rfl)
    (of_decide_eq_true (by kernel_rfl)) (by unfold Func.isWrapper; first | (rw [if_pos (by decide +kernel)]; kernel_rfl) | (rw [if_neg (by decide +kernel)]; exact ⟨rfl, rfl⟩))
    (fun os started H enc _ => atl_lifted os started H enc)
#print axioms atl_proved
end Go.Proofs.Ytnmhkgmmpkjjeab
