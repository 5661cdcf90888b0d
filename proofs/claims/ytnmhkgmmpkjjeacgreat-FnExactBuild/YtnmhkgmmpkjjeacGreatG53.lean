import Derived.Test.YtnmhkgmmpkjjeacGreatG51
import Derived.Test.YtnmhkgmmpkjjeacGreatG52
import Derived.Test.YtnmhkgmmpkjjeacGreatG47
import Derived.Test.YtnmhkgmmpkjjeacGreatG08
import Derived.Test.YtnmhkgmmpkjjeacGreatRows
import Derived.ChangeOld
import Derived.Lib.SmallJoins
namespace Go.Proofs.YtnmhkgmmpkjjeacGreat
open Go.ChangeShapes Go.WideShapes Go.ChangeAt Go.RowKit Go.Joins
set_option linter.unusedVariables false
attribute [local go_sem ↓] Go.wp_at_zero Go.wp_at_succ

theorem bldl_big (a : Option Addr) (n cap : Nat) (fr : Int) (w : World) (h1 : n ≤ 9223372036854775807) (hb : ¬ n ≤ 1048576) :
    Calls Tryz.prog 4 #[.slice a n cap, .int .i64 fr] w fun e w' => e = .returned (.bool true) ∧ Below w.heap.size w w' := by
  have hs := szSpan_any a n cap 1048576 h1 (by omega) (by omega)
  rw [if_neg (by omega)] at hs
  go_enter Tryz.func4, Tryz.ntmps4
  go_wp2_with (go_at_call 7; refine (hs _).mono ?_; rintro e w1 ⟨rfl, rfl⟩)
  go_ret
  exact ⟨rfl, Below.refl _ _⟩

set_option maxRecDepth 100000 in
set_option maxHeartbeats 4000000 in
theorem bldl_walk (a : Option Addr) (cap : Nat) (xs : List SpanE) (fr : Int) (zl : List Int) (code : Int) (w : World) (hu : ESrc eSpan w (.slice a xs.length cap) xs) (hxl : xs.length ≤ 1048576) (hzl : zl.length ≤ 8192)
    (hS : ∀ g b w, ERow eSpan w b (.slice (some ⟨g, 0, none⟩) xs.length xs.length) xs → Calls Tryz.prog 19 #[.slice (some ⟨g, 0, none⟩) xs.length xs.length, .int .i64 fr] w fun e w' => BuildPost w (zl, code) e w')
    (hI : ∀ g b w, ERow eSpan w b (.slice (some ⟨g, 0, none⟩) xs.length xs.length) xs → Calls Tryz.prog 20 #[.slice (some ⟨g, 0, none⟩) xs.length xs.length, .int .i64 fr] w fun e w' => BuildPost w (zl, code) e w') :
    Calls Tryz.prog 4 #[.slice a xs.length cap, .int .i64 fr] w fun e w' => e = .returned (.bool true) ∧ Below w.heap.size w w' := by
  have hsz := szSpan_any a xs.length cap 1048576 (by omega) (by omega) (by omega)
  rw [if_pos (by omega)] at hsz
  have d0 : decide ((1048576 : Int) - xs.length < 0) = false := by simp; omega
  have hcc : (code != code) = false := by simp
  have HTS : Hid (∀ wX, Below w.heap.size w wX → Calls Tryz.prog 10 #[.slice a xs.length cap] wX fun e w' => e = .returned (.slice (some ⟨wX.heap.size, 0, none⟩) xs.length xs.length) ∧ ERow eSpan w' wX.heap.size (.slice (some ⟨wX.heap.size, 0, none⟩) xs.length xs.length) xs ∧ Below wX.heap.size wX w') :=
    fun wX hX => toSpanS_any _ xs wX (hu.at hX) hxl
  have HS : Hid _ := hS
  have HI : Hid _ := hI
  clear hu hS hI
  go_enter Tryz.func4, Tryz.ntmps4
  go_wp2_with fail
  refine (hsz _).mono ?_
  rintro e w0 ⟨rfl, hw0⟩
  obtain rfl := hw0.symm
  clear hsz
  have h1 := HTS.out w (Below.refl _ _)
  go_wp2_with fail
  refine h1.mono ?_
  rintro e w1 ⟨rfl, hr1, hb1⟩
  have h2 := HS.out _ _ w1 hr1
  have B1 : Hid (Below w.heap.size w w1) := hb1
  clear h1 hr1 hb1 HS
  go_wp2_with fail
  refine h2.mono ?_
  rintro e w2 ⟨a2, c2, rfl, hr2, hb2⟩
  dsimp only at hr2
  have s1 := B1.out.size
  obtain ⟨wa, hwa⟩ : ∃ wa, wa = w2.alloc (.cells #[.slice a2 zl.length c2] 31) := ⟨_, rfl⟩
  have hba : Below w2.heap.size w2 wa := by rw [hwa]; exact bal
  have s2 := hb2.size
  have sa := hba.size
  have qa : wa.cell? ⟨w2.heap.size, 0, none⟩ = some (.slice a2 zl.length c2) := by rw [hwa]; simp [go_sem]
  have Na : w2.heap.size < wa.heap.size := by rw [hwa]; simp
  have BA : Hid (Below w.heap.size w wa) := B1.out.trans ((hb2.trans (hba.mono s2)).mono s1)
  have HRA : Hid (∀ wX, Below wa.heap.size wa wX → ERow eWord wX w1.heap.size (.slice a2 zl.length c2) zl) := fun wX hX => (hr2.below hba).below hX
  have HQA : Hid (∀ wX, Below wa.heap.size wa wX → wX.cell? ⟨w2.heap.size, 0, none⟩ = some (.slice a2 zl.length c2)) := fun wX hX => (hX.cell (p := ⟨w2.heap.size, 0, none⟩) Na).trans qa
  have HWA : Hid (wa = _) := hwa
  have h3 := HTS.out wa BA.out
  clear h2 hr2 hb2 hwa hba qa
  go_wp2_with fail
  rw [← HWA.out]
  refine h3.mono ?_
  rintro e w3 ⟨rfl, hr3, hb3⟩
  have s3 := hb3.size
  have h4 := HI.out _ _ w3 hr3
  have A3 : Hid (Below wa.heap.size wa w3) := hb3
  have HRS : Hid (∀ wX, Below w3.heap.size w3 wX → ERow eSpan wX wa.heap.size (.slice (some ⟨wa.heap.size, 0, none⟩) xs.length xs.length) xs) := fun wX hX => hr3.below hX
  have N3 : wa.heap.size < w3.heap.size := (hr3.own wa.heap.size rfl).2
  clear h3 hr3 hb3
  go_wp2_with fail
  refine h4.mono ?_
  rintro e w4 ⟨a4, c4, rfl, hr4, hb4⟩
  dsimp only at hr4
  have s4 := hb4.size
  obtain ⟨wc, hwc⟩ : ∃ wc, wc = w4.alloc (.cells #[.slice a4 zl.length c4] 31) := ⟨_, rfl⟩
  have hbc : Below w4.heap.size w4 wc := by rw [hwc]; exact bal
  have sc := hbc.size
  have qc : wc.cell? ⟨w4.heap.size, 0, none⟩ = some (.slice a4 zl.length c4) := by rw [hwc]; simp [go_sem]
  have Nc : w4.heap.size < wc.heap.size := by rw [hwc]; simp
  have B3C : Hid (Below w3.heap.size w3 wc) := hb4.trans (hbc.mono s4)
  have AC : Hid (Below wa.heap.size wa wc) := A3.out.trans (B3C.out.mono s3)
  have HRC : Hid (ERow eWord wc w3.heap.size (.slice a4 zl.length c4) zl) := hr4.below hbc
  have q2 := HQA.out wc AC.out
  have h5 := eqMemE_same (.slice a4 zl.length c4) (.slice a2 zl.length c2) _ _ zl wc (by omega) HRC.out (HRA.out wc AC.out)
  have HWC : Hid (wc = _) := hwc
  have HQC : Hid (wc.cell? ⟨w4.heap.size, 0, none⟩ = some (.slice a4 zl.length c4)) := qc
  have x2 := HQA.out w4 (A3.out.trans (hb4.mono s3))
  have Nx : w2.heap.size < w4.heap.size := by omega
  clear h4 hr4 hb4 hwc hbc qc q2
  go_wp2_with fail
  rw [← HWC.out]
  refine h5.mono ?_
  rintro e w5 ⟨rfl, hb5⟩
  have s5 := hb5.size
  have HB5 : Hid (Below wc.heap.size wc w5) := hb5
  have A5 : Hid (Below wa.heap.size wa w5) := AC.out.trans (hb5.mono (by omega))
  have B5 : Hid (Below w.heap.size w w5) := BA.out.trans (A5.out.mono (by omega))
  have h6 := HTS.out w5 B5.out
  clear h5 hb5 x2
  go_wp2_with fail
  refine h6.mono ?_
  rintro e w6 ⟨rfl, hr6, hb6⟩
  have s6 := hb6.size
  have HB6 : Hid (Below wc.heap.size wc w6) := HB5.out.trans (hb6.mono (by omega))
  have h7 := eqSpanS_same (.slice (some ⟨wa.heap.size, 0, none⟩) xs.length xs.length) (.slice (some ⟨w5.heap.size, 0, none⟩) xs.length xs.length) _ _ xs w6 hxl (HRS.out w6 (B3C.out.trans (HB6.out.mono (by omega)))) hr6
  clear h6 hr6 hb6
  go_wp2_with fail
  refine h7.mono ?_
  rintro e w7 ⟨rfl, hb7⟩
  have s7 := hb7.size
  have HB7 : Hid (Below wc.heap.size wc w7) := HB6.out.trans (hb7.mono (by omega))
  have h8 := markSpanS_any (.slice (some ⟨wa.heap.size, 0, none⟩) xs.length xs.length) _ xs 1 w7 (by omega) (by omega) hxl (HRS.out w7 (B3C.out.trans (HB7.out.mono (by omega))))
  clear h7 hb7
  go_wp2_with fail
  refine h8.mono ?_
  rintro e w8 ⟨rfl, _, hg8⟩
  have s8 := hg8.size
  -- what the marks leave
  have hT8 : Tch (fun k => k = wa.heap.size) wc w8 := (Tch.of_below HB7.out).then (Tch.of_grown (S := fun k => k = wa.heap.size) hg8 (fun k e => by have e1 : some wa.heap.size = some k := e; simpa using e1.symm)) (fun k _ h => h)
  have HT8 : Hid (Tch (fun k => k = wa.heap.size) wc w8) := hT8
  have HR8 : Hid (ERow eWord w8 w3.heap.size (.slice a4 zl.length c4) zl) := HRC.out.tch hT8 (fun k hk e => by have := (HRC.out.own k (by rw [own_sl]; exact hk)).1; omega)
  have A8 : Hid (Below wa.heap.size wa w8) := ((Tch.of_below (S := fun k => wa.heap.size ≤ k) AC.out).then hT8 (fun k _ h => by omega)).below (fun k hk h => by omega)
  have y9 : w8.cell? ⟨w4.heap.size, 0, none⟩ = some (.slice a4 zl.length c4) := (hT8.cell (p := ⟨w4.heap.size, 0, none⟩) Nc (by show ¬ w4.heap.size = wa.heap.size; omega)).trans HQC.out
  have y6 := HQA.out w8 A8.out
  have dk : decide (1 + (xs.length : Int) * 5 < 0) = false := by simp; omega
  have h9 := eqMemE_same (.slice a4 zl.length c4) (.slice a2 zl.length c2) _ _ zl w8 (by omega) HR8.out (HRA.out w8 A8.out)
  have M4 : w4.heap.size < w8.heap.size := by have := hT8.size; omega
  clear h8 hg8 hT8
  go_wp2_with fail
  refine h9.mono ?_
  rintro e w9 ⟨rfl, hb9⟩
  have s9 := hb9.size
  have z9 := (hb9.cell (p := ⟨w4.heap.size, 0, none⟩) M4).trans y9
  have HR9 : Hid (ERow eWord w9 w3.heap.size (.slice a4 zl.length c4) zl) := HR8.out.below hb9
  have A9 : Hid (Below wa.heap.size wa w9) := A8.out.trans (hb9.mono (by have := A8.out.size; omega))
  have hA := markMemE_any (.slice a4 zl.length c4) _ zl 1 w9 (by omega) (by omega) (by omega) HR9.out
  have HOW : Hid (∀ k, (Value.slice a4 zl.length c4).ownBlock = some k → w3.heap.size ≤ k ∧ k < w4.heap.size ∨ w3.heap.size ≤ k) := fun k hk => .inr (HR9.out.own k hk).1
  have HOW4 : Hid (∀ k, (Value.slice a4 zl.length c4).ownBlock = some k → k ≠ w4.heap.size) := hidOf <| fun k hk e => by
    subst e
    have e1 : (Value.slice a4 zl.length c4).ownBlock = some w4.heap.size := hk
    rcases HRC.out.2 with ⟨e0, _⟩ | ⟨g', cap', cur, e0, _, hg, _⟩
    · rw [e0] at e1; cases e1
    · rw [e0] at e1
      have e2 : some g' = some w4.heap.size := e1
      simp only [Option.some.injEq] at e2
      rw [e2, HWC.out] at hg
      have h99 := heap_alloc_new w4 (.cells #[.slice a4 zl.length c4] 31)
      rw [h99] at hg
      simp only [Option.some.injEq, Obj.cells.injEq] at hg
      have hbad : 31 = 70 := hg.2.1
      exact absurd hbad (by decide)
  clear h9 hb9 y9 y6
  go_wp2_with fail
  refine hA.mono ?_
  rintro e wA ⟨rfl, hmk, hgA⟩
  have sA := hgA.size
  have A10 : Hid (Below wa.heap.size wa wA) := A9.out.grown hgA (by have := A9.out.size; omega) (fun k hk => by have := HOW.out k hk; omega)
  have zA : wA.cell? ⟨w4.heap.size, 0, none⟩ = some (.slice a4 zl.length c4) := (World.cell?_of_block (hgA.block w4.heap.size (by omega) (fun e => HOW4.out _ e.symm rfl))).trans z9
  have hB := heldMemE_any (.slice a4 zl.length c4) zl.length 1 wA (by omega) (by omega) (by omega) hmk
  clear hA hmk hgA z9
  go_wp2_with fail
  refine hB.mono ?_
  rintro e wB ⟨rfl, hbB⟩
  have sB := hbB.size
  have A11 : Hid (Below wa.heap.size wa wB) := A10.out.trans (hbB.mono (by have := A10.out.size; omega))
  have BB : Hid (Below w.heap.size w wB) := BA.out.trans (A11.out.mono (by omega))
  have dq : decide (1 + (zl.length : Int) < 0) = false := by simp; omega
  have hC := HTS.out wB BB.out
  clear hB hbB zA
  go_wp2_with fail
  refine hC.mono ?_
  rintro e wC ⟨rfl, hrC, hbC⟩
  have sC := hbC.size
  have A12 : Hid (Below wa.heap.size wa wC) := A11.out.trans (hbC.mono (by have := A11.out.size; omega))
  have hD := HI.out _ _ wC hrC
  clear hC hrC hbC
  go_wp2_with fail
  refine hD.mono ?_
  rintro e wD ⟨aD, cD, rfl, hrD, hbD⟩
  dsimp only at hrD
  have sD := hbD.size
  obtain ⟨we, hwe⟩ : ∃ we, we = wD.alloc (.cells #[.slice aD zl.length cD] 31) := ⟨_, rfl⟩
  have hbe : Below wD.heap.size wD we := by rw [hwe]; exact bal
  have A13 : Hid (Below wa.heap.size wa wD) := A12.out.trans (hbD.mono (by have := A12.out.size; omega))
  have A14 : Hid (Below wa.heap.size wa we) := A13.out.trans (hbe.mono (by have := A13.out.size; omega))
  have xD := HQA.out wD A13.out
  have ND : w2.heap.size < wD.heap.size := by have := A13.out.size; omega
  have hE := eqMemE_same (.slice aD zl.length cD) (.slice a2 zl.length c2) _ _ zl we (by omega) (hrD.below hbe) (HRA.out we A14.out)
  have HWE : Hid (we = _) := hwe
  clear hD hrD hbD hwe hbe
  go_wp2_with fail
  rw [← HWE.out]
  refine hE.mono ?_
  rintro e wF ⟨rfl, hbF⟩
  have HFIN : Hid (Below w.heap.size w wF) := BA.out.trans ((A14.out.trans (hbF.mono (by have := A14.out.size; omega))).mono (by omega))
  clear hE hbF
  go_wp2_with fail
  go_ret
  exact ⟨rfl, HFIN.out⟩
theorem bldl_own : ownKnob Tryz.prog.godebug = none := by kernel_rfl
theorem bldl_any (a : Option Addr) (cap : Nat) (xs : List SpanE) (fr : Int) (w : World) (hm : xs.length ≤ 9223372036854775807) (hf : -9223372036854775808 ≤ fr ∧ fr ≤ 9223372036854775807) (hq : ∀ i, i < xs.length → okSpan (eAt eSpan xs i)) (hv : ESrc eSpan w (.slice a xs.length cap) xs) :
    Calls Tryz.prog 4 #[.slice a xs.length cap, .int .i64 fr] w fun e w' => e = .returned (.bool true) ∧ Below w.heap.size w w' := by
  have hwf : ∀ i, i < xs.length → wfS (eAt eSpan xs i) := fun i hi => (hq i hi).wf
  by_cases hb : xs.length ≤ 1048576
  · exact bldl_walk a cap xs fr (buildF xs fr).1 (buildF xs fr).2 w hv hb (buildF_len xs fr) (fun g b w h => specBuild_any _ _ b xs fr w hb hf.1 hf.2 hwf h) (fun g b w h => implBuild_any _ _ b xs fr w hb hf.1 hf.2 hwf h)
  · exact bldl_big a xs.length cap fr w hm hb

set_option maxRecDepth 100000 in
theorem bldl_lifted (os : Os) (started : os.Started) (H : Type) (enc : TypeId × Value → H) :
    ReturnsInHanded {} Tryz.checked os 4 .any (Rows.fnExactBuildSpec.pre6 enc Tryz.prog Tryz.f4 Rows.fnExactBuildRow.domain false) (Rows.fnExactBuildSpec.post enc Tryz.prog Tryz.f4 false true false false) := by
  refine returnsInHanded_of_change (C := Tryz.checked) bldl_own started (by kernel_rfl) Tryz.func4
    (ChangeSpec.witness6 (enc := enc) (C := Tryz.checked) false ⟨#[], #[.slice none 0 0, .int .i64 0], []⟩ 8 (by kernel_rfl) (by kernel_rfl) (by kernel_rfl) (by kernel_rfl)) ?_
  intro W base args ds gs before hval0 hW hcnd _
  have hval : ∀ (j : Nat) t v, Tryz.f4.params[j]? = some t → args[j]? = some v → Value.okWide Tryz.prog W .any base t v := hval0
  have hW' := hW
  obtain ⟨p, q, hA0, hV, rfl, hfz, hnd⟩ := hW
  have hA : DataW.TrodAll enc Tryz.prog W 0 (fun _ => true) true Tryz.f4.params.toList args.toList ds p := hA0
  rw [Tryz.params4] at hA hval
  obtain ⟨v0, vs0, d0, ds0, p0, q0, hargs, rfl, rfl, h0, r0⟩ := trodAll_cons hA
  obtain ⟨v1, vs1, d1, ds1, p1, q1, rfl, rfl, rfl, h1, r1⟩ := trodAll_cons r0
  obtain ⟨rfl, rfl, rfl⟩ := trodAll_nil r1
  obtain rfl : args = #[v0, v1] := by cases args; simp_all
  obtain ⟨rfl, rfl⟩ := trodVars_none hV
  have k0 := h0
  have lt0 : ∀ x ∈ p0, x.block < W.heap.size := by obtain ⟨m, hm⟩ := k0; exact DataW.trod_lt m _ _ _ hm
  obtain ⟨n1, rfl, rfl, rfl, w1⟩ := open_int Tryz.underlying3 (hval 1 3 v1 rfl rfl) h1
  have hb1 := bounds_i64 w1
  obtain ⟨a0, l0, c0, rfl⟩ := okWide_slice Tryz.underlying25 (hval 0 25 v0 rfl rfl)
  obtain ⟨m0, hm0⟩ := h0
  have hm1 : DataW.trod enc Tryz.prog W 0 (fun _ => true) true m0 25 [.slice a0 l0 c0] = some (d0, p0) := hm0
  obtain ⟨xs, hsrc, hm, hq⟩ := esrc_open eSpan okSpan Tryz.underlying25 cellsSpan elSpan hm1
  obtain ⟨a, cap, hsl, hrest⟩ := hsrc
  simp only [Value.slice.injEq] at hsl
  obtain ⟨rfl, rfl, rfl⟩ := hsl
  clear hA0 hval0
  refine (bldl_any _ _ xs n1 W hm (by omega) hq ⟨_, _, rfl, hrest⟩).mono fun e W' ⟨he, bel⟩ => ?_
  subst he
  exact ⟨_, rfl, _, _, _, [], _, [], hW', trodAll_mk1 (shut_bool Tryz.underlying4 _), (trodAll_cons_mk (Below.trod mach_laidOut (by kernel_rfl) (of_decide_eq_true (by kernel_rfl)) k0 bel lt0) (trodAll_cons_mk (shut_int Tryz.underlying3 w1) trodAll_mk0)), rfl, bel.frame _, fun h => by cases h⟩

/-- THE STATEMENT -/
theorem bldl_proved : Rows.FnExactBuildSaid :=
  OpenClaim.holds_of_wide 4 Tryz.f4 rfl rfl rfl rfl rfl rfl rfl ⟨rfl, rfl, rfl, rfl, rfl⟩ rfl rfl rfl rfl rfl (by kernel_rfl) Tryz.func4 (by kernel_rfl)
    (of_decide_eq_true (by kernel_rfl)) (by unfold Func.isWrapper; first | (rw [if_pos (by decide +kernel)]; kernel_rfl) | (rw [if_neg (by decide +kernel)]; exact ⟨rfl, rfl⟩))
    (fun os started H enc _ => bldl_lifted os started H enc)
#print axioms bldl_proved
end Go.Proofs.YtnmhkgmmpkjjeacGreat
