import Derived.Test.YtnmhkgmmpkjjeabG51
import Derived.Test.YtnmhkgmmpkjjeabG52
import Derived.Test.YtnmhkgmmpkjjeabG54
namespace Go.Proofs.Ytnmhkgmmpkjjeab
open Go.ChangeShapes Go.WideShapes Go.ChangeAt Go.RowKit
set_option linter.unusedVariables false
set_option linter.unusedSimpArgs false
set_option maxRecDepth 100000
attribute [local go_sem ↓] Go.wp_at_zero Go.wp_at_succ
attribute [local go_sem] bs_size bs_cAt bs_app bs_mk bs_cut bs_list

/-! ReadPolicy: the program's and the model's. -/
theorem polL_few (l : Txt) : (polL l).1.length ≤ 4096 := by
  unfold polL polT
  split
  · simp
  split
  · simp
  split
  · simp
  unfold polE
  split
  · simp
  split
  · simp
  · exact (spans_w (allTo_ok _ _ _) 4096 (Nat.le_refl _)).1
theorem eqDiag_same (c d : Int) (w : World) :
    Calls Try.prog 44 #[.agg #[.int .i64 c, .int .i64 d], .agg #[.int .i64 c, .int .i64 d]] w fun e w' => e = .returned (.bool true) ∧ Below w.heap.size w w' := by
  go_enter Try.func44, Try.ntmps44
  go_wp2
  go_ret
  exact ⟨rfl, ((Below.refl _ _).alloc (Nat.le_refl _) _).alloc (by simp) _⟩
set_option maxHeartbeats 2000000 in
theorem rpl_walk (l : Txt) (w : World) (hl : l.length ≤ 1048576) :
    Calls Try.prog 10 #[.string (bs l)] w fun e w' => e = .returned (.bool true) ∧ Below w.heap.size w w' := by
  have t1 := hidP (specRead_any l w (by omega))
  have t2 := hidP (fun wX => implRead_any l wX (by omega))
  have hfew := polL_few l
  generalize polL l = r at *
  obtain ⟨xs, C, D⟩ := r
  dsimp only [PolPost, RpPost] at t1 t2 hfew
  have tD := hidP (fun wX => eqDiag_same C D wX)
  have L1 : ¬ (1048576 : Int) < (l.length : Int) := by omega
  go_enter Try.func10, Try.ntmps10
  go_wp2_with fail
  refine t1.out.mono ?_
  rintro e w1 ⟨g, c1, rfl, hr1, hb1⟩
  obtain ⟨w2, hw2⟩ : ∃ w2, w2 = w1.alloc (.cells #[.int .i64 C, .int .i64 D] 69) := ⟨_, rfl⟩
  have hb12 : Below w1.heap.size w1 w2 := by rw [hw2]; exact bal
  have hz2 : w1.heap.size < w2.heap.size := by rw [hw2]; simp
  have HX2 : Hid (∀ wX, Below w2.heap.size w2 wX → wX.cell? ⟨w1.heap.size, 0, none⟩ = some (.int .i64 C) ∧ wX.cell? ⟨w1.heap.size, 1, none⟩ = some (.int .i64 D)) := hidP (fun wX hX => by
    refine ⟨(hX.cell (p := ⟨w1.heap.size, 0, none⟩) hz2).trans ?_, (hX.cell (p := ⟨w1.heap.size, 1, none⟩) hz2).trans ?_⟩ <;> (rw [hw2]; simp [go_sem]))
  have HW2 : Hid (w2 = _) := hw2
  have HR1 : Hid (ERow eSpan w2 w.heap.size (.slice (some ⟨g, 0, none⟩) xs.length c1) xs) := hidP (hr1.below hb12)
  have HB2 : Hid (Below w.heap.size w w2) := hidP (hb1.trans (hb12.mono hb1.size))
  have HO1 : Hid (g < w1.heap.size) := hidP (hr1.own g rfl).2
  clear hr1 hb1 hb12 hw2 t1
  go_wp2_with fail
  rw [← HW2.out]
  refine (t2.out w2).mono ?_
  rintro e w3 ⟨a, c2, rfl, hr3, hb3⟩
  obtain ⟨w4, hw4⟩ : ∃ w4, w4 = w3.alloc (.cells #[.int .i64 C, .int .i64 D] 69) := ⟨_, rfl⟩
  have hb34 : Below w3.heap.size w3 w4 := by rw [hw4]; exact bal
  have hz4 : w3.heap.size < w4.heap.size := by rw [hw4]; simp
  have HX4 : Hid (∀ wX, Below w4.heap.size w4 wX → wX.cell? ⟨w3.heap.size, 0, none⟩ = some (.int .i64 C) ∧ wX.cell? ⟨w3.heap.size, 1, none⟩ = some (.int .i64 D)) := hidP (fun wX hX => by
    refine ⟨(hX.cell (p := ⟨w3.heap.size, 0, none⟩) hz4).trans ?_, (hX.cell (p := ⟨w3.heap.size, 1, none⟩) hz4).trans ?_⟩ <;> (rw [hw4]; simp [go_sem]))
  have HW4 : Hid (w4 = _) := hw4
  have HR3 : Hid (ERow eSpan w4 w2.heap.size (.slice a xs.length c2) xs) := hidP (hr3.below hb34)
  have hb24 : Below w2.heap.size w2 w4 := hb3.trans (hb34.mono hb3.size)
  have HB24 : Hid (Below w2.heap.size w2 w4) := hb24
  have HB4 : Hid (Below w.heap.size w w4) := hidP (HB2.out.trans (hb24.mono HB2.out.size))
  have HR14 : Hid (ERow eSpan w4 w.heap.size (.slice (some ⟨g, 0, none⟩) xs.length c1) xs) := hidP (HR1.out.below hb24)
  have h24 := hb24.size
  clear hr3 hb3 hb34 hw4 hb24
  have t5 := hidP (eqSpanS_same (.slice a xs.length c2) (.slice (some ⟨g, 0, none⟩) xs.length c1) _ _ xs w4 (by omega) HR3.out HR14.out)
  go_upto_region 5 with fail
  rw [← HW4.out]
  go_wp2_with fail
  refine t5.out.mono ?_
  rintro e w5 ⟨rfl, hb5⟩
  have HB45 : Hid (Below w4.heap.size w4 w5) := hb5
  obtain ⟨x0, x1⟩ := HX4.out w5 hb5
  obtain ⟨y0, y1⟩ := HX2.out w5 (HB24.out.trans (hb5.mono h24))
  clear hb5 t5
  go_wp2_with fail
  refine (tD.out w5).mono ?_
  rintro e w6 ⟨rfl, hb6⟩
  have HB46 : Hid (Below w4.heap.size w4 w6) := hidP (HB45.out.trans (hb6.mono HB45.out.size))
  have h46 : w4.heap.size ≤ w6.heap.size := HB46.out.size
  clear hb6 x0 x1 y0 y1
  have t7 := hidP (markSpanS_any (.slice a xs.length c2) w2.heap.size xs 1 w6 (by omega) (by omega) (by omega) (HR3.out.below HB46.out))
  go_wp2_with fail
  refine t7.out.mono ?_
  rintro e w7 ⟨rfl, hh7, hg7⟩
  have HO : Hid (∀ k, oP a = some k → w2.heap.size ≤ k ∧ k < w4.heap.size) := hidP (fun k hk => by
    have := HR3.out.own k (by rw [oP_slice]; exact hk)
    exact this)
  rw [oP_slice] at hg7
  have HT7 : Hid (Touch (fun k => oP a = some k) w6 w7) := hidP (Touch.of_grown hg7 (fun k e => e))
  have HR17 : Hid (ERow eSpan w7 w.heap.size (.slice (some ⟨g, 0, none⟩) xs.length c1) xs) := hidP ((HR14.out.below HB46.out).touch HT7.out (fun k hk e => by
    have hk' : g = k := by simpa [Value.ownBlock] using hk
    have := (HO.out k e).1
    have := HO1.out
    omega))
  have HB7 : Hid (Below w.heap.size w w7) := hidP (by
    refine ((HB4.out.trans (HB46.out.mono HB4.out.size))).grown hg7 (Nat.le_trans HB4.out.size h46) (fun k hk => ?_)
    have := (HO.out k hk).1
    have := HB2.out.size
    omega)
  have HX7 : Hid (∀ wX, Below w7.heap.size w7 wX → wX.cell? ⟨w1.heap.size, 0, none⟩ = some (.int .i64 C) ∧ wX.cell? ⟨w1.heap.size, 1, none⟩ = some (.int .i64 D)) := hidP (fun wX hX => by
    have e7 : w7.heap[w1.heap.size]? = w6.heap[w1.heap.size]? := HT7.out.block _ (by omega) (fun e => by have := (HO.out _ e).1; omega)
    have h0 := HX2.out w6 (HB24.out.trans (HB46.out.mono h24))
    have hs := HT7.out.size
    exact ⟨(hX.cell (p := ⟨w1.heap.size, 0, none⟩) (by show w1.heap.size < _; omega)).trans ((World.cell?_of_block e7).trans h0.1), (hX.cell (p := ⟨w1.heap.size, 1, none⟩) (by show w1.heap.size < _; omega)).trans ((World.cell?_of_block e7).trans h0.2)⟩)
  have t8 := hidP (heldSpanS_any (.slice a xs.length c2) xs.length 1 w7 (by omega) (by omega) (by omega) hh7)
  clear hh7 hg7 t7
  go_wp2_with fail
  refine t8.out.mono ?_
  rintro e w8 ⟨rfl, hb8⟩
  have HB8 : Hid (Below w.heap.size w w8) := hidP (HB7.out.trans (hb8.mono HB7.out.size))
  have HB78 : Hid (Below w7.heap.size w7 w8) := hb8
  have L8 : ¬ ((1 : Int) + (xs.length : Int) * 5 < 0) := by omega
  clear hb8 t8
  go_wp2_with fail
  refine (t2.out w8).mono ?_
  rintro e w9 ⟨a9, c9, rfl, hr9, hb9⟩
  obtain ⟨w10, hw10⟩ : ∃ w10, w10 = w9.alloc (.cells #[.int .i64 C, .int .i64 D] 69) := ⟨_, rfl⟩
  have hb910 : Below w9.heap.size w9 w10 := by rw [hw10]; exact bal
  have hz10 : w9.heap.size < w10.heap.size := by rw [hw10]; simp
  have HXa : Hid (∀ wX, Below w10.heap.size w10 wX → wX.cell? ⟨w9.heap.size, 0, none⟩ = some (.int .i64 C) ∧ wX.cell? ⟨w9.heap.size, 1, none⟩ = some (.int .i64 D)) := hidP (fun wX hX => by
    refine ⟨(hX.cell (p := ⟨w9.heap.size, 0, none⟩) hz10).trans ?_, (hX.cell (p := ⟨w9.heap.size, 1, none⟩) hz10).trans ?_⟩ <;> (rw [hw10]; simp [go_sem]))
  have HWa : Hid (w10 = _) := hw10
  have HB8a : Hid (Below w8.heap.size w8 w10) := hidP (hb9.trans (hb910.mono hb9.size))
  have HB7a : Hid (Below w7.heap.size w7 w10) := hidP (HB78.out.trans (HB8a.out.mono HB78.out.size))
  have t11 := hidP (eqSpanS_same (.slice a9 xs.length c9) (.slice (some ⟨g, 0, none⟩) xs.length c1) _ _ xs w10 (by omega) (hr9.below hb910) (HR17.out.below HB7a.out))
  clear hr9 hb9 hb910 hw10
  go_upto_region 16 with fail
  rw [← HWa.out]
  go_wp2_with fail
  refine t11.out.mono ?_
  rintro e w11 ⟨rfl, hb11⟩
  obtain ⟨x0, x1⟩ := HXa.out w11 hb11
  obtain ⟨y0, y1⟩ := HX7.out w11 (HB7a.out.trans (hb11.mono HB7a.out.size))
  have HBb : Hid (Below w10.heap.size w10 w11) := hb11
  clear hb11 t11
  go_wp2_with fail
  refine (tD.out w11).mono ?_
  rintro e w12 ⟨rfl, hb12⟩
  have HBc : Hid (Below w.heap.size w w12) := hidP (((HB8.out.trans (HB8a.out.mono HB8.out.size)).trans (HBb.out.mono (Nat.le_trans HB8.out.size HB8a.out.size))).trans (hb12.mono (Nat.le_trans (Nat.le_trans HB8.out.size HB8a.out.size) HBb.out.size)))
  clear hb12
  go_wp2_with fail
  go_ret
  exact ⟨rfl, HBc.out⟩
theorem rpl_big (l : Txt) (w : World) (hm : l.length ≤ 9223372036854775807) (hb : ¬ l.length ≤ 1048576) :
    Calls Try.prog 10 #[.string (bs l)] w fun e w' => e = .returned (.bool true) ∧ Below w.heap.size w w' := by
  have L1 : (1048576 : Int) < (l.length : Int) := by omega
  go_enter Try.func10, Try.ntmps10
  go_wp2_with fail
  go_ret
  exact ⟨rfl, Below.refl _ _⟩
theorem rpl_own : ownKnob Try.prog.godebug = none := by kernel_rfl
theorem rpl_laidOut : laidOutB Try.prog = true := by kernel_rfl
set_option maxRecDepth 100000 in
theorem rpl_lifted (os : Os) (started : os.Started) (H : Type) (enc : TypeId × Value → H) :
    ReturnsInHanded {} Try.checked os 10 .any (Rows.fnExactReadPolicySpec.pre6 enc Try.prog Try.f10 Rows.fnExactReadPolicyRow.domain false) (Rows.fnExactReadPolicySpec.post enc Try.prog Try.f10 false true false false) := by
  refine returnsInHanded_of_change (C := Try.checked) rpl_own started (by kernel_rfl) Try.func10
    (ChangeSpec.witness6 (enc := enc) (C := Try.checked) false ⟨#[], #[.string (bs [])], []⟩ 8 (by kernel_rfl) (by kernel_rfl) (by kernel_rfl) (by kernel_rfl)) ?_
  intro W base args ds gs before hval0 hW hcnd _
  have hval : ∀ (j : Nat) t v, Try.f10.params[j]? = some t → args[j]? = some v → Value.okWide Try.prog W .any base t v := hval0
  have hW' := hW
  obtain ⟨p, q, hA0, hV, rfl, hfz, hnd⟩ := hW
  have hA : DataW.TrodAll enc Try.prog W 0 (fun _ => true) true Try.f10.params.toList args.toList ds p := hA0
  rw [Try.params10] at hA hval
  obtain ⟨v0, vs0, d0, ds0, p0, q0, hargs, rfl, rfl, h0, r0⟩ := trodAll_cons hA
  obtain ⟨rfl, rfl, rfl⟩ := trodAll_nil r0
  obtain rfl : args = #[v0] := by cases args; simp_all
  obtain ⟨rfl, rfl⟩ := trodVars_none hV
  have k0 := h0
  have lt0 : ∀ x ∈ p0, x.block < W.heap.size := by obtain ⟨m, hm⟩ := k0; exact DataW.trod_lt m _ _ _ hm
  have hv0 := hval 0 9 v0 rfl rfl
  obtain ⟨s, rfl⟩ := okWide_string Try.underlying9 hv0
  obtain ⟨l, rfl⟩ := bs_of s
  have hm : l.length ≤ 9223372036854775807 := by
    have h2 : IntKind.i64.max = 9223372036854775807 := rfl
    have h3 : ((bs l).size : Int) ≤ IntKind.i64.max := by simpa [Value.okWide, Cell.okWide, Cell.ok, Try.underlying9] using hv0
    rw [bs_size] at h3
    omega
  clear hA0 hval0
  refine (show Calls Try.prog 10 #[.string (bs l)] W fun e w' => e = .returned (.bool true) ∧ Below W.heap.size W w' from by
    by_cases hb : l.length ≤ 1048576
    · exact rpl_walk l W hb
    · exact rpl_big l W hm hb).mono fun e W' ⟨he, bel⟩ => ?_
  subst he
  exact ⟨_, rfl, _, _, _, [], _, [], hW', trodAll_mk1 (shut_bool Try.underlying4 _), (trodAll_cons_mk (Below.trod rpl_laidOut (by kernel_rfl) (of_decide_eq_true (by kernel_rfl)) k0 bel lt0) trodAll_mk0), rfl, bel.frame _, fun h => by cases h⟩

/-- THE STATEMENT -/
theorem rpl_proved : Rows.FnExactReadPolicySaid :=
  OpenClaim.holds_of_wide 10 Try.f10 rfl rfl rfl rfl rfl rfl rfl ⟨rfl, rfl, rfl, rfl, rfl⟩ rfl rfl rfl rfl rfl (by kernel_rfl) Try.func10 (by kernel_rfl)
    (of_decide_eq_true (by kernel_rfl)) (by unfold Func.isWrapper; first | (rw [if_pos (by decide +kernel)]; kernel_rfl) | (rw [if_neg (by decide +kernel)]; exact ⟨rfl, rfl⟩))
    (fun os started H enc _ => rpl_lifted os started H enc)
#print axioms rpl_proved
end Go.Proofs.Ytnmhkgmmpkjjeab
