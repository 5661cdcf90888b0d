import Derived.Test.YtnmhkgmmpkjjeaaG42
import Derived.Test.YtnmhkgmmpkjjeaaG43
namespace Go.Proofs.Ytnmhkgmmpkjjeaa
open Go.ChangeShapes Go.WideShapes Go.ChangeAt Go.RowKit
set_option linter.unusedVariables false
set_option linter.unusedSimpArgs false
set_option maxRecDepth 100000
attribute [local go_sem ↓] Go.wp_at_zero Go.wp_at_succ
attribute [local go_sem] bs_size bs_cAt bs_app bs_mk bs_cut bs_list

/-! A drawn text (version v). -/
def tGrd : Txt := [103, 117, 97, 114, 100, 32, 52, 48, 48, 48, 32, 57, 54, 59, 32, 35, 32, 116, 104, 101, 32, 108, 97, 115, 116, 32, 112, 97, 103, 101, 115, 10]
theorem bs_tGrd : bs [103, 117, 97, 114, 100, 32, 52, 48, 48, 48, 32, 57, 54, 59, 32, 35, 32, 116, 104, 101, 32, 108, 97, 115, 116, 32, 112, 97, 103, 101, 115, 10] = bs tGrd := rfl
attribute [local go_sem] bs_tGrd
def drTxt (v : Int) (cs : List Int) (p : Nat) : Txt := if (p + 5 * arN cs) % 3 = 0 then areasTxt (areas v cs p (arN cs)).1 ++ tGrd else areasTxt (areas v cs p (arN cs)).1
theorem drAB (v : Int) (cs : List Int) (p : Nat) (hc : Byt cs) (hp : p ≤ 90000) : (areas v cs p (arN cs)).1.length ≤ 8 ∧ ∀ j, j < (areas v cs p (arN cs)).1.length → AB 30000 (eAt eArea (areas v cs p (arN cs)).1 j) := by
  obtain ⟨b0, b1⟩ := arN_bd cs
  obtain ⟨h1, h2, h3⟩ := areas_ok v cs p hc hp (arN cs) b1
  exact ⟨by omega, fun j hj => (h3 j (by omega)).mono (by omega)⟩
theorem drTxt_len (v : Int) (cs : List Int) (p : Nat) (hc : Byt cs) (hp : p ≤ 90000) : (areasTxt (areas v cs p (arN cs)).1).length ≤ 900000 ∧ (drTxt v cs p).length ≤ 1000000 := by
  obtain ⟨h1, h2⟩ := drAB v cs p hc hp
  have h3 := txTo_len _ (shTo (areas v cs p (arN cs)).1 (areas v cs p (arN cs)).1.length) h2 _ (Nat.le_refl _)
  have h4 : (areasTxt (areas v cs p (arN cs)).1).length ≤ 900000 := by unfold areasTxt; omega
  refine ⟨h4, ?_⟩
  unfold drTxt
  split
  · rw [List.length_append]
    have : tGrd.length = 32 := rfl
    omega
  · omega
set_option maxHeartbeats 2000000 in
theorem drawText_any (v : Int) (hv : v = 0 ∨ v = 1) (a : Option Addr) (cap : Nat) (cs : List Int) (p : Nat) (w : World) (hc : Byt cs) (hp : p ≤ 90000) (hs : BAt w a cs) :
    Calls Try.prog 53 #[.slice a cs.length cap, .int .i64 (p : Int), .int .i64 v] w fun e w' => e = .returned (.tuple #[.string (bs (drTxt v cs p)), .int .i64 ((p + 5 * arN cs : Nat) : Int)]) ∧ Below w.heap.size w w' := by
  have t1 := drawAreas_any v hv a cap cs p w hc hp hs
  obtain ⟨h1, h2⟩ := drAB v cs p hc hp
  have HD : Hid (drTxt v cs p = if (p + 5 * arN cs) % 3 = 0 then areasTxt (areas v cs p (arN cs)).1 ++ tGrd else areasTxt (areas v cs p (arN cs)).1) := hidP rfl
  have HT : Hid (∀ g c wX, ERow eArea wX w.heap.size (.slice (some ⟨g, 0, none⟩) (areas v cs p (arN cs)).1.length c) (areas v cs p (arN cs)).1 → Calls Try.prog 116 #[.slice (some ⟨g, 0, none⟩) (areas v cs p (arN cs)).1.length c] wX fun e w' => e = .returned (.string (bs (areasTxt (areas v cs p (arN cs)).1))) ∧ Below wX.heap.size wX w') := hidP fun g c wX h => areasText_any g c w.heap.size _ wX h1 h2 h
  have hlen := (drTxt_len v cs p hc hp).1
  obtain ⟨b0, b1⟩ := arN_bd cs
  have hlg : tGrd.length = 32 := rfl
  generalize drTxt v cs p = R at *
  generalize areasTxt (areas v cs p (arN cs)).1 = T at *
  generalize (areas v cs p (arN cs)).1 = l at *
  clear hc hs h2 hv
  obtain ⟨q, hq⟩ : ∃ q, p + 5 * arN cs = q := ⟨_, rfl⟩
  have hq1 : q ≤ 100000 := by omega
  rw [hq] at t1 HD ⊢
  clear hq
  obtain ⟨q3, hq3⟩ : ∃ q3 : Int, (q : Int) % 3 = q3 := ⟨_, rfl⟩
  have eq3 : (q : Int).tmod 3 = q3 := by rw [Int.tmod_eq_emod_of_nonneg (by omega)]; exact hq3
  go_enter Try.func53, Try.ntmps53
  go_wp2_with fail
  refine t1.mono ?_
  rintro e w1 ⟨g, c, rfl, hr, hb1⟩
  have t2 := HT.out g c w1 hr
  have HB1 : Hid (Below w.heap.size w w1) := hb1
  clear t1 hr hb1 HT
  go_wp2_with fail
  refine t2.mono ?_
  rintro e w2 ⟨rfl, hb2⟩
  have HB2 : Hid (Below w.heap.size w w2) := hidP (HB1.out.trans (hb2.mono HB1.out.size))
  clear t2 hb2
  by_cases h3 : q3 = 0
  · have h3b : (q3 == 0) = true := by simpa using h3
    have HR : Hid (R = T ++ tGrd) := hidP (by rw [HD.out, if_pos (by omega)])
    clear hq3 h3
    go_wp2_with fail
    exact bodyPost_ret (v := .tuple #[.string (bs (T ++ tGrd)), .int .i64 (q : Int)]) (by simp [results, Try.results53, go_sem]) rfl ⟨by rw [HR.out], HB2.out⟩
  · have h3b : (q3 == 0) = false := by simpa using h3
    have HR : Hid (R = T) := hidP (by rw [HD.out, if_neg (by omega)])
    clear hq3 h3
    go_wp2_with fail
    exact bodyPost_ret (v := .tuple #[.string (bs T), .int .i64 (q : Int)]) (by simp [results, Try.results53, go_sem]) rfl ⟨by rw [HR.out], HB2.out⟩
end Go.Proofs.Ytnmhkgmmpkjjeaa
namespace Go.Proofs.Ytnmhkgmmpkjjeaa
open Go.ChangeShapes Go.WideShapes Go.ChangeAt Go.RowKit
set_option linter.unusedVariables false
set_option linter.unusedSimpArgs false
set_option maxRecDepth 100000
attribute [local go_sem ↓] Go.wp_at_zero Go.wp_at_succ
attribute [local go_sem] bs_size bs_cAt bs_app bs_mk bs_cut bs_list

/-! The text that is drawn: some text. -/
def SomeT (n : Nat) (w : World) (e : Ending) (w' : World) : Prop := ∃ t : Txt, e = .returned (.string (bs t)) ∧ t.length ≤ n ∧ Below w.heap.size w w'
set_option maxHeartbeats 4000000 in
theorem extra_any (a : Option Addr) (cap : Nat) (cs : List Int) (p : Nat) (w : World) (hc : Byt cs) (hp : p ≤ 900000) (hs : BAt w a cs) : Calls Try.prog 55 #[.slice a cs.length cap, .int .i64 (p : Int)] w (SomeT 300 w) := by
  have t1 := hidP (take_any a cap cs p 14 w hc (by omega) (by omega) hs)
  have bX := tkV_bd cs p 14 (by omega) hc (by omega)
  have t2 := hidP (fun wX (hX : Below w.heap.size w wX) => take_any a cap cs (p + 1) 70 wX hc (by omega) (by omega) (hs.below hX))
  have bY := tkV_bd cs (p + 1) 70 (by omega) hc (by omega)
  generalize tkV cs p 14 = X at *
  obtain ⟨Y, hY⟩ : ∃ Y : Nat, tkV cs (p + 1) 70 = (Y : Int) := ⟨(tkV cs (p + 1) 70).toNat, by omega⟩
  rw [hY] at t2 bY
  have hY1 : Y < 70 := by omega
  have HS : Hid (∀ (n : Nat) wX, n ≤ 1000 → Calls Try.prog 54 #[.int .i64 (n : Int)] wX fun e w' => e = .returned (.string (bs (showL n))) ∧ Below wX.heap.size wX w') := hidP (fun n wX hn => l4Show_any n (by omega) wX)
  have hp1 : ((p + 1 : Nat) : Int) = (p : Int) + 1 := by omega
  rw [hp1] at t2
  clear hc hs hY bY
  go_enter Try.func55, Try.ntmps55
  go_wp2_with fail
  refine t1.out.mono ?_
  rintro e w1 ⟨rfl, hb1⟩
  have t3 := hidP (t2.out w1 hb1)
  have HB1 := hidP hb1
  clear t1 t2 hb1 hp1
  go_wp2_with fail
  refine t3.out.mono ?_
  rintro e w2 ⟨rfl, hb2⟩
  have HB2 : Hid (Below w.heap.size w w2) := hidP (HB1.out.trans (hb2.mono HB1.out.size))
  clear t3 hb2 HB1
  rcases (show X = 0 ∨ X = 1 ∨ X = 2 ∨ X = 3 ∨ X = 4 ∨ X = 5 ∨ X = 6 ∨ X = 7 ∨ X = 8 ∨ X = 9 ∨ X = 10 ∨ X = 11 ∨ X = 12 ∨ X = 13 by omega) with rfl | rfl | rfl | rfl | rfl | rfl | rfl | rfl | rfl | rfl | rfl | rfl | rfl | rfl
  · go_wp2_with fail
    go_ret
    exact ⟨_, rfl, by decide, HB2.out⟩
  · go_wp2_with fail
    go_ret
    exact ⟨_, rfl, by decide, HB2.out⟩
  · go_wp2_with fail
    go_ret
    exact ⟨_, rfl, by decide, HB2.out⟩
  · go_wp2_with fail
    go_ret
    exact ⟨_, rfl, by decide, HB2.out⟩
  · go_wp2_with fail
    go_ret
    exact ⟨_, rfl, by decide, HB2.out⟩
  · have t4 := hidP (HS.out (16 + Y) w2 (by omega))
    have hl := showL_len (16 + Y)
    generalize showL (16 + Y) = T at *
    have hcast : ((16 + Y : Nat) : Int) = 16 + (Y : Int) := by omega
    rw [hcast] at t4
    have W1 : IntKind.i64.wrap (16 + (Y : Int)) = 16 + (Y : Int) := by rw [IntKind.wrap_i64]; omega
    clear hcast
    have q1 : ¬ (9223372036854775807 : Int) < (14 : Int) + (T.length : Int) := by omega
    have hT : T.length ≤ 200 := by omega
    go_wp2_with fail
    refine t4.out.mono ?_
    rintro e w3 ⟨rfl, hb3⟩
    have HB3 : Hid (Below w.heap.size w w3) := hidP (HB2.out.trans (hb3.mono HB2.out.size))
    clear t4 hb3
    go_wp2_with fail
    go_ret
    exact ⟨_, rfl, by simp; omega, HB3.out⟩
  · have t4 := hidP (HS.out Y w2 (by omega))
    have hl := showL_len Y
    generalize showL Y = T at *
    have q1 : ¬ (9223372036854775807 : Int) < (14 : Int) + (T.length : Int) := by omega
    have hT : T.length ≤ 200 := by omega
    go_wp2_with fail
    refine t4.out.mono ?_
    rintro e w3 ⟨rfl, hb3⟩
    have HB3 : Hid (Below w.heap.size w w3) := hidP (HB2.out.trans (hb3.mono HB2.out.size))
    clear t4 hb3
    go_wp2_with fail
    go_ret
    exact ⟨_, rfl, by simp; omega, HB3.out⟩
  · go_wp2_with fail
    go_ret
    exact ⟨_, rfl, by decide, HB2.out⟩
  · go_wp2_with fail
    go_ret
    exact ⟨_, rfl, by decide, HB2.out⟩
  · have t4 := hidP (HS.out Y w2 (by omega))
    have hl := showL_len Y
    generalize showL Y = T at *
    have q1 : ¬ (9223372036854775807 : Int) < (14 : Int) + (T.length : Int) := by omega
    have hT : T.length ≤ 200 := by omega
    go_wp2_with fail
    refine t4.out.mono ?_
    rintro e w3 ⟨rfl, hb3⟩
    have HB3 : Hid (Below w.heap.size w w3) := hidP (HB2.out.trans (hb3.mono HB2.out.size))
    clear t4 hb3
    go_wp2_with fail
    go_ret
    exact ⟨_, rfl, by simp; omega, HB3.out⟩
  · go_wp2_with fail
    go_ret
    exact ⟨_, rfl, by decide, HB2.out⟩
  · go_wp2_with fail
    go_ret
    exact ⟨_, rfl, by decide, HB2.out⟩
  · go_wp2_with fail
    go_ret
    exact ⟨_, rfl, by decide, HB2.out⟩
  · go_wp2_with fail
    go_ret
    exact ⟨_, rfl, by decide, HB2.out⟩

theorem cutL_le (l : Txt) (i j : Nat) : (cutL l i j).length ≤ l.length := by
  unfold cutL
  rw [List.length_drop, List.length_take]
  omega
theorem cutL_le2 (l : Txt) (i j : Nat) : (cutL l i j).length ≤ j - i := by
  unfold cutL
  rw [List.length_drop, List.length_take]
  omega
set_option maxHeartbeats 4000000 in
theorem spoilT_any (a : Option Addr) (cap : Nat) (cs : List Int) (p : Nat) (s : Txt) (w : World) (hc : Byt cs) (hp : p ≤ 900000) (hl : s.length ≤ 950000) (hs : BAt w a cs) : Calls Try.prog 56 #[.slice a cs.length cap, .int .i64 (p : Int), .string (bs s)] w (SomeT 3000000 w) := by
  have t1 := hidP (take_any a cap cs p 4 w hc (by omega) (by omega) hs)
  have bA := tkV_bd cs p 4 (by omega) hc (by omega)
  have t2 := hidP (fun wX (hX : Below w.heap.size w wX) => take_any a cap cs (p + 1) ((s.length : Int) + 1) wX hc (by omega) (by omega) (hs.below hX))
  have bT := tkV_bd cs (p + 1) ((s.length : Int) + 1) (by omega) hc (by omega)
  have t3 := hidP (fun wX (hX : Below w.heap.size w wX) => take_any a cap cs (p + 1 + 1) 16 wX hc (by omega) (by omega) (hs.below hX))
  have bX := tkV_bd cs (p + 1 + 1) 16 (by omega) hc (by omega)
  generalize tkV cs p 4 = A at *
  obtain ⟨T, hT⟩ : ∃ T : Nat, tkV cs (p + 1) ((s.length : Int) + 1) = (T : Int) := ⟨(tkV cs (p + 1) ((s.length : Int) + 1)).toNat, by omega⟩
  obtain ⟨X, hX⟩ : ∃ X : Nat, tkV cs (p + 1 + 1) 16 = (X : Int) := ⟨(tkV cs (p + 1 + 1) 16).toNat, by omega⟩
  rw [hT] at t2 bT
  rw [hX] at t3 bX
  have hp1 : ((p + 1 : Nat) : Int) = (p : Int) + 1 := by omega
  have hp2 : ((p + 1 + 1 : Nat) : Int) = (p : Int) + 1 + 1 := by omega
  rw [hp1] at t2
  rw [hp2] at t3
  have W0 : IntKind.i64.wrap ((s.length : Int) + 1) = (s.length : Int) + 1 := by rw [IntKind.wrap_i64]; omega
  have T0 : (0 : Int) ≤ (T : Int) := by omega
  have T1 : (T : Int) ≤ (s.length : Int) := by omega
  have WT : IntKind.i64.wrap ((T : Int) + 1) = (T : Int) + 1 := by rw [IntKind.wrap_i64]; omega
  have X0 : (0 : Int) ≤ (X : Int) := by omega
  have X1 : (X : Int) ≤ (X : Int) + 1 := by omega
  have X2 : (X : Int) + 1 ≤ 16 := by omega
  have WX : IntKind.i64.wrap ((X : Int) + 1) = (X : Int) + 1 := by rw [IntKind.wrap_i64]; omega
  clear hc hs hp1 hp2 hT hX
  go_enter Try.func56, Try.ntmps56
  go_wp2_with fail
  refine t1.out.mono ?_
  rintro e w1 ⟨rfl, hb1⟩
  have t4 := hidP (t2.out w1 hb1)
  have HB1 := hidP hb1
  clear t1 t2 hb1
  go_wp2_with fail
  refine t4.out.mono ?_
  rintro e w2 ⟨rfl, hb2⟩
  have HB2 : Hid (Below w.heap.size w w2) := hidP (HB1.out.trans (hb2.mono HB1.out.size))
  have t5 := hidP (t3.out w2 HB2.out)
  clear t4 hb2 HB1 t3
  go_wp2_with fail
  refine t5.out.mono ?_
  rintro e w3 ⟨rfl, hb3⟩
  have HB3 : Hid (Below w.heap.size w w3) := hidP (HB2.out.trans (hb3.mono HB2.out.size))
  clear t5 hb3 HB2
  have HLN : Hid (∀ i j, (cutL s i j).length ≤ 950000) := hidP (fun i j => Nat.le_trans (cutL_le s i j) hl)
  have H12 : Hid ((cutL s 0 T).length ≤ 950000) := hidP (HLN.out 0 T)
  have T3 : (0 : Int) ≤ (T : Int) + 1 := by omega
  have l1 := HLN.out 0 T
  have l2 := HLN.out (T + 1) s.length
  have l3 := HLN.out T s.length
  have l4 : (cutL ([59, 35, 32, 48, 49, 50, 57, 95, 97, 120, 114, 119, 10, 45, 65, 90] : Txt) X (X + 1)).length ≤ 16 := cutL_le ([59, 35, 32, 48, 49, 50, 57, 95, 97, 120, 114, 119, 10, 45, 65, 90] : Txt) X (X + 1)
  have p1 : ¬ 9223372036854775807 < (cutL s 0 T).length + (cutL s (T + 1) s.length).length := by omega
  have p2 : ¬ 9223372036854775807 < (cutL s 0 T).length + (cutL ([59, 35, 32, 48, 49, 50, 57, 95, 97, 120, 114, 119, 10, 45, 65, 90] : Txt) X (X + 1)).length := by omega
  have p3 : ¬ 9223372036854775807 < (cutL s 0 T).length + (cutL ([59, 35, 32, 48, 49, 50, 57, 95, 97, 120, 114, 119, 10, 45, 65, 90] : Txt) X (X + 1)).length + (cutL s T s.length).length := by omega
  have p4 : ¬ 9223372036854775807 < (cutL s 0 T).length + ((cutL ([59, 35, 32, 48, 49, 50, 57, 95, 97, 120, 114, 119, 10, 45, 65, 90] : Txt) X (X + 1)).length + (cutL s T s.length).length) := by omega
  have p5 : ¬ 9223372036854775807 < (cutL s 0 T).length + (cutL ([59, 35, 32, 48, 49, 50, 57, 95, 97, 120, 114, 119, 10, 45, 65, 90] : Txt) X (X + 1)).length + (cutL s (T + 1) s.length).length := by omega
  have p6 : ¬ 9223372036854775807 < (cutL s 0 T).length + ((cutL ([59, 35, 32, 48, 49, 50, 57, 95, 97, 120, 114, 119, 10, 45, 65, 90] : Txt) X (X + 1)).length + (cutL s (T + 1) s.length).length) := by omega
  rcases (show A = 0 ∨ A = 1 ∨ A = 2 ∨ A = 3 by omega) with rfl | rfl | rfl | rfl
  · by_cases h1 : (T : Int) < (s.length : Int)
    · have T2 : (T : Int) + 1 ≤ (s.length : Int) := by omega
      go_wp2_with fail
      refine wp_region_held_drew (S := fun _ => True) (by kernel_rfl) trivial (fun hHeld => ?_)
      refine tk 0 ?_
      refine tk 1 ?_
      refine tk 2 ?_
      refine tk 3 ?_
      refine tk 4 ?_
      refine tk 5 ?_
      refine tk 6 ?_
      refine tk 7 ?_
      refine tk 8 ?_
      refine wpAnyH_done (by kernel_rfl) ?_ _
      go_wp2_with fail
      go_ret
      exact ⟨_, rfl, by simp only [List.length_append]; omega, HB3.out.drew⟩
    · go_wp2_with fail
      go_ret
      exact ⟨_, rfl, by omega, HB3.out⟩
  · go_wp2_with fail
    refine wp_region_held_drew (S := fun _ => True) (by kernel_rfl) trivial (fun hHeld => ?_)
    refine tk 0 ?_
    refine tk 1 ?_
    refine tk 2 ?_
    refine tk 3 ?_
    refine tk 4 ?_
    refine tk 5 ?_
    refine tk 6 ?_
    refine tk 7 ?_
    refine tk 8 ?_
    refine tk 9 ?_
    refine tk 10 ?_
    refine tk 11 ?_
    refine tk 12 ?_
    refine tk 13 ?_
    refine wpAnyH_done (by kernel_rfl) ?_ _
    go_wp2_with fail
    go_ret
    exact ⟨_, rfl, by simp only [List.length_append]; omega, HB3.out.drew⟩
  · by_cases h1 : (T : Int) < (s.length : Int)
    · have T2 : (T : Int) + 1 ≤ (s.length : Int) := by omega
      go_wp2_with fail
      refine wp_region_held_drew (S := fun _ => True) (by kernel_rfl) trivial (fun hHeld => ?_)
      refine tk 0 ?_
      refine tk 1 ?_
      refine tk 2 ?_
      refine tk 3 ?_
      refine tk 4 ?_
      refine tk 5 ?_
      refine tk 6 ?_
      refine tk 7 ?_
      refine tk 8 ?_
      refine tk 9 ?_
      refine tk 10 ?_
      refine tk 11 ?_
      refine tk 12 ?_
      refine tk 13 ?_
      refine tk 14 ?_
      refine wpAnyH_done (by kernel_rfl) ?_ _
      go_wp2_with fail
      go_ret
      exact ⟨_, rfl, by simp only [List.length_append]; omega, HB3.out.drew⟩
    · go_wp2_with fail
      go_ret
      exact ⟨_, rfl, by omega, HB3.out⟩
  · go_wp2_with fail
    go_ret
    exact ⟨_, rfl, by omega, HB3.out⟩
end Go.Proofs.Ytnmhkgmmpkjjeaa
