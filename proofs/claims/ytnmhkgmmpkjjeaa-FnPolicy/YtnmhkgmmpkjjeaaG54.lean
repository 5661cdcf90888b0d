import Derived.Test.YtnmhkgmmpkjjeaaG39
import Derived.Test.YtnmhkgmmpkjjeaaG45
import Derived.Test.YtnmhkgmmpkjjeaaG46
import Derived.Test.YtnmhkgmmpkjjeaaG47
import Derived.Test.YtnmhkgmmpkjjeaaG49
import Derived.Test.YtnmhkgmmpkjjeaaG53
namespace Go.Proofs.Ytnmhkgmmpkjjeaa
open Go.ChangeShapes Go.WideShapes Go.ChangeAt Go.RowKit
set_option linter.unusedVariables false
set_option linter.unusedSimpArgs false
set_option maxRecDepth 100000
attribute [local go_sem ↓] Go.wp_at_zero Go.wp_at_succ
attribute [local go_sem] bs_size bs_cAt bs_app bs_mk bs_cut bs_list

/-! FnPolicy. -/
theorem polL_small (l : Txt) : (polL l).1.length ≤ 4096 := by
  unfold polL polT
  split
  · simp
  split
  · simp
  split
  · simp
  unfold polE
  split
  · simp
  split
  · simp
  · exact (spans_w (allTo_ok _ _ _) 4096 (Nat.le_refl _)).1
theorem cut_split (t : Txt) (i j : Nat) (h : i ≤ j) : t.take j = t.take i ++ cutL t i j := by
  unfold cutL
  have := (List.take_append_drop i (t.take j)).symm
  rw [List.take_take, Nat.min_eq_left h] at this
  exact this
theorem cut_mem {t : Txt} {i j : Nat} {c : UInt8} (h : c ∈ cutL t i j) : ∃ k, i ≤ k ∧ k < j ∧ k < t.length ∧ cAt t k = c := by
  unfold cutL at h
  obtain ⟨q, hq, e⟩ := List.mem_iff_getElem.1 h
  rw [List.length_drop, List.length_take] at hq
  rw [List.getElem_drop, List.getElem_take] at e
  refine ⟨i + q, by omega, by omega, by omega, ?_⟩
  unfold cAt
  rw [List.getD_eq_getElem?_getD, List.getElem?_eq_getElem (by omega)]
  exact e
theorem ins_step {t : Txt} {f i : Nat} (hf : f ≤ i) (hi : i < t.length) (hn : ∀ j, f ≤ j → j < i → (cAt t j).toNat ≠ 10) (hc : (cAt t i).toNat = 10) : insT (t.take f) ++ cutL t f i ++ pad = insT (t.take (i + 1)) := by
  rw [take_cAt hi, cut_split t f i hf, insT_app, insT_app, insT_none (cutL t f i) (fun c hc => by
    obtain ⟨k, h1, h2, _, e⟩ := cut_mem hc
    rw [← e]
    exact hn k h1 h2)]
  have e : insT [cAt t i] = pad := by
    show (if (cAt t i).toNat = 10 then pad ++ insT [] else _) = _
    rw [if_pos hc]
    rfl
  rw [e]
theorem ins_last {t : Txt} {f : Nat} (hf : f ≤ t.length) (hn : ∀ j, f ≤ j → j < t.length → (cAt t j).toNat ≠ 10) : insT (t.take f) ++ cutL t f t.length = insT t := by
  have e := cut_split t f t.length hf
  rw [List.take_length] at e
  conv => rhs; rw [e]
  rw [insT_app, insT_none (cutL t f t.length) (fun c hc => by
    obtain ⟨k, h1, h2, _, e⟩ := cut_mem hc
    rw [← e]
    exact hn k h1 h2)]
theorem take_ins (t : Txt) (f : Nat) : (insT (t.take f)).length ≤ t.length * 21 := by
  have h1 := (insT_len (t.take f)).2
  have h2 : (t.take f).length ≤ t.length := by rw [List.length_take]; omega
  omega
theorem vs_wf {xs : List SpanE} (h : VS xs) : ∀ i, i < xs.length → wfS (eAt eSpan xs i) := fun i hi => by
  have := h.1 i hi
  rw [spanOk_iff] at this
  unfold wfS
  omega
set_option maxHeartbeats 8000000 in
theorem fq_walk (a : Option Addr) (cap : Nat) (cs : List Int) (w : World) (hc : Byt cs) (hs : BAt w a cs) :
    Calls Try.prog 4 #[.slice a cs.length cap] w fun e w' => e = .returned (.bool true) ∧ Below w.heap.size w w' := by
  have t1 := hidP (drawPol_any a cap cs w hc hs)
  have L0 : ¬ (1048576 : Int) < (cs.length : Int) := by have := hc.1; omega
  clear hc hs
  refine calls_o 125 Try.func4 rfl (by rfl) (by simp) ?_
  intro tm hsz hla
  have s0 := hla 0 (by simp)
  clear hla
  simp only [List.getElem_toArray, List.getElem_cons_zero] at s0
  go_upto_if 16 with fail
  refine wp_cond_false (by go_simp) ?_
  go_wp2_with fail
  refine t1.out.mono ?_
  rintro e w1 ⟨t, rfl, htl, hb1⟩
  have t2 := hidP (specRead_any t w1 (by omega))
  have t3 := hidP (fun wX => implRead_any t wX (by omega))
  have t3b := hidP (fun wX => implRead_any (insT t) wX (by have := (insT_len t).2; omega))
  have hfew := polL_small t
  have HINS : Hid (((polL t).2.1 = 0 ∨ 4 ≤ (polL t).2.1) → (insT t).length ≤ 20000 → polL (insT t) = polL t) := hidP (fun h1 h2 => polL_ins (by omega) (insT_len t).1 h1)
  have HGD : Hid ((polL t).2.1 = 0 → VS (polL t).1) := hidP (fun h0 => by
    obtain ⟨all, h1, h2⟩ := polL_good h0
    rw [h2]
    exact good_vs h1)
  generalize polL t = r at *
  obtain ⟨xs, C, D⟩ := r
  dsimp only [PolPost, RpPost] at t2 t3 hfew HINS HGD
  have HB1 := hidP hb1
  clear hb1 t1
  go_upto_region 4 with fail
  refine wp_narrow 125 [(3, .string (bs t))] (by simp [hsz]) (by simp only [Fs]; and_intros <;> simp [hsz]) ?_
  clear s0 hsz
  clear tm
  intro tm hsz hs
  simp only [Fs] at hs
  obtain ⟨s3, -⟩ := hs
  go_wp2_with fail
  refine t2.out.mono ?_
  rintro e w2 ⟨g, c1, rfl, hr2, hb2⟩
  obtain ⟨w3, hw3⟩ : ∃ w3, w3 = w2.alloc (.cells #[.int .i64 C, .int .i64 D] 49) := ⟨_, rfl⟩
  have hb23 : Below w2.heap.size w2 w3 := by rw [hw3]; exact bal
  have hz3 : w2.heap.size < w3.heap.size := by rw [hw3]; simp
  have HX3 : Hid (∀ wX, Below w3.heap.size w3 wX → wX.cell? ⟨w2.heap.size, 0, none⟩ = some (.int .i64 C) ∧ wX.cell? ⟨w2.heap.size, 1, none⟩ = some (.int .i64 D)) := hidP (fun wX hX => by
    refine ⟨(hX.cell (p := ⟨w2.heap.size, 0, none⟩) hz3).trans ?_, (hX.cell (p := ⟨w2.heap.size, 1, none⟩) hz3).trans ?_⟩ <;> (rw [hw3]; simp [go_sem]))
  have HW3 : Hid (w3 = _) := hw3
  have HRS : Hid (∀ wX, Below w3.heap.size w3 wX → ERow eSpan wX w1.heap.size (.slice (some ⟨g, 0, none⟩) xs.length c1) xs) := hidP (fun wX hX => (hr2.below hb23).below hX)
  have HB3 : Hid (Below w.heap.size w w3) := hidP ((HB1.out.trans (hb2.mono HB1.out.size)).trans (hb23.mono (Nat.le_trans HB1.out.size hb2.size)))
  clear hr2 hb2 hb23 hw3 t2
  go_wp2_with fail
  rw [← HW3.out]
  refine (t3.out w3).mono ?_
  rintro e w4 ⟨ai, ci, rfl, hr4, hb4⟩
  obtain ⟨w5, hw5⟩ : ∃ w5, w5 = w4.alloc (.cells #[.int .i64 C, .int .i64 D] 49) := ⟨_, rfl⟩
  have hb45 : Below w4.heap.size w4 w5 := by rw [hw5]; exact bal
  have hz5 : w4.heap.size < w5.heap.size := by rw [hw5]; simp
  have HX5 : Hid (∀ wX, Below w5.heap.size w5 wX → wX.cell? ⟨w4.heap.size, 0, none⟩ = some (.int .i64 C) ∧ wX.cell? ⟨w4.heap.size, 1, none⟩ = some (.int .i64 D)) := hidP (fun wX hX => by
    refine ⟨(hX.cell (p := ⟨w4.heap.size, 0, none⟩) hz5).trans ?_, (hX.cell (p := ⟨w4.heap.size, 1, none⟩) hz5).trans ?_⟩ <;> (rw [hw5]; simp [go_sem]))
  have HW5 : Hid (w5 = _) := hw5
  have HRI : Hid (∀ wX, Below w5.heap.size w5 wX → ERow eSpan wX w3.heap.size (.slice ai xs.length ci) xs) := hidP (fun wX hX => (hr4.below hb45).below hX)
  have HB35 : Hid (Below w3.heap.size w3 w5) := hidP (hb4.trans (hb45.mono hb4.size))
  have h35 : w3.heap.size ≤ w5.heap.size := HB35.out.size
  have HB5 : Hid (Below w.heap.size w w5) := hidP (HB3.out.trans (HB35.out.mono HB3.out.size))
  clear hr4 hb4 hb45 hw5
  have HD : Hid (∀ wX, Below w5.heap.size w5 wX → (wX.cell? ⟨w2.heap.size, 0, none⟩ = some (.int .i64 C) ∧ wX.cell? ⟨w2.heap.size, 1, none⟩ = some (.int .i64 D)) ∧ wX.cell? ⟨w4.heap.size, 0, none⟩ = some (.int .i64 C) ∧ wX.cell? ⟨w4.heap.size, 1, none⟩ = some (.int .i64 D)) := hidP (fun wX hX => ⟨HX3.out wX (HB35.out.trans (hX.mono h35)), HX5.out wX hX⟩)
  have t6 := hidP (fun wX (hX : Below w5.heap.size w5 wX) => sameSpans_any ai (some ⟨g, 0, none⟩) ci c1 _ _ xs wX (by omega) (HRI.out wX hX) (HRS.out wX (HB35.out.trans (hX.mono h35))))
  have n1 : (C != C) = false := by simp
  have n2 : (D != D) = false := by simp
  go_upto_region 6 with fail
  rw [← HW5.out]
  refine wp_narrow 125 [(3, .string (bs t)), (4, .slice (some ⟨g, 0, none⟩) xs.length c1), (5, .pointer (some ⟨w2.heap.size, 0, none⟩)), (6, .slice ai xs.length ci), (7, .pointer (some ⟨w4.heap.size, 0, none⟩))] (by simp [hsz]) (by simp only [Fs]; and_intros <;> simp [hsz, s3]) ?_
  clear s3 hsz
  clear tm
  intro tm hsz hs
  simp only [Fs] at hs
  obtain ⟨s3, s4, s5, s6, s7, -⟩ := hs
  obtain ⟨⟨x0, x1⟩, y0, y1⟩ := HD.out w5 (Below.refl _ _)
  go_wp2_with fail
  refine (t6.out w5 (Below.refl _ _)).mono ?_
  rintro e w6 ⟨rfl, hb6⟩
  have HB56 := hidP hb6
  have HB6 : Hid (Below w.heap.size w w6) := hidP (HB5.out.trans (hb6.mono HB5.out.size))
  clear hb6 x0 x1 y0 y1 HW3 HW5
  have hsm : t.length * 21 ≤ 63000000 := by omega
  go_upto_if 46 with fail
  refine wp_cond_false (by go_simp) ?_
  refine wp_narrow 125 [(3, .string (bs t)), (4, .slice (some ⟨g, 0, none⟩) xs.length c1), (5, .pointer (some ⟨w2.heap.size, 0, none⟩)), (6, .slice ai xs.length ci), (7, .pointer (some ⟨w4.heap.size, 0, none⟩))] (by simp [hsz]) (by simp only [Fs]; and_intros <;> simp [hsz, s3, s4, s5, s6, s7]) ?_
  clear s3 s4 s5 s6 s7 hsz
  clear tm
  intro tm hsz hs
  simp only [Fs] at hs
  obtain ⟨s3, s4, s5, s6, s7, -⟩ := hs
  have HTI : Hid (∀ f, (insT (t.take f)).length ≤ t.length * 21) := hidP (fun f => take_ins t f)
  go_wp2_with fail
  refine wp_loop_o 125 (fun j tm wr => ∃ (f i : Nat) (L : Txt), j = t.length - i ∧ f ≤ i ∧ i ≤ t.length ∧ Fs tm [(3, .string (bs t)), (4, .slice (some ⟨g, 0, none⟩) xs.length c1), (5, .pointer (some ⟨w2.heap.size, 0, none⟩)), (6, .slice ai xs.length ci), (7, .pointer (some ⟨w4.heap.size, 0, none⟩)), (8, .string (bs L)), (9, .int .i64 (f : Int)), (10, .int .i64 (i : Int))] ∧ L = insT (t.take f) ∧ (∀ j, f ≤ j → j < i → (cAt t j).toNat ≠ 10) ∧ wr = w6) t.length (by simp [hsz]) ⟨0, 0, [], by omega, by omega, by omega, by simp only [Fs]; and_intros <;> simp [hsz, s3, s4, s5, s6, s7], rfl, fun j _ hj => absurd hj (Nat.not_lt_zero _), rfl⟩ ?_
  clear s3 s4 s5 s6 s7 hsz
  clear tm
  intro j tm wr J K hsz hI hJ hK
  obtain ⟨f, i, L, hj, hfi, hil, hs, hL, hno, hwr⟩ := hI
  obtain rfl : w6 = wr := hwr.symm
  simp only [Fs] at hs
  obtain ⟨s3, s4, s5, s6, s7, s8, s9, s10, -⟩ := hs
  subst hj
  have HL := hidP hL
  have HNO := hidP hno
  have hLl : L.length ≤ 63000000 := by rw [hL]; have := HTI.out f; omega
  clear hL hno
  by_cases hlt : i < t.length
  · have K0 : (0 : Int) ≤ (i : Int) := by omega
    have K1 : (i : Int) < (t.length : Int) := by omega
    have W5 : IntKind.i64.wrap ((i : Int) + 1) = (i : Int) + 1 := by rw [IntKind.wrap_i64]; omega
    go_upto_if 50 with fail
    refine wp_cond_true (by go_simp <;> omega) ?_
    by_cases h10 : (cAt t i).toNat = 10
    · have h10b : (((cAt t i).toNat : Int) == 10) = true := by rw [h10]; rfl
      have HST : Hid (L ++ cutL t f i ++ pad = insT (t.take (i + 1))) := hidP (by rw [HL.out]; exact ins_step hfi hlt HNO.out h10)
      have hU : (cutL t f i).length ≤ 3000000 := Nat.le_trans (cutL_le t f i) htl
      have F0 : (0 : Int) ≤ (f : Int) := by omega
      have F1 : (f : Int) ≤ (i : Int) := by omega
      have F2 : (i : Int) ≤ (t.length : Int) := by omega
      have q1 : ¬ 9223372036854775807 < L.length + (cutL t f i).length := by omega
      have q2 : ¬ 9223372036854775807 < L.length + (cutL t f i).length + 21 := by omega
      have q3 : ¬ 9223372036854775807 < L.length + ((cutL t f i).length + 21) := by omega
      go_upto_if 56 with fail
      refine wp_cond_true (by go_simp) ?_
      go_wp2_with fail
      refine Met.intro (hJ (t.length - (i + 1)) _ _ (by simp [hsz]) ⟨i + 1, i + 1, L ++ cutL t f i ++ pad, rfl, by omega, by omega, by rw [show ((i + 1 : Nat) : Int) = (i : Int) + 1 by omega]; simp only [Fs]; and_intros <;> simp [hsz, s3, s4, s5, s6, s7, s8, s9, s10, pad], HST.out, fun j h1 h2 => absurd h2 (by omega), rfl⟩ (by omega))
    · have h10b : (((cAt t i).toNat : Int) == 10) = false := by
        rw [beq_eq_false_iff_ne]
        omega
      go_upto_if 56 with fail
      refine wp_cond_false (by go_simp) ?_
      go_wp2_with fail
      refine Met.intro (hJ (t.length - (i + 1)) _ _ (by simp [hsz]) ⟨f, i + 1, L, rfl, by omega, by omega, by rw [show ((i + 1 : Nat) : Int) = (i : Int) + 1 by omega]; simp only [Fs]; and_intros <;> simp [hsz, s3, s4, s5, s6, s7, s8, s9, s10], HL.out, fun j h1 h2 => (by
        rcases Nat.lt_or_ge j i with h | h
        · exact HNO.out j h1 h
        · obtain rfl : j = i := by omega
          exact h10), rfl⟩ (by omega))
  · obtain rfl : i = t.length := by omega
    have K2 : ¬ (t.length : Int) < (t.length : Int) := by omega
    have HFIN : Hid (L ++ cutL t f t.length = insT t) := hidP (by rw [HL.out]; exact ins_last hfi HNO.out)
    have hU : (cutL t f t.length).length ≤ 3000000 := Nat.le_trans (cutL_le t f t.length) htl
    have F0 : (0 : Int) ≤ (f : Int) := by omega
    have F1 : (f : Int) ≤ (t.length : Int) := by omega
    have q1 : ¬ 9223372036854775807 < L.length + (cutL t f t.length).length := by omega
    obtain ⟨⟨x0, x1⟩, y0, y1⟩ := HD.out w6 HB56.out
    go_upto_if 50 with fail
    refine wp_cond_false (by go_simp <;> omega) ?_
    go_upto_region 17 with fail
    rw [HFIN.out]
    have hil : (insT t).length ≤ 63000000 := by have := (insT_len t).2; omega
    refine wp_narrow 125 [(3, .string (bs t)), (4, .slice (some ⟨g, 0, none⟩) xs.length c1), (5, .pointer (some ⟨w2.heap.size, 0, none⟩)), (6, .slice ai xs.length ci), (7, .pointer (some ⟨w4.heap.size, 0, none⟩)), (8, .string (bs (insT t)))] (by simp [hsz]) (by simp only [Fs]; and_intros <;> simp [hsz, s3, s4, s5, s6, s7, s8, s9, s10]) ?_
    clear s3 s4 s5 s6 s7 s8 s9 s10 hsz HL HNO HFIN hLl hU q1 K2
    clear hJ hK
    intro tm hsz hs
    simp only [Fs] at hs
    obtain ⟨s3, s4, s5, s6, s7, s8, -⟩ := hs
    obtain ⟨CB, hCB⟩ : ∃ CB : Bool, CB = decide ((C = 0 ∨ 4 ≤ C) ∧ (insT t).length ≤ 20000) := ⟨_, rfl⟩
    have HCB := hidP hCB
    clear hCB
    refine wp_mid 125 [(3, .string (bs t)), (4, .slice (some ⟨g, 0, none⟩) xs.length c1), (5, .pointer (some ⟨w2.heap.size, 0, none⟩)), (6, .slice ai xs.length ci), (7, .pointer (some ⟨w4.heap.size, 0, none⟩)), (8, .string (bs (insT t))), (83, .bool CB)] (fun wz => wz = w6) ?_ ?_
    · intro J K hJ hK
      by_cases h0 : C = 0
      · subst h0
        by_cases hln : (insT t).length ≤ 20000
        · have K3 : ((insT t).length : Int) ≤ 20000 := by omega
          have e : CB = true := by rw [HCB.out]; exact decide_eq_true ⟨.inl rfl, hln⟩
          rw [e] at hJ
          go_wp2_with fail
          refine Met.intro (hJ _ _ (by simp [hsz]) (by simp only [Fs]; and_intros <;> simp [hsz, s3, s4, s5, s6, s7, s8]) rfl)
        · have K3 : ¬ ((insT t).length : Int) ≤ 20000 := by omega
          have e : CB = false := by rw [HCB.out]; exact decide_eq_false (fun h => hln h.2)
          rw [e] at hJ
          go_wp2_with fail
          refine Met.intro (hJ _ _ (by simp [hsz]) (by simp only [Fs]; and_intros <;> simp [hsz, s3, s4, s5, s6, s7, s8]) rfl)
      · have h0b : (C == 0) = false := by simpa using h0
        by_cases h4 : 4 ≤ C
        · by_cases hln : (insT t).length ≤ 20000
          · have K3 : ((insT t).length : Int) ≤ 20000 := by omega
            have e : CB = true := by rw [HCB.out]; exact decide_eq_true ⟨.inr h4, hln⟩
            rw [e] at hJ
            clear h0
            go_wp2_with fail
            refine Met.intro (hJ _ _ (by simp [hsz]) (by simp only [Fs]; and_intros <;> simp [hsz, s3, s4, s5, s6, s7, s8]) rfl)
          · have K3 : ¬ ((insT t).length : Int) ≤ 20000 := by omega
            have e : CB = false := by rw [HCB.out]; exact decide_eq_false (fun h => hln h.2)
            rw [e] at hJ
            clear h0
            go_wp2_with fail
            refine Met.intro (hJ _ _ (by simp [hsz]) (by simp only [Fs]; and_intros <;> simp [hsz, s3, s4, s5, s6, s7, s8]) rfl)
        · have h4b : ¬ (4 : Int) ≤ C := h4
          have e : CB = false := by rw [HCB.out]; exact decide_eq_false (fun h => h.1.elim h0 h4)
          rw [e] at hJ
          clear h0
          go_wp2_with fail
          refine Met.intro (hJ _ _ (by simp [hsz]) (by simp only [Fs]; and_intros <;> simp [hsz, s3, s4, s5, s6, s7, s8]) rfl)
    clear s3 s4 s5 s6 s7 s8 hsz
    clear tm
    intro tm wz hsz hs hwz
    obtain rfl : w6 = wz := hwz.symm
    simp only [Fs] at hs
    obtain ⟨s3, s4, s5, s6, s7, s8, s83, -⟩ := hs
    go_upto_if 83 with fail
    refine wp_mid 125 [(3, .string (bs t)), (4, .slice (some ⟨g, 0, none⟩) xs.length c1), (5, .pointer (some ⟨w2.heap.size, 0, none⟩)), (6, .slice ai xs.length ci), (7, .pointer (some ⟨w4.heap.size, 0, none⟩))] (fun wz => Below w6.heap.size w6 wz) ?_ ?_
    · intro J K hJ hK
      cases hcb : CB with
      | false =>
        rw [hcb] at s83
        refine wp_cond_false (by go_simp) ?_
        go_wp2_with fail
        refine Met.intro (hJ _ _ (by simp [hsz]) (by simp only [Fs]; and_intros <;> simp [hsz, s3, s4, s5, s6, s7]) (Below.refl _ _))
      | true =>
        rw [hcb] at s83
        have hcc : (C = 0 ∨ 4 ≤ C) ∧ (insT t).length ≤ 20000 := of_decide_eq_true (HCB.out.symm.trans hcb)
        have t7 := hidP (t3b.out w6)
        rw [HINS.out hcc.1 hcc.2] at t7
        clear hcc
        refine wp_cond_true (by go_simp) ?_
        go_wp2_with fail
        refine t7.out.mono ?_
        rintro e w7 ⟨a7, c7, rfl, hr7, hb7⟩
        dsimp only at hr7 ⊢
        obtain ⟨w8, hw8⟩ : ∃ w8, w8 = w7.alloc (.cells #[.int .i64 C, .int .i64 D] 49) := ⟨_, rfl⟩
        have hb78 : Below w7.heap.size w7 w8 := by rw [hw8]; exact bal
        have hz8 : w7.heap.size < w8.heap.size := by rw [hw8]; simp
        have HX8 : Hid (∀ wX, Below w8.heap.size w8 wX → wX.cell? ⟨w7.heap.size, 0, none⟩ = some (.int .i64 C) ∧ wX.cell? ⟨w7.heap.size, 1, none⟩ = some (.int .i64 D)) := hidP (fun wX hX => by
          refine ⟨(hX.cell (p := ⟨w7.heap.size, 0, none⟩) hz8).trans ?_, (hX.cell (p := ⟨w7.heap.size, 1, none⟩) hz8).trans ?_⟩ <;> (rw [hw8]; simp [go_sem]))
        have HW8 : Hid (w8 = _) := hw8
        have HB68 : Hid (Below w6.heap.size w6 w8) := hidP (hb7.trans (hb78.mono hb7.size))
        have HB58 : Hid (Below w5.heap.size w5 w8) := hidP (HB56.out.trans (HB68.out.mono HB56.out.size))
        have t9 := hidP (sameSpans_any a7 (some ⟨g, 0, none⟩) c7 c1 _ _ xs w8 (by omega) (hr7.below hb78) (HRS.out w8 (HB35.out.trans (HB58.out.mono h35))))
        clear hr7 hb7 hb78 hw8 t7 x0 x1 y0 y1
        go_upto_region 19 with fail
        rw [← HW8.out]
        obtain ⟨⟨x0, x1⟩, -, -⟩ := HD.out w8 HB58.out
        obtain ⟨z0, z1⟩ := HX8.out w8 (Below.refl _ _)
        go_wp2_with fail
        refine t9.out.mono ?_
        rintro e w11 ⟨rfl, hb11⟩
        have HB6b : Hid (Below w6.heap.size w6 w11) := hidP (HB68.out.trans (hb11.mono HB68.out.size))
        clear t9 hb11
        go_upto_if 106 with fail
        refine wp_cond_false (by go_simp) ?_
        go_wp2_with fail
        refine Met.intro (hJ _ _ (by simp [hsz]) (by simp only [Fs]; and_intros <;> simp [hsz, s3, s4, s5, s6, s7]) HB6b.out)
    clear s3 s4 s5 s6 s7 s8 s83 hsz x0 x1 y0 y1
    clear tm
    intro tm w9 hsz hs hb9
    simp only [Fs] at hs
    obtain ⟨s3, s4, s5, s6, s7, -⟩ := hs
    have HB59 : Hid (Below w5.heap.size w5 w9) := hidP (HB56.out.trans (hb9.mono HB56.out.size))
    have HB9 : Hid (Below w.heap.size w w9) := hidP (HB6.out.trans (hb9.mono HB6.out.size))
    obtain ⟨⟨x0, x1⟩, y0, y1⟩ := HD.out w9 HB59.out
    clear hb9
    by_cases h0 : C = 0
    · have HVS : Hid (VS xs) := hidP (HGD.out h0)
      subst h0
      have t10 := hidP (implVS_any ai ci _ xs w9 (by omega) (vs_wf HVS.out) (HRI.out w9 HB59.out))
      have HVB : Hid (vsB xs = true) := hidP (vsB_of HVS.out)
      go_upto_if 109 with fail
      refine wp_cond_false (by go_simp) ?_
      go_wp2_with fail
      refine t10.out.mono ?_
      rintro e w10 ⟨rfl, hb10⟩
      rw [HVB.out]
      have HB5a : Hid (Below w5.heap.size w5 w10) := hidP (HB59.out.trans (hb10.mono HB59.out.size))
      clear t10 hb10 x0 x1 y0 y1
      go_upto_if 112 with fail
      refine wp_cond_false (by go_simp) ?_
      go_wp2_with fail
      refine wp_loop_o 125 (fun j tm wr => ∃ k : Nat, j = 4096 - k ∧ k ≤ 4096 ∧ Fs tm [(4, .slice (some ⟨g, 0, none⟩) xs.length c1), (6, .slice ai xs.length ci), (13, .int .i64 (k : Int))] ∧ Below w5.heap.size w5 wr) 4096 (by simp [hsz]) ⟨0, by omega, by omega, by simp only [Fs]; and_intros <;> simp [hsz, s4, s6], HB5a.out⟩ ?_
      clear s3 s4 s5 s6 s7 hsz
      clear tm
      intro j tm wr J K hsz hI hJ hK
      obtain ⟨k, hj, hk, hs, hbr⟩ := hI
      simp only [Fs] at hs
      obtain ⟨s4, s6, s13, -⟩ := hs
      subst hj
      have HBR := hidP hbr
      clear hbr
      by_cases hlt : k < 4096
      · have K1 : (k : Int) < 4096 := by omega
        have W5 : IntKind.i64.wrap ((k : Int) + 1) = (k : Int) + 1 := by rw [IntKind.wrap_i64]; omega
        have t11 := hidP (implAt_any ai ci _ xs (k : Int) wr (by omega) (vs_wf HVS.out) (HRI.out wr HBR.out))
        have t12 := hidP (fun wX (hX : Below w5.heap.size w5 wX) => specAt_any (some ⟨g, 0, none⟩) c1 _ xs (k : Int) wX (by omega) (vs_wf HVS.out) (HRS.out wX (HB35.out.trans (hX.mono h35))))
        generalize atA xs (k : Int) = A at *
        obtain ⟨A0, A1, A2, A3⟩ := A
        dsimp only at t11 t12
        go_upto_if 114 with fail
        refine wp_cond_true (by go_simp <;> omega) ?_
        go_wp2_with fail
        refine t11.out.mono ?_
        rintro e w11 ⟨rfl, hb11⟩
        have HB5b : Hid (Below w5.heap.size w5 w11) := hidP (HBR.out.trans (hb11.mono HBR.out.size))
        have t13 := hidP (t12.out w11 HB5b.out)
        clear t11 t12 hb11
        go_wp2_with fail
        refine t13.out.mono ?_
        rintro e w12 ⟨rfl, hb12⟩
        have HB5c : Hid (Below w5.heap.size w5 w12) := hidP (HB5b.out.trans (hb12.mono HB5b.out.size))
        have t14 := hidP (sameHit2 A0 A1 A2 A3 w12)
        clear t13 hb12
        go_wp2_with fail
        refine t14.out.mono ?_
        rintro e w13 ⟨rfl, hb13⟩
        have HB5d : Hid (Below w5.heap.size w5 w13) := hidP (HB5c.out.trans (hb13.mono HB5c.out.size))
        clear t14 hb13
        go_upto_if 124 with fail
        refine wp_cond_false (by go_simp) ?_
        go_wp2_with fail
        refine Met.intro (hJ (4096 - (k + 1)) _ _ (by simp [hsz]) ⟨k + 1, rfl, by omega, by rw [show ((k + 1 : Nat) : Int) = (k : Int) + 1 by omega]; simp only [Fs]; and_intros <;> simp [hsz, s4, s6, s13], HB5d.out⟩ (by omega))
      · obtain rfl : k = 4096 := by omega
        go_upto_if 114 with fail
        refine wp_cond_false (by go_simp) ?_
        go_wp2_with fail
        exact bodyPost_ret (v := .bool true) (by simp [results, Try.results4, go_sem, hsz]) rfl ⟨rfl, HB5.out.trans (HBR.out.mono HB5.out.size)⟩
    · have h0b : (C != 0) = true := by simpa using h0
      clear h0
      go_upto_if 109 with fail
      refine wp_cond_true (by go_simp) ?_
      go_wp2_with fail
      exact bodyPost_ret (v := .bool true) (by simp [results, Try.results4, go_sem, hsz]) rfl ⟨rfl, HB9.out⟩
end Go.Proofs.Ytnmhkgmmpkjjeaa
