import Derived.Test.YtnmhkgmmpkjjeabSRead
import Derived.Test.YtnmhkgmmpkjjeabSCopyM
import Derived.Test.YtnmhkgmmpkjjeabMDrop
namespace Go.Proofs.Ytnmhkgmmpkjjeab
open Go.ChangeShapes Go.WideShapes Go.ChangeAt Go.RowKit
set_option linter.unusedVariables false
attribute [local go_sem ↓] Go.wp_at_zero Go.wp_at_succ

set_option maxRecDepth 100000 in
set_option maxHeartbeats 4000000 in
theorem specDrop_any (s : SV) (M : Mach) (b : Nat) (which i : Int) (w : World) (hk : MOk M) (hs : M.Small) (h : MRow w b (s.mv M) M) :
    Calls Try.prog 31 #[.agg #[.slice s.a1 M.mem.length s.c1, .slice s.a2 M.pend.length s.c2, .slice s.a3 M.tlb.length s.c3, .slice s.a4 M.wc.length s.c4], .int .i64 which, .int .i64 i] w fun e w' => ∃ s' : SV, e = .returned (.agg #[.slice s'.a1 (dropM M which i).mem.length s'.c1, .slice s'.a2 (dropM M which i).pend.length s'.c2, .slice s'.a3 (dropM M which i).tlb.length s'.c3, .slice s'.a4 (dropM M which i).wc.length s'.c4]) ∧ MRow w' w.heap.size (s'.mv (dropM M which i)) (dropM M which i) ∧ Below w.heap.size w w' := by
  obtain ⟨iT, hiT, hzT0, hzT1, hzT2⟩ := info_parts infoTlb
  obtain ⟨iC, hiC, hzC0, hzC1, hzC2⟩ := info_parts infoWc
  have y3 := hs.t
  have y4 := hs.c
  obtain ⟨wb, hwb⟩ : ∃ wb, wb = (w.alloc (.cells #[.slice s.a1 M.mem.length s.c1, .slice s.a2 M.pend.length s.c2, .slice s.a3 M.tlb.length s.c3, .slice s.a4 M.wc.length s.c4] 51)).alloc (.cells #[.slice none 0 0, .slice none 0 0, .slice none 0 0, .slice none 0 0] 51) := ⟨_, rfl⟩
  have hbb : Below w.heap.size w wb := by rw [hwb]; exact ((Below.refl _ _).alloc (Nat.le_refl _) _).alloc (by simp) _
  have hzb : wb.heap.size = w.heap.size + 2 := by rw [hwb]; simp
  have HBOX : Hid (∀ wX, Below wb.heap.size wb wX → (wX.cell? ⟨w.heap.size, 0, none⟩ = some (.slice s.a1 M.mem.length s.c1) ∧ wX.cell? ⟨w.heap.size, 1, none⟩ = some (.slice s.a2 M.pend.length s.c2) ∧ wX.cell? ⟨w.heap.size, 2, none⟩ = some (.slice s.a3 M.tlb.length s.c3) ∧ wX.cell? ⟨w.heap.size, 3, none⟩ = some (.slice s.a4 M.wc.length s.c4)) ∧ (wX.cell? ⟨w.heap.size + 1, 0, none⟩ = some (.slice none 0 0) ∧ wX.cell? ⟨w.heap.size + 1, 1, none⟩ = some (.slice none 0 0) ∧ wX.cell? ⟨w.heap.size + 1, 2, none⟩ = some (.slice none 0 0) ∧ wX.cell? ⟨w.heap.size + 1, 3, none⟩ = some (.slice none 0 0)) ∧ (wX.frozen? ⟨w.heap.size + 1, 0, none⟩ = false ∧ wX.frozen? ⟨w.heap.size + 1, 1, none⟩ = false ∧ wX.frozen? ⟨w.heap.size + 1, 2, none⟩ = false ∧ wX.frozen? ⟨w.heap.size + 1, 3, none⟩ = false) ∧ w.heap.size < wX.heap.size ∧ w.heap.size + 1 < wX.heap.size) := fun wX hX => by
    have hsz := hX.size
    refine ⟨⟨?_, ?_, ?_, ?_⟩, ⟨?_, ?_, ?_, ?_⟩, ⟨?_, ?_, ?_, ?_⟩, by omega, by omega⟩
    iterate 8 (exact (hX.cell (by simp; omega)).trans (by rw [hwb]; simp [go_sem]))
    iterate 4 (exact (hX.frozen (by simp; omega)).trans (by rw [hwb]; simp [go_sem]))
  have HWB : Hid (wb = _) := hwb
  have HBB : Hid (Below _ w wb) := hbb
  have HZ : Hid (wb.heap.size = w.heap.size + 2) := hzb
  have hvm := specValid_any s M b wb hs (h.below hbb)
  rw [hwb] at hvm
  have HM : Hid (∀ wX, Below wb.heap.size wb wX → MRow wX b (s.mv M) M) := fun wX hX => h.below (hbb.trans (hX.mono (by omega)))
  clear hwb hbb hzb h
  have hfm : dropM M which i = if validB M then ⟨M.mem, M.pend, keepTo eTlb (decide (which = 0)) i M.tlb M.tlb.length, keepTo eWc (decide (which = 1)) i M.wc M.wc.length⟩ else zM := rfl
  cases hv : validB M
  · rw [hfm, hv]
    simp only [Bool.false_eq_true, if_false]
    rw [hv] at hvm
    clear hfm hv
    go_enter Try.func31, Try.ntmps31
    go_wp2_with fail
    refine hvm.mono ?_
    rintro e w1 ⟨rfl, hb1'⟩
    have hb1 : Below wb.heap.size wb w1 := by rw [HWB.out]; exact hb1'
    obtain ⟨⟨q0, q1, q2, q3⟩, ⟨r0, r1, r2, r3⟩, ⟨z0, z1, z2, z3⟩, N0, N1⟩ := HBOX.out w1 hb1
    have HB1 : Hid (Below w.heap.size w w1) := HBB.out.trans (hb1.mono (by have := HZ.out; omega))
    clear hb1' hb1 hvm
    go_wp2_with fail
    refine bodyPost_ret (v := .agg #[.slice none 0 0, .slice none 0 0, .slice none 0 0, .slice none 0 0]) (by simp [results, Try.results31, go_sem, r0, r1, r2, r3]) rfl ⟨zS, rfl, zM_row _ _, ?_⟩
    exact ((((HB1.out.setCell (by simp) _).setCell (by simp) _).setCell (by simp) _).setCell (by simp) _)
  · rw [hfm, hv]
    simp only [if_true]
    rw [hv] at hvm
    have HCP : Hid (∀ wX, Below wb.heap.size wb wX → Calls Try.prog 70 #[.agg #[.slice s.a1 M.mem.length s.c1, .slice s.a2 M.pend.length s.c2, .slice s.a3 M.tlb.length s.c3, .slice s.a4 M.wc.length s.c4]] wX fun e w' => ∃ s' : SV, e = .returned (.agg #[.slice s'.a1 M.mem.length s'.c1, .slice s'.a2 M.pend.length s'.c2, .slice s'.a3 M.tlb.length s'.c3, .slice s'.a4 M.wc.length s'.c4]) ∧ MRow w' wX.heap.size (s'.mv M) M ∧ (s'.mv M).apart ∧ Below wX.heap.size wX w') := fun wX hX => copyM_any s M b wX hs (HM.out wX hX)
    clear hfm hv
    go_enter Try.func31, Try.ntmps31
    go_wp2_with fail
    refine hvm.mono ?_
    rintro e w1 ⟨rfl, hb1'⟩
    have hb1 : Below wb.heap.size wb w1 := by rw [HWB.out]; exact hb1'
    obtain ⟨⟨q0, q1, q2, q3⟩, ⟨r0, r1, r2, r3⟩, ⟨z0, z1, z2, z3⟩, N0, N1⟩ := HBOX.out w1 hb1
    have HB1 : Hid (Below wb.heap.size wb w1) := hb1
    clear hb1' hb1 hvm
    go_wp2_with fail
    refine (HCP.out _ HB1.out).mono ?_
    rintro e w2 ⟨s1, rfl, hr2, _, hb2⟩
    obtain ⟨wO, hwO⟩ : ∃ wO, wO = w2.alloc (.cells #[.slice s1.a1 M.mem.length s1.c1, .slice s1.a2 M.pend.length s1.c2, .slice s1.a3 M.tlb.length s1.c3, .slice s1.a4 M.wc.length s1.c4] 51) := ⟨_, rfl⟩
    have hzO : wO.heap.size = w2.heap.size + 1 := by rw [hwO]; simp
    have b2 : Below wb.heap.size wb w2 := HB1.out.trans (hb2.mono HB1.out.size)
    have bO : Below wb.heap.size wb wO := by rw [hwO]; exact b2.alloc b2.size _
    have rO : MRow wO w1.heap.size (s1.mv M) M := by rw [hwO]; exact hr2.below ((Below.refl _ _).alloc (Nat.le_refl _) _)
    have HOB : Hid (∀ wX, Below wO.heap.size wO wX → (wX.cell? ⟨w2.heap.size, 0, none⟩ = some (.slice s1.a1 M.mem.length s1.c1) ∧ wX.cell? ⟨w2.heap.size, 1, none⟩ = some (.slice s1.a2 M.pend.length s1.c2) ∧ wX.cell? ⟨w2.heap.size, 2, none⟩ = some (.slice s1.a3 M.tlb.length s1.c3) ∧ wX.cell? ⟨w2.heap.size, 3, none⟩ = some (.slice s1.a4 M.wc.length s1.c4)) ∧ (wX.frozen? ⟨w2.heap.size, 0, none⟩ = false ∧ wX.frozen? ⟨w2.heap.size, 1, none⟩ = false ∧ wX.frozen? ⟨w2.heap.size, 2, none⟩ = false ∧ wX.frozen? ⟨w2.heap.size, 3, none⟩ = false)) := fun wX hX => by
      refine ⟨⟨?_, ?_, ?_, ?_⟩, ?_, ?_, ?_, ?_⟩
      iterate 4 (exact (hX.cell (by simp; omega)).trans (by rw [hwO]; simp [go_sem]))
      iterate 4 (exact (hX.frozen (by simp; omega)).trans (by rw [hwO]; simp [go_sem]))
    have HWO : Hid (wO = _) := hwO
    have BW1 : Hid (Below wb.heap.size wb wO) := bO
    have HRO : Hid (MRow wO w1.heap.size (s1.mv M) M) := rO
    have HO2 : Hid (∀ k, (s1.mv M).owns k → w1.heap.size ≤ k ∧ k < w2.heap.size) := hr2.own
    have HZO : Hid (wO.heap.size = w2.heap.size + 1) := hzO
    have HS12 : Hid (w1.heap.size ≤ w2.heap.size) := hb2.size
    clear hr2 hb2 hwO b2 bO rO hzO q0 q1 q2 q3 r0 r1 r2 r3 z0 z1 z2 z3
    go_wp2_with fail
    rw [← HWO.out]
    go_loopw [8, 9] (fun vv iv wr => ∃ t gv cv : Nat, t ≤ M.tlb.length ∧ iv = .int .i64 t ∧ vv = .slice (some ⟨gv, 0, none⟩) (keepTo eTlb (decide (which = 0)) i M.tlb t).length cv ∧ ERow eTlb wr (wO.heap.size) (.slice (some ⟨gv, 0, none⟩) (keepTo eTlb (decide (which = 0)) i M.tlb t).length cv) (keepTo eTlb (decide (which = 0)) i M.tlb t) ∧ Below (wO.heap.size) wO wr) (fun _ iv _ => M.tlb.length - (intOf iv).toNat)
    case atStart =>
      refine ⟨0, wO.heap.size, 0, Nat.zero_le _, rfl, ?_, ?_, ?_⟩
      · first | rfl | (rw [HZO.out]; rfl)
      · exact ERow.empty eTlb wO wO.heap.size (Nat.le_refl _)
      · exact (Below.refl wO.heap.size wO).alloc (Nat.le_refl _) _
    case round =>
      obtain ⟨t, gv, cv, ht, rfl, rfl, hrow, hb⟩ := hrel
      have hsz := hb.size
      have hbb2 : Below wb.heap.size wb wr := BW1.out.trans (hb.mono BW1.out.size)
      have hszb := hbb2.size
      obtain ⟨⟨q0, q1, q2, q3⟩, _, _, N0, N1⟩ := HBOX.out wr hbb2
      have hKL := keepTo_len eTlb (decide (which = 0)) i M.tlb t
      by_cases hlt : t < M.tlb.length
      · obtain ⟨ga, ca, hae, haf⟩ := (HM.out wr hbb2).t.form
        obtain ⟨g, N, f, hag, _, hr1, hN, hf⟩ := haf (by omega)
        have hga : s.a3 = some ⟨g, 0, none⟩ := by
          have h2 : Value.slice s.a3 M.tlb.length s.c3 = .slice ga M.tlb.length ca := hae
          simp only [Value.slice.injEq] at h2
          exact h2.1.trans hag
        have hN' : M.tlb.length * 5 ≤ N := hN
        rw [hga] at q2
        have k0 := hr1.cell (i := t * 5) (by omega)
        rw [show f (t * 5) = .int .i64 (eAt eTlb M.tlb t).page from hf t hlt 0 (by decide)] at k0
        have k1 := hr1.cell (i := t * 5 + 1) (by omega)
        rw [show f (t * 5 + 1) = .int .i64 (eAt eTlb M.tlb t).size from hf t hlt 1 (by decide)] at k1
        have k2 := hr1.cell (i := t * 5 + 2) (by omega)
        rw [show f (t * 5 + 2) = .int .i64 (eAt eTlb M.tlb t).out from hf t hlt 2 (by decide)] at k2
        have k3 := hr1.cell (i := t * 5 + 3) (by omega)
        rw [show f (t * 5 + 3) = .int .i64 (eAt eTlb M.tlb t).perm from hf t hlt 3 (by decide)] at k3
        have k4 := hr1.cell (i := t * 5 + 4) (by omega)
        rw [show f (t * 5 + 4) = .bool (eAt eTlb M.tlb t).doom from hf t hlt 4 (by decide)] at k4
        have hec : eTlb.enc (eAt eTlb M.tlb t) = [.int .i64 (eAt eTlb M.tlb t).page, .int .i64 (eAt eTlb M.tlb t).size, .int .i64 (eAt eTlb M.tlb t).out, .int .i64 (eAt eTlb M.tlb t).perm, .bool (eAt eTlb M.tlb t).doom] := rfl
        have L1 : (0 : Int) ≤ (t : Int) := by omega
        have L2 : (t : Int) < (M.tlb.length : Int) := by omega
        have hgl := hr1.lt
        have HB : Hid (Below _ wO wr) := hb
        have HROW : Hid (ERow _ wr _ _ _) := hrow
        by_cases hskip : which = 0 ∧ (t : Int) = i
        · obtain ⟨s1, s2⟩ := hskip
          have hn1 : (which != 0) = false := by simp [s1]
          have hn2 : ((t : Int) != i) = false := by simp [s2]
          have hkt : (keepTo eTlb (decide (which = 0)) i M.tlb (t + 1)) = (keepTo eTlb (decide (which = 0)) i M.tlb t) := by
            rw [s1]
            exact keepTo_skip eTlb i M.tlb t s2
          have HKT : Hid (_ = _) := hkt
          clear s1 s2 hkt hrow hb hbb2 hr1 hf hec hae haf hga hN hag
          go_wp2_with fail
          go_roundw
          case rel =>
            refine ⟨t + 1, gv, cv, by omega, by go_num, ?_, ?_, HB.out⟩
            · rw [HKT.out]
            · rw [HKT.out]; exact HROW.out
          case measure => simp [intOf]; omega
        · have hkt : (keepTo eTlb (decide (which = 0)) i M.tlb (t + 1)) = (keepTo eTlb (decide (which = 0)) i M.tlb t) ++ [eAt eTlb M.tlb t] := keepTo_take eTlb _ i M.tlb t (by
            by_cases h1 : which = 0
            · exact .inr (fun h2 => hskip ⟨h1, h2⟩)
            · exact .inl (by simpa using h1))
          have HKT : Hid (_ = _) := hkt
          have HEC : Hid (_ = _) := hec
          have hown : wr.ownsRow (wO.heap.size) 118 5 (.slice (some ⟨gv, 0, none⟩) (keepTo eTlb (decide (which = 0)) i M.tlb t).length cv) (keepTo eTlb (decide (which = 0)) i M.tlb t).length (ecells eTlb (keepTo eTlb (decide (which = 0)) i M.tlb t)) := hrow
          have HOWN : Hid _ := hown
          have HSK : Hid (¬ (which = 0 ∧ (t : Int) = i)) := hskip
          clear hkt hec hown hskip hrow hb hbb2 hr1 hf hae haf hga hN hag
          obtain ⟨A, hA⟩ : ∃ v, v = (eAt eTlb M.tlb t).page := ⟨_, rfl⟩
          rw [← hA] at k0
          have HVA : Hid (A = _) := hA
          clear hA
          obtain ⟨B, hB⟩ : ∃ v, v = (eAt eTlb M.tlb t).size := ⟨_, rfl⟩
          rw [← hB] at k1
          have HVB : Hid (B = _) := hB
          clear hB
          obtain ⟨C, hC⟩ : ∃ v, v = (eAt eTlb M.tlb t).out := ⟨_, rfl⟩
          rw [← hC] at k2
          have HVC : Hid (C = _) := hC
          clear hC
          obtain ⟨D, hD⟩ : ∃ v, v = (eAt eTlb M.tlb t).perm := ⟨_, rfl⟩
          rw [← hD] at k3
          have HVD : Hid (D = _) := hD
          clear hD
          obtain ⟨G, hG⟩ : ∃ v, v = (eAt eTlb M.tlb t).doom := ⟨_, rfl⟩
          rw [← hG] at k4
          have HVG : Hid (G = _) := hG
          clear hG
          obtain ⟨ys, hys⟩ : ∃ ys, ys = (keepTo eTlb (decide (which = 0)) i M.tlb t) := ⟨_, rfl⟩
          rw [← hys] at hKL HOWN HROW HKT ⊢
          clear hys
          by_cases h1 : which = 0
          · have hn1 : (which != 0) = false := by simp [h1]
            have hn2 : ((t : Int) != i) = true := by simp; exact fun h2 => HSK.out ⟨h1, h2⟩
            clear h1
            go_wp2_with (at_builtin; refine wpList_append_lies _ rfl (.tmp 33) (.tmp 39) 48 rfl (wO.heap.size) 118 iT _ 5 40 Try.underlying48 hiT hzT0 hzT1 hzT2 rfl (by omega) _ _ _ rfl (World.ownsRow.alloc HOWN.out _) ⟨wr.heap.size, 0, none⟩ 1 1 [.int .i64 A, .int .i64 B, .int .i64 C, .int .i64 D, .bool G] rfl rfl ?c1 ?c2 (by omega) ?c3 ?c4 ?c5 (wr.heap.size + 1) ?c6 ?_)
            case c1 => exact World.news_of_block (heap_alloc_new wr (.cells #[.int .i64 A, .int .i64 B, .int .i64 C, .int .i64 D, .bool G] 118))
            case c2 => intro u hu; simp at hu; rcases hu with rfl | rfl | rfl | rfl | rfl <;> rfl
            case c3 => unfold maxLen; omega
            case c4 => omega
            case c5 => simp; omega
            case c6 => simp
            intro g1 cap1 wn hown hgrow hat hlt3
            have hnew : ERow eTlb wn (wO.heap.size) (.slice (some ⟨g1, 0, none⟩) (ys.length + 1) cap1) (ys ++ [eAt eTlb M.tlb t]) := ERow.snocL (m := ys.length + 1) rfl (by rw [HEC.out, ← HVA.out, ← HVB.out, ← HVC.out, ← HVD.out, ← HVG.out]; exact hown)
            have hbn : Below (wO.heap.size) wO wn := ((HB.out.alloc (by omega) _).grown hgrow (by simp; omega) (fun q hq => (HROW.out.own q hq).1))
            have HNEW : Hid (ERow _ wn _ _ _) := hnew
            have HBN : Hid (Below _ wO wn) := hbn
            clear hown hgrow hat hnew hbn k0 k1 k2 k3 k4 q0 q1 q2 q3
            go_wp2_with fail
            go_roundw
            case rel =>
              refine ⟨t + 1, g1, cap1, by omega, by go_num, ?_, ?_, HBN.out⟩
              · rw [HKT.out, List.length_append]; rfl
              · rw [HKT.out, List.length_append]; exact HNEW.out
            case measure => simp [intOf]; omega
          · have hn1 : (which != 0) = true := by simpa using h1
            clear h1
            go_wp2_with (at_builtin; refine wpList_append_lies _ rfl (.tmp 33) (.tmp 39) 48 rfl (wO.heap.size) 118 iT _ 5 40 Try.underlying48 hiT hzT0 hzT1 hzT2 rfl (by omega) _ _ _ rfl (World.ownsRow.alloc HOWN.out _) ⟨wr.heap.size, 0, none⟩ 1 1 [.int .i64 A, .int .i64 B, .int .i64 C, .int .i64 D, .bool G] rfl rfl ?c1 ?c2 (by omega) ?c3 ?c4 ?c5 (wr.heap.size + 1) ?c6 ?_)
            case c1 => exact World.news_of_block (heap_alloc_new wr (.cells #[.int .i64 A, .int .i64 B, .int .i64 C, .int .i64 D, .bool G] 118))
            case c2 => intro u hu; simp at hu; rcases hu with rfl | rfl | rfl | rfl | rfl <;> rfl
            case c3 => unfold maxLen; omega
            case c4 => omega
            case c5 => simp; omega
            case c6 => simp
            intro g1 cap1 wn hown hgrow hat hlt3
            have hnew : ERow eTlb wn (wO.heap.size) (.slice (some ⟨g1, 0, none⟩) (ys.length + 1) cap1) (ys ++ [eAt eTlb M.tlb t]) := ERow.snocL (m := ys.length + 1) rfl (by rw [HEC.out, ← HVA.out, ← HVB.out, ← HVC.out, ← HVD.out, ← HVG.out]; exact hown)
            have hbn : Below (wO.heap.size) wO wn := ((HB.out.alloc (by omega) _).grown hgrow (by simp; omega) (fun q hq => (HROW.out.own q hq).1))
            have HNEW : Hid (ERow _ wn _ _ _) := hnew
            have HBN : Hid (Below _ wO wn) := hbn
            clear hown hgrow hat hnew hbn k0 k1 k2 k3 k4 q0 q1 q2 q3
            go_wp2_with fail
            go_roundw
            case rel =>
              refine ⟨t + 1, g1, cap1, by omega, by go_num, ?_, ?_, HBN.out⟩
              · rw [HKT.out, List.length_append]; rfl
              · rw [HKT.out, List.length_append]; exact HNEW.out
            case measure => simp [intOf]; omega
      · have e : t = M.tlb.length := by omega
        subst e
        obtain ⟨wP, rfl⟩ : ∃ wP : World, wP = wr := ⟨_, rfl⟩
        obtain ⟨gP, rfl⟩ : ∃ gP : Nat, gP = gv := ⟨_, rfl⟩
        obtain ⟨ccP, rfl⟩ : ∃ ccP : Nat, ccP = cv := ⟨_, rfl⟩
        have ownP := hrow.own gP rfl
        have HROWP : Hid (ERow eTlb wP (wO.heap.size) _ _) := hrow
        have HBP : Hid (Below (wO.heap.size) wO wP) := hb
        have BW2 : Hid (Below wb.heap.size wb wP) := hbb2
        have LF : ¬ (M.tlb.length : Int) < (M.tlb.length : Int) := by omega
        clear hrow hb hbb2
        go_wp2_with fail
        go_loopw [10, 11] (fun vv iv wr => ∃ t gv cv : Nat, t ≤ M.wc.length ∧ iv = .int .i64 t ∧ vv = .slice (some ⟨gv, 0, none⟩) (keepTo eWc (decide (which = 1)) i M.wc t).length cv ∧ ERow eWc wr (wP.heap.size) (.slice (some ⟨gv, 0, none⟩) (keepTo eWc (decide (which = 1)) i M.wc t).length cv) (keepTo eWc (decide (which = 1)) i M.wc t) ∧ Below (wP.heap.size) wP wr) (fun _ iv _ => M.wc.length - (intOf iv).toNat)
        case atStart =>
          exact ⟨0, wP.heap.size, 0, Nat.zero_le _, rfl, rfl, ERow.empty eWc wP wP.heap.size (Nat.le_refl _), (Below.refl wP.heap.size wP).alloc (Nat.le_refl _) _⟩
        case round =>
          obtain ⟨t, gv, cv, ht, rfl, rfl, hrow, hb⟩ := hrel
          have hsz := hb.size
          have hbb2 : Below wb.heap.size wb wr := BW2.out.trans (hb.mono BW2.out.size)
          have hszb := hbb2.size
          obtain ⟨⟨q0, q1, q2, q3⟩, _, _, N0, N1⟩ := HBOX.out wr hbb2
          have hKL := keepTo_len eWc (decide (which = 1)) i M.wc t
          by_cases hlt : t < M.wc.length
          · obtain ⟨ga, ca, hae, haf⟩ := (HM.out wr hbb2).c.form
            obtain ⟨g, N, f, hag, _, hr1, hN, hf⟩ := haf (by omega)
            have hga : s.a4 = some ⟨g, 0, none⟩ := by
              have h2 : Value.slice s.a4 M.wc.length s.c4 = .slice ga M.wc.length ca := hae
              simp only [Value.slice.injEq] at h2
              exact h2.1.trans hag
            have hN' : M.wc.length * 4 ≤ N := hN
            rw [hga] at q3
            have k0 := hr1.cell (i := t * 4) (by omega)
            rw [show f (t * 4) = .int .i64 (eAt eWc M.wc t).level from hf t hlt 0 (by decide)] at k0
            have k1 := hr1.cell (i := t * 4 + 1) (by omega)
            rw [show f (t * 4 + 1) = .int .i64 (eAt eWc M.wc t).page from hf t hlt 1 (by decide)] at k1
            have k2 := hr1.cell (i := t * 4 + 2) (by omega)
            rw [show f (t * 4 + 2) = .int .i64 (eAt eWc M.wc t).table from hf t hlt 2 (by decide)] at k2
            have k3 := hr1.cell (i := t * 4 + 3) (by omega)
            rw [show f (t * 4 + 3) = .bool (eAt eWc M.wc t).doom from hf t hlt 3 (by decide)] at k3
            have hec : eWc.enc (eAt eWc M.wc t) = [.int .i64 (eAt eWc M.wc t).level, .int .i64 (eAt eWc M.wc t).page, .int .i64 (eAt eWc M.wc t).table, .bool (eAt eWc M.wc t).doom] := rfl
            have L1 : (0 : Int) ≤ (t : Int) := by omega
            have L2 : (t : Int) < (M.wc.length : Int) := by omega
            have hgl := hr1.lt
            have HB : Hid (Below _ wP wr) := hb
            have HROW : Hid (ERow _ wr _ _ _) := hrow
            by_cases hskip : which = 1 ∧ (t : Int) = i
            · obtain ⟨s1, s2⟩ := hskip
              have hn1 : (which != 1) = false := by simp [s1]
              have hn2 : ((t : Int) != i) = false := by simp [s2]
              have hkt : (keepTo eWc (decide (which = 1)) i M.wc (t + 1)) = (keepTo eWc (decide (which = 1)) i M.wc t) := by
                rw [s1]
                exact keepTo_skip eWc i M.wc t s2
              have HKT : Hid (_ = _) := hkt
              clear s1 s2 hkt hrow hb hbb2 hr1 hf hec hae haf hga hN hag
              go_wp2_with fail
              go_roundw
              case rel =>
                refine ⟨t + 1, gv, cv, by omega, by go_num, ?_, ?_, HB.out⟩
                · rw [HKT.out]
                · rw [HKT.out]; exact HROW.out
              case measure => simp [intOf]; omega
            · have hkt : (keepTo eWc (decide (which = 1)) i M.wc (t + 1)) = (keepTo eWc (decide (which = 1)) i M.wc t) ++ [eAt eWc M.wc t] := keepTo_take eWc _ i M.wc t (by
                by_cases h1 : which = 1
                · exact .inr (fun h2 => hskip ⟨h1, h2⟩)
                · exact .inl (by simpa using h1))
              have HKT : Hid (_ = _) := hkt
              have HEC : Hid (_ = _) := hec
              have hown : wr.ownsRow (wP.heap.size) 120 4 (.slice (some ⟨gv, 0, none⟩) (keepTo eWc (decide (which = 1)) i M.wc t).length cv) (keepTo eWc (decide (which = 1)) i M.wc t).length (ecells eWc (keepTo eWc (decide (which = 1)) i M.wc t)) := hrow
              have HOWN : Hid _ := hown
              have HSK : Hid (¬ (which = 1 ∧ (t : Int) = i)) := hskip
              clear hkt hec hown hskip hrow hb hbb2 hr1 hf hae haf hga hN hag
              obtain ⟨A, hA⟩ : ∃ v, v = (eAt eWc M.wc t).level := ⟨_, rfl⟩
              rw [← hA] at k0
              have HVA : Hid (A = _) := hA
              clear hA
              obtain ⟨B, hB⟩ : ∃ v, v = (eAt eWc M.wc t).page := ⟨_, rfl⟩
              rw [← hB] at k1
              have HVB : Hid (B = _) := hB
              clear hB
              obtain ⟨C, hC⟩ : ∃ v, v = (eAt eWc M.wc t).table := ⟨_, rfl⟩
              rw [← hC] at k2
              have HVC : Hid (C = _) := hC
              clear hC
              obtain ⟨D, hD⟩ : ∃ v, v = (eAt eWc M.wc t).doom := ⟨_, rfl⟩
              rw [← hD] at k3
              have HVD : Hid (D = _) := hD
              clear hD
              obtain ⟨ys, hys⟩ : ∃ ys, ys = (keepTo eWc (decide (which = 1)) i M.wc t) := ⟨_, rfl⟩
              rw [← hys] at hKL HOWN HROW HKT ⊢
              clear hys
              by_cases h1 : which = 1
              · have hn1 : (which != 1) = false := by simp [h1]
                have hn2 : ((t : Int) != i) = true := by simp; exact fun h2 => HSK.out ⟨h1, h2⟩
                clear h1
                go_wp2_with (at_builtin; refine wpList_append_lies _ rfl (.tmp 56) (.tmp 62) 49 rfl (wP.heap.size) 120 iC _ 4 32 Try.underlying49 hiC hzC0 hzC1 hzC2 rfl (by omega) _ _ _ rfl (World.ownsRow.alloc HOWN.out _) ⟨wr.heap.size, 0, none⟩ 1 1 [.int .i64 A, .int .i64 B, .int .i64 C, .bool D] rfl rfl ?c1 ?c2 (by omega) ?c3 ?c4 ?c5 (wr.heap.size + 1) ?c6 ?_)
                case c1 => exact World.news_of_block (heap_alloc_new wr (.cells #[.int .i64 A, .int .i64 B, .int .i64 C, .bool D] 120))
                case c2 => intro u hu; simp at hu; rcases hu with rfl | rfl | rfl | rfl <;> rfl
                case c3 => unfold maxLen; omega
                case c4 => omega
                case c5 => simp; omega
                case c6 => simp
                intro g1 cap1 wn hown hgrow hat hlt3
                have hnew : ERow eWc wn (wP.heap.size) (.slice (some ⟨g1, 0, none⟩) (ys.length + 1) cap1) (ys ++ [eAt eWc M.wc t]) := ERow.snocL (m := ys.length + 1) rfl (by rw [HEC.out, ← HVA.out, ← HVB.out, ← HVC.out, ← HVD.out]; exact hown)
                have hbn : Below (wP.heap.size) wP wn := ((HB.out.alloc (by omega) _).grown hgrow (by simp; omega) (fun q hq => (HROW.out.own q hq).1))
                have HNEW : Hid (ERow _ wn _ _ _) := hnew
                have HBN : Hid (Below _ wP wn) := hbn
                clear hown hgrow hat hnew hbn k0 k1 k2 k3 q0 q1 q2 q3
                go_wp2_with fail
                go_roundw
                case rel =>
                  refine ⟨t + 1, g1, cap1, by omega, by go_num, ?_, ?_, HBN.out⟩
                  · rw [HKT.out, List.length_append]; rfl
                  · rw [HKT.out, List.length_append]; exact HNEW.out
                case measure => simp [intOf]; omega
              · have hn1 : (which != 1) = true := by simpa using h1
                clear h1
                go_wp2_with (at_builtin; refine wpList_append_lies _ rfl (.tmp 56) (.tmp 62) 49 rfl (wP.heap.size) 120 iC _ 4 32 Try.underlying49 hiC hzC0 hzC1 hzC2 rfl (by omega) _ _ _ rfl (World.ownsRow.alloc HOWN.out _) ⟨wr.heap.size, 0, none⟩ 1 1 [.int .i64 A, .int .i64 B, .int .i64 C, .bool D] rfl rfl ?c1 ?c2 (by omega) ?c3 ?c4 ?c5 (wr.heap.size + 1) ?c6 ?_)
                case c1 => exact World.news_of_block (heap_alloc_new wr (.cells #[.int .i64 A, .int .i64 B, .int .i64 C, .bool D] 120))
                case c2 => intro u hu; simp at hu; rcases hu with rfl | rfl | rfl | rfl <;> rfl
                case c3 => unfold maxLen; omega
                case c4 => omega
                case c5 => simp; omega
                case c6 => simp
                intro g1 cap1 wn hown hgrow hat hlt3
                have hnew : ERow eWc wn (wP.heap.size) (.slice (some ⟨g1, 0, none⟩) (ys.length + 1) cap1) (ys ++ [eAt eWc M.wc t]) := ERow.snocL (m := ys.length + 1) rfl (by rw [HEC.out, ← HVA.out, ← HVB.out, ← HVC.out, ← HVD.out]; exact hown)
                have hbn : Below (wP.heap.size) wP wn := ((HB.out.alloc (by omega) _).grown hgrow (by simp; omega) (fun q hq => (HROW.out.own q hq).1))
                have HNEW : Hid (ERow _ wn _ _ _) := hnew
                have HBN : Hid (Below _ wP wn) := hbn
                clear hown hgrow hat hnew hbn k0 k1 k2 k3 q0 q1 q2 q3
                go_wp2_with fail
                go_roundw
                case rel =>
                  refine ⟨t + 1, g1, cap1, by omega, by go_num, ?_, ?_, HBN.out⟩
                  · rw [HKT.out, List.length_append]; rfl
                  · rw [HKT.out, List.length_append]; exact HNEW.out
                case measure => simp [intOf]; omega
          · have e : t = M.wc.length := by omega
            subst e
            obtain ⟨wQ, rfl⟩ : ∃ wQ : World, wQ = wr := ⟨_, rfl⟩
            obtain ⟨gQ, rfl⟩ : ∃ gQ : Nat, gQ = gv := ⟨_, rfl⟩
            obtain ⟨ccQ, rfl⟩ : ∃ ccQ : Nat, ccQ = cv := ⟨_, rfl⟩
            have ownQ := hrow.own gQ rfl
            have HROWQ : Hid (ERow eWc wQ (wP.heap.size) _ _) := hrow
            have HBQ : Hid (Below (wP.heap.size) wP wQ) := hb
            have BW3 : Hid (Below wb.heap.size wb wQ) := hbb2
            have LF : ¬ (M.wc.length : Int) < (M.wc.length : Int) := by omega
            clear hrow hb hbb2
            have bOQ : Below wO.heap.size wO wQ := HBP.out.trans (HBQ.out.mono HBP.out.size)
            obtain ⟨⟨o0, o1, o2, o3⟩, p0, p1, p2, p3⟩ := HOB.out wQ bOQ
            obtain ⟨⟨_, _, _, _⟩, ⟨r0, r1, r2, r3⟩, ⟨z0, z1, z2, z3⟩, N0', N1'⟩ := HBOX.out wQ BW3.out
            have N2 : w.heap.size + 1 < w2.heap.size := by have := HB1.out.size; have := HS12.out; have := HZ.out; omega
            have HOQ : Hid (Below wO.heap.size wO wQ) := bOQ
            clear bOQ q0 q1 q2 q3
            go_wp2_with fail
            obtain ⟨wF, hwF⟩ : ∃ wF, wF = ((((((wQ.setCell ⟨w2.heap.size, 2, none⟩ (.slice (some ⟨gP, 0, none⟩) (keepTo eTlb (decide (which = 0)) i M.tlb M.tlb.length).length ccP)).setCell ⟨w2.heap.size, 3, none⟩ (.slice (some ⟨gQ, 0, none⟩) (keepTo eWc (decide (which = 1)) i M.wc M.wc.length).length ccQ)).setCell ⟨w.heap.size + 1, 0, none⟩ (.slice s1.a1 M.mem.length s1.c1)).setCell ⟨w.heap.size + 1, 1, none⟩ (.slice s1.a2 M.pend.length s1.c2)).setCell ⟨w.heap.size + 1, 2, none⟩ (.slice (some ⟨gP, 0, none⟩) (keepTo eTlb (decide (which = 0)) i M.tlb M.tlb.length).length ccP)).setCell ⟨w.heap.size + 1, 3, none⟩ (.slice (some ⟨gQ, 0, none⟩) (keepTo eWc (decide (which = 1)) i M.wc M.wc.length).length ccQ)) := ⟨_, rfl⟩
            rw [← hwF]
            have hTF : Touch (fun k => k = w.heap.size + 1 ∨ k = w2.heap.size) wQ wF := by
              rw [hwF]
              exact Touch.put (Touch.put (Touch.put (Touch.put (Touch.put (Touch.put (Touch.none wQ) _ _ (.inr rfl)) _ _ (.inr rfl)) _ _ (.inl rfl)) _ _ (.inl rfl)) _ _ (.inl rfl)) _ _ (.inl rfl)
            
            have f0 : wF.cell? ⟨w.heap.size + 1, 0, none⟩ = some (.slice s1.a1 M.mem.length s1.c1) := by rw [hwF]; simp [go_sem, r0]
            have f1 : wF.cell? ⟨w.heap.size + 1, 1, none⟩ = some (.slice s1.a2 M.pend.length s1.c2) := by rw [hwF]; simp [go_sem, r1]
            have f2 : wF.cell? ⟨w.heap.size + 1, 2, none⟩ = some (.slice (some ⟨gP, 0, none⟩) (keepTo eTlb (decide (which = 0)) i M.tlb M.tlb.length).length ccP) := by rw [hwF]; simp [go_sem, r2]
            have f3 : wF.cell? ⟨w.heap.size + 1, 3, none⟩ = some (.slice (some ⟨gQ, 0, none⟩) (keepTo eWc (decide (which = 1)) i M.wc M.wc.length).length ccQ) := by rw [hwF]; simp [go_sem, r3]
            have rF : MRow wF w1.heap.size ((⟨s1.a1, s1.c1, s1.a2, s1.c2, some ⟨gP, 0, none⟩, ccP, some ⟨gQ, 0, none⟩, ccQ⟩ : SV).mv ⟨M.mem, M.pend, (keepTo eTlb (decide (which = 0)) i M.tlb M.tlb.length), (keepTo eWc (decide (which = 1)) i M.wc M.wc.length)⟩) ⟨M.mem, M.pend, (keepTo eTlb (decide (which = 0)) i M.tlb M.tlb.length), (keepTo eWc (decide (which = 1)) i M.wc M.wc.length)⟩ := by
              have e1 := HZO.out
              have e2 := HBP.out.size
              have e3 := HS12.out
              have e4 := HB1.out.size
              have e5 := HZ.out
              have rq := HRO.out.below HOQ.out
              refine ⟨rq.w.touch hTF (fun k hk hh => ?_), rq.p.touch hTF (fun k hk hh => ?_), ?_, ?_⟩
              · have := HO2.out k (.inl hk); omega
              · have := HO2.out k (.inr (.inl hk)); omega
              · refine ERow.rebase (base := wO.heap.size) ((HROWP.out.below HBQ.out).touch hTF (fun k hk hh => ?_)) (by omega)
                have := (HROWP.out.own k hk).1; omega
              · refine ERow.rebase (base := wP.heap.size) (HROWQ.out.touch hTF (fun k hk hh => ?_)) (by omega)
                have := (HROWQ.out.own k hk).1; omega
            refine bodyPost_ret (v := .agg #[.slice s1.a1 M.mem.length s1.c1, .slice s1.a2 M.pend.length s1.c2, .slice (some ⟨gP, 0, none⟩) (keepTo eTlb (decide (which = 0)) i M.tlb M.tlb.length).length ccP, .slice (some ⟨gQ, 0, none⟩) (keepTo eWc (decide (which = 1)) i M.wc M.wc.length).length ccQ]) (by simp [results, Try.results31, go_sem, f0, f1, f2, f3]) rfl ⟨⟨s1.a1, s1.c1, s1.a2, s1.c2, some ⟨gP, 0, none⟩, ccP, some ⟨gQ, 0, none⟩, ccQ⟩, rfl, rF.rebase (by have := HB1.out.size; have := HZ.out; omega), ?_⟩
            exact Touch.below (HBB.out.trans (BW3.out.mono (by have := HZ.out; omega))) hTF (by omega) (fun k hk => by omega)
end Go.Proofs.Ytnmhkgmmpkjjeab
