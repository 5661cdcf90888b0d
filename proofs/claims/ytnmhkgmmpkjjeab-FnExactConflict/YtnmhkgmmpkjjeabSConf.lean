import Derived.Test.YtnmhkgmmpkjjeabSRead
import Derived.Test.YtnmhkgmmpkjjeabMConf
import Derived.Test.YtnmhkgmmpkjjeabSAddB
import Derived.Deep.RegionHeld3
namespace Go.Proofs.Ytnmhkgmmpkjjeab
open Go.ChangeShapes Go.WideShapes Go.ChangeAt Go.RowKit
set_option linter.unusedVariables false
attribute [local go_sem ↓] Go.wp_at_zero Go.wp_at_succ

set_option maxRecDepth 100000 in
set_option maxHeartbeats 4000000 in
theorem specConf_any (s : SV) (M : Mach) (b : Nat) (w : World) (hk : MOk M) (hs : M.Small) (h : MRow w b (s.mv M) M) :
    Calls Try.prog 33 #[.agg #[.slice s.a1 M.mem.length s.c1, .slice s.a2 M.pend.length s.c2, .slice s.a3 M.tlb.length s.c3, .slice s.a4 M.wc.length s.c4]] w fun e w' => e = .returned (.bool (confB M)) ∧ Below w.heap.size w w' := by
  obtain ⟨wb, hwb⟩ : ∃ wb, wb = w.alloc (.cells #[.slice s.a1 M.mem.length s.c1, .slice s.a2 M.pend.length s.c2, .slice s.a3 M.tlb.length s.c3, .slice s.a4 M.wc.length s.c4] 51) := ⟨_, rfl⟩
  have hbb : Below w.heap.size w wb := by rw [hwb]; exact (Below.refl _ _).alloc (Nat.le_refl _) _
  have hzb : wb.heap.size = w.heap.size + 1 := by rw [hwb]; simp
  have HBOX : Hid (∀ wX, Below wb.heap.size wb wX → wX.cell? ⟨w.heap.size, 0, none⟩ = some (.slice s.a1 M.mem.length s.c1) ∧ wX.cell? ⟨w.heap.size, 1, none⟩ = some (.slice s.a2 M.pend.length s.c2) ∧ wX.cell? ⟨w.heap.size, 2, none⟩ = some (.slice s.a3 M.tlb.length s.c3) ∧ wX.cell? ⟨w.heap.size, 3, none⟩ = some (.slice s.a4 M.wc.length s.c4)) := fun wX hX => by
    refine ⟨?_, ?_, ?_, ?_⟩
    iterate 4 (exact (hX.cell (by simp; omega)).trans (by rw [hwb]; simp [go_sem]))
  have HWB : Hid (wb = _) := hwb
  have HBB : Hid (Below _ w wb) := hbb
  have HZ : Hid (wb.heap.size = w.heap.size + 1) := hzb
  have hvm := specValid_any s M b wb hs (h.below hbb)
  rw [hwb] at hvm
  have HM : Hid (MRow w b (s.mv M) M) := h
  clear hwb hbb hzb h
  cases hv : validB M
  · have hc : confB M = false := by unfold confB; rw [hv]; rfl
    rw [hc]
    rw [hv] at hvm
    clear hc hv
    go_enter Try.func33, Try.ntmps33
    go_wp2_with fail
    refine hvm.mono ?_
    rintro e w1 ⟨rfl, hb1'⟩
    have hb1 : Below wb.heap.size wb w1 := by rw [HWB.out]; exact hb1'
    have HB1 : Hid (Below w.heap.size w w1) := HBB.out.trans (hb1.mono (by have := HZ.out; omega))
    clear hb1' hb1 hvm
    go_wp2_with fail
    go_ret
    exact ⟨rfl, HB1.out⟩
  · have hc : confB M = confT M := by unfold confB; rw [hv]; rfl
    rw [hc]
    rw [hv] at hvm
    have hok := WOk.of hk hv
    have hn := hok.t
    have HV : Hid (∀ i, i < M.tlb.length → TRng (eAt eTlb M.tlb i)) := fun i hi => valid_trng hv i hi
    clear hc hv hok
    go_enter Try.func33, Try.ntmps33
    go_wp2_with fail
    refine hvm.mono ?_
    rintro e w1 ⟨rfl, hb1'⟩
    have hb1 : Below wb.heap.size wb w1 := by rw [HWB.out]; exact hb1'
    have HB1 : Hid (Below wb.heap.size wb w1) := hb1
    clear hb1' hb1 hvm
    go_wp2_with fail
    go_loopw [3] (fun iv wr => ∃ i : Nat, i ≤ M.tlb.length ∧ iv = .int .i64 i ∧ (∀ i', i' < i → ∀ j, j < i' → pairB M j i' = false) ∧ Below wb.heap.size wb wr) (fun iv _ => M.tlb.length - (intOf iv).toNat)
    case atStart => exact ⟨0, Nat.zero_le _, rfl, fun i hi => by omega, HB1.out⟩
    case round =>
      obtain ⟨i, hi, rfl, hno, hb⟩ := hrel
      obtain ⟨q0, q1, q2, q3⟩ := HBOX.out wr hb
      by_cases hil : i < M.tlb.length
      · obtain ⟨ga, ca, hae, haf⟩ := HM.out.t.form
        obtain ⟨g, N, f, hag, _, hr, hN, hf⟩ := haf (by omega)
        have hga : s.a3 = some ⟨g, 0, none⟩ := by
          have h2 : Value.slice s.a3 M.tlb.length s.c3 = .slice ga M.tlb.length ca := hae
          simp only [Value.slice.injEq] at h2
          exact h2.1.trans hag
        have hN' : M.tlb.length * 5 ≤ N := hN
        have hrow : ∀ wX, Below wb.heap.size wb wX → wX.rowIs g 118 N f := fun wX hX => hr.of_block ((HBB.out.trans (hX.mono (by have := HZ.out; omega))).block g hr.lt)
        have HCELL : Hid (∀ wX, Below wb.heap.size wb wX → ∀ t, t < M.tlb.length → wX.cell? ⟨g, t * 5, none⟩ = some (.int .i64 (eAt eTlb M.tlb t).page) ∧ wX.cell? ⟨g, t * 5 + 1, none⟩ = some (.int .i64 (eAt eTlb M.tlb t).size) ∧ wX.cell? ⟨g, t * 5 + 2, none⟩ = some (.int .i64 (eAt eTlb M.tlb t).out) ∧ wX.cell? ⟨g, t * 5 + 3, none⟩ = some (.int .i64 (eAt eTlb M.tlb t).perm) ∧ wX.cell? ⟨g, t * 5 + 4, none⟩ = some (.bool (eAt eTlb M.tlb t).doom)) := fun wX hX t ht => by
          refine ⟨?_, ?_, ?_, ?_, ?_⟩
          · rw [(hrow wX hX).cell (i := t * 5) (by omega)]; exact congrArg some (hf t ht 0 (by decide))
          · rw [(hrow wX hX).cell (i := t * 5 + 1) (by omega)]; exact congrArg some (hf t ht 1 (by decide))
          · rw [(hrow wX hX).cell (i := t * 5 + 2) (by omega)]; exact congrArg some (hf t ht 2 (by decide))
          · rw [(hrow wX hX).cell (i := t * 5 + 3) (by omega)]; exact congrArg some (hf t ht 3 (by decide))
          · rw [(hrow wX hX).cell (i := t * 5 + 4) (by omega)]; exact congrArg some (hf t ht 4 (by decide))
        have HQ : Hid (∀ wX, Below wb.heap.size wb wX → wX.cell? ⟨w.heap.size, 2, none⟩ = some (.slice (some ⟨g, 0, none⟩) M.tlb.length s.c3)) := fun wX hX => by rw [(HBOX.out wX hX).2.2.1, hga]
        have HB : Hid (Below wb.heap.size wb wr) := hb
        have HNO : Hid _ := hno
        have L1 : (0 : Int) ≤ (i : Int) := by omega
        have L2 : (i : Int) < (M.tlb.length : Int) := by omega
        clear hae haf hr hf hN hag hrow hga hb hno
        go_wp2_with fail
        clear q0 q1 q2 q3
        go_loopw [4] (fun jv wr => ∃ j : Nat, j ≤ i ∧ jv = .int .i64 j ∧ (∀ j', j' < j → pairB M j' i = false) ∧ Below wb.heap.size wb wr) (fun jv _ => i - (intOf jv).toNat)
        case atStart => exact ⟨0, Nat.zero_le _, rfl, fun j hj => by omega, HB.out⟩
        case round =>
          obtain ⟨j, hj, rfl, hnj, hb⟩ := hrel
          by_cases hjl : j < i
          · have hjlt : j < M.tlb.length := by omega
            have hyes : pairB M j i = true → confT M = true := confT_yes j i hjl hil
            have hpb : pairB M j i = (meets (eAt eTlb M.tlb j).page (eAt eTlb M.tlb j).size (eAt eTlb M.tlb i).page (eAt eTlb M.tlb i).size && !sameB (eAt eTlb M.tlb j) (eAt eTlb M.tlb i)) := rfl
            have HROW : Hid (∀ wX, Below wb.heap.size wb wX → wX.cell? ⟨w.heap.size, 2, none⟩ = some (.slice (some ⟨g, 0, none⟩) M.tlb.length s.c3) ∧ wX.cell? ⟨g, j * 5, none⟩ = some (.int .i64 (eAt eTlb M.tlb j).page) ∧ wX.cell? ⟨g, j * 5 + 1, none⟩ = some (.int .i64 (eAt eTlb M.tlb j).size) ∧ wX.cell? ⟨g, j * 5 + 2, none⟩ = some (.int .i64 (eAt eTlb M.tlb j).out) ∧ wX.cell? ⟨g, j * 5 + 3, none⟩ = some (.int .i64 (eAt eTlb M.tlb j).perm) ∧ wX.cell? ⟨g, j * 5 + 4, none⟩ = some (.bool (eAt eTlb M.tlb j).doom) ∧ wX.cell? ⟨g, i * 5, none⟩ = some (.int .i64 (eAt eTlb M.tlb i).page) ∧ wX.cell? ⟨g, i * 5 + 1, none⟩ = some (.int .i64 (eAt eTlb M.tlb i).size) ∧ wX.cell? ⟨g, i * 5 + 2, none⟩ = some (.int .i64 (eAt eTlb M.tlb i).out) ∧ wX.cell? ⟨g, i * 5 + 3, none⟩ = some (.int .i64 (eAt eTlb M.tlb i).perm) ∧ wX.cell? ⟨g, i * 5 + 4, none⟩ = some (.bool (eAt eTlb M.tlb i).doom)) := fun wX hX => by
              obtain ⟨a0, a1, a2, a3, a4⟩ := HCELL.out wX hX j hjlt
              obtain ⟨b0, b1, b2, b3, b4⟩ := HCELL.out wX hX i hil
              exact ⟨HQ.out wX hX, a0, a1, a2, a3, a4, b0, b1, b2, b3, b4⟩
            have hyr := HV.out j hjlt
            have hxr := HV.out i hil
            have HYES : Hid _ := hyes
            have HPB : Hid _ := hpb
            have HB2 : Hid (Below wb.heap.size wb wr) := hb
            have HNJ : Hid _ := hnj
            have LJ0 : (0 : Int) ≤ (j : Int) := by omega
            have LJ1 : (j : Int) < (M.tlb.length : Int) := by omega
            have LJ2 : (j : Int) < (i : Int) := by omega
            clear hyes hpb hb hnj
            obtain ⟨y, hy⟩ : ∃ y, y = eAt eTlb M.tlb j := ⟨_, rfl⟩
            obtain ⟨x, hx⟩ : ∃ x, x = eAt eTlb M.tlb i := ⟨_, rfl⟩
            rw [← hy, ← hx] at HPB HROW
            rw [← hy] at hyr
            rw [← hx] at hxr
            have HYR : Hid (TRng y) := hyr
            have HXR : Hid (TRng x) := hxr
            have X0 := hxr.p0
            have X1 := hxr.p1
            have XS := hxr.s
            have YS := hyr.s
            clear hy hx hyr hxr
            go_wp2_with fail
            go_loopw [5] (fun kv wr => ∃ k : Nat, (k : Int) ≤ x.size ∧ kv = .int .i64 k ∧ (∀ k' : Nat, k' < k → tlbCov y (x.page + k') = false ∨ sameB x y = true) ∧ Below wb.heap.size wb wr) (fun kv _ => 16 - (intOf kv).toNat)
            case atStart => exact ⟨0, by omega, rfl, fun k' hk' => by omega, HB2.out⟩
            case round =>
              obtain ⟨k, hk, rfl, hnk, hb⟩ := hrel
              have HS : Hid (∀ wX, Below wr.heap.size wr wX → wX.cell? ⟨w.heap.size, 2, none⟩ = some (.slice (some ⟨g, 0, none⟩) M.tlb.length s.c3) ∧ wX.cell? ⟨g, j * 5, none⟩ = some (.int .i64 y.page) ∧ wX.cell? ⟨g, j * 5 + 1, none⟩ = some (.int .i64 y.size) ∧ wX.cell? ⟨g, j * 5 + 2, none⟩ = some (.int .i64 y.out) ∧ wX.cell? ⟨g, j * 5 + 3, none⟩ = some (.int .i64 y.perm) ∧ wX.cell? ⟨g, j * 5 + 4, none⟩ = some (.bool y.doom) ∧ wX.cell? ⟨g, i * 5, none⟩ = some (.int .i64 x.page) ∧ wX.cell? ⟨g, i * 5 + 1, none⟩ = some (.int .i64 x.size) ∧ wX.cell? ⟨g, i * 5 + 2, none⟩ = some (.int .i64 x.out) ∧ wX.cell? ⟨g, i * 5 + 3, none⟩ = some (.int .i64 x.perm) ∧ wX.cell? ⟨g, i * 5 + 4, none⟩ = some (.bool x.doom)) := fun wX hX => HROW.out wX (hb.trans (hX.mono hb.size))
              obtain ⟨p0, p1, p2, p3, p4, p5, p6, p7, p8, p9, p10⟩ := HS.out wr (Below.refl _ _)
              have HB3 : Hid (Below wb.heap.size wb wr) := hb
              have HNK : Hid _ := hnk
              clear hb hnk
              by_cases hkl : (k : Int) < x.size
              · have W1 : IntKind.i64.wrap (x.page + (k : Int)) = x.page + (k : Int) := by rw [IntKind.wrap_i64]; omega
                have hcv := fun w => tlbCov_any y (x.page + (k : Int)) (by omega) (by omega) YS w
                have hse := fun w => sameEntry_any x y w
                have hcm : tlbCov y (x.page + (k : Int)) = true → meets y.page y.size x.page x.size = true := meets_of_cov HXR.out HYR.out k (by omega) hkl
                have HCM : Hid _ := hcm
                clear hcm p3 p4 p5 p8 p9 p10
                have HDEC : Hid (decide ((k : Int) < x.size) = true) := by show decide ((k : Int) < x.size) = true; simpa using hkl
                cases hcw : tlbCov y (x.page + (k : Int))
                · rw [hcw] at hcv
                  have HCW : Hid _ := hcw
                  clear hcw
                  go_upto_region 12 with fail
                  refine wp_region_held_drew (S := fun wX => wX.cell? ⟨w.heap.size, 2, none⟩ = some (.slice (some ⟨g, 0, none⟩) M.tlb.length s.c3) ∧ wX.cell? ⟨g, j * 5, none⟩ = some (.int .i64 y.page) ∧ wX.cell? ⟨g, j * 5 + 1, none⟩ = some (.int .i64 y.size) ∧ wX.cell? ⟨g, j * 5 + 2, none⟩ = some (.int .i64 y.out) ∧ wX.cell? ⟨g, j * 5 + 3, none⟩ = some (.int .i64 y.perm) ∧ wX.cell? ⟨g, j * 5 + 4, none⟩ = some (.bool y.doom) ∧ wX.cell? ⟨g, i * 5, none⟩ = some (.int .i64 x.page) ∧ wX.cell? ⟨g, i * 5 + 1, none⟩ = some (.int .i64 x.size) ∧ wX.cell? ⟨g, i * 5 + 2, none⟩ = some (.int .i64 x.out) ∧ wX.cell? ⟨g, i * 5 + 3, none⟩ = some (.int .i64 x.perm) ∧ wX.cell? ⟨g, i * 5 + 4, none⟩ = some (.bool x.doom)) (by kernel_rfl) (HS.out _ (Below.refl _ _).drew) (fun hHeld => ?_)
                  refine tk 0 ?_
                  refine tk 1 ?_
                  refine tk 2 ?_
                  refine tk 3 ?_
                  refine tk 4 ?_
                  refine tk 5 ?_
                  refine tk 6 ?_
                  refine tk 7 ?_
                  refine tk 8 ?_
                  refine tk 9 ?_
                  refine tk 10 ?_
                  refine tk 11 ?_
                  refine tk 12 ?_
                  refine wpAnyH_ready (rs := [13]) (by kernel_rfl) (by simp) ?_
                  refine AllReadyH.cons rfl (fun K hK => ?_) AllReadyH.nil
                  go_simp
                  refine (hcv _).mono ?_; rintro r w2 ⟨rfl, hb2⟩; have B2 : Below wr.heap.size wr w2 := (Below.refl _ _).drew.trans (hb2.mono (by simp)); clear hb2
                  go_wp2_with fail
                  refine hK.out _ _ (HS.out _ B2) (fun hHeld2 => ?_)
                  clear hK K
                  refine tk 14 ?_
                  refine sk 15 ?_
                  refine sk 16 ?_
                  refine sk 17 ?_
                  refine sk 18 ?_
                  refine sk 19 ?_
                  refine sk 20 ?_
                  refine sk 21 ?_
                  refine sk 22 ?_
                  refine sk 23 ?_
                  refine sk 24 ?_
                  refine sk 25 ?_
                  refine sk 26 ?_
                  refine tk 27 ?_
                  refine wpAnyH_done (by kernel_rfl) ?_ _
                  have HBW : Hid (Below wb.heap.size wb w2) := HB3.out.trans (B2.mono HB3.out.size)
                  clear B2
                  go_wp2_with fail
                  go_roundw
                  case rel => exact ⟨k + 1, by omega, by go_num, fun k' hk' => if h : k' = k then h ▸ .inl HCW.out else HNK.out k' (by omega), HBW.out⟩
                  case measure => simp [intOf]; omega
                · rw [hcw] at hcv
                  have hmt := HCM.out hcw
                  have HMT : Hid _ := hmt
                  clear hcw hmt
                  cases hsw : sameB x y
                  · rw [hsw] at hse
                    have hpt : confT M = true := HYES.out (by rw [HPB.out, HMT.out, sameB_comm, hsw]; rfl)
                    have HPT : Hid _ := hpt
                    clear hsw hpt
                    go_upto_region 12 with fail
                    refine wp_region_held_drew (S := fun wX => wX.cell? ⟨w.heap.size, 2, none⟩ = some (.slice (some ⟨g, 0, none⟩) M.tlb.length s.c3) ∧ wX.cell? ⟨g, j * 5, none⟩ = some (.int .i64 y.page) ∧ wX.cell? ⟨g, j * 5 + 1, none⟩ = some (.int .i64 y.size) ∧ wX.cell? ⟨g, j * 5 + 2, none⟩ = some (.int .i64 y.out) ∧ wX.cell? ⟨g, j * 5 + 3, none⟩ = some (.int .i64 y.perm) ∧ wX.cell? ⟨g, j * 5 + 4, none⟩ = some (.bool y.doom) ∧ wX.cell? ⟨g, i * 5, none⟩ = some (.int .i64 x.page) ∧ wX.cell? ⟨g, i * 5 + 1, none⟩ = some (.int .i64 x.size) ∧ wX.cell? ⟨g, i * 5 + 2, none⟩ = some (.int .i64 x.out) ∧ wX.cell? ⟨g, i * 5 + 3, none⟩ = some (.int .i64 x.perm) ∧ wX.cell? ⟨g, i * 5 + 4, none⟩ = some (.bool x.doom)) (by kernel_rfl) (HS.out _ (Below.refl _ _).drew) (fun hHeld => ?_)
                    refine tk 0 ?_
                    refine tk 1 ?_
                    refine tk 2 ?_
                    refine tk 3 ?_
                    refine tk 4 ?_
                    refine tk 5 ?_
                    refine tk 6 ?_
                    refine tk 7 ?_
                    refine tk 8 ?_
                    refine tk 9 ?_
                    refine tk 10 ?_
                    refine tk 11 ?_
                    refine tk 12 ?_
                    refine wpAnyH_ready (rs := [13]) (by kernel_rfl) (by simp) ?_
                    refine AllReadyH.cons rfl (fun K hK => ?_) AllReadyH.nil
                    go_simp
                    refine (hcv _).mono ?_; rintro r w2 ⟨rfl, hb2⟩; have B2 : Below wr.heap.size wr w2 := (Below.refl _ _).drew.trans (hb2.mono (by simp)); clear hb2
                    go_wp2_with fail
                    refine hK.out _ _ (HS.out _ B2) (fun hHeld2 => ?_)
                    clear hK K
                    refine tk 14 ?_
                    refine tk 15 ?_
                    refine tk 16 ?_
                    refine tk 17 ?_
                    refine tk 18 ?_
                    refine tk 19 ?_
                    refine tk 20 ?_
                    refine tk 21 ?_
                    refine tk 22 ?_
                    refine tk 23 ?_
                    refine tk 24 ?_
                    refine wpAnyH_ready (rs := [25]) (by kernel_rfl) (by simp) ?_
                    refine AllReadyH.cons rfl (fun K hK => ?_) AllReadyH.nil
                    go_simp
                    refine (hse _).mono ?_; rintro r w3 ⟨rfl, hb3⟩; have B3 : Below wr.heap.size wr w3 := B2.trans (hb3.mono B2.size); clear hb3
                    go_wp2_with fail
                    refine hK.out _ _ (HS.out _ B3) (fun hHeld2 => ?_)
                    clear hK K
                    refine tk 26 ?_
                    refine tk 27 ?_
                    refine wpAnyH_done (by kernel_rfl) ?_ _
                    have HBW : Hid (Below w.heap.size w w3) := HBB.out.trans ((HB3.out.trans (B3.mono HB3.out.size)).mono (by have := HZ.out; omega))
                    clear B2 B3
                    go_wp2_with fail
                    go_ret
                    exact ⟨by rw [HPT.out]; rfl, HBW.out⟩
                  · rw [hsw] at hse
                    have HSW : Hid _ := hsw
                    clear hsw
                    go_upto_region 12 with fail
                    refine wp_region_held_drew (S := fun wX => wX.cell? ⟨w.heap.size, 2, none⟩ = some (.slice (some ⟨g, 0, none⟩) M.tlb.length s.c3) ∧ wX.cell? ⟨g, j * 5, none⟩ = some (.int .i64 y.page) ∧ wX.cell? ⟨g, j * 5 + 1, none⟩ = some (.int .i64 y.size) ∧ wX.cell? ⟨g, j * 5 + 2, none⟩ = some (.int .i64 y.out) ∧ wX.cell? ⟨g, j * 5 + 3, none⟩ = some (.int .i64 y.perm) ∧ wX.cell? ⟨g, j * 5 + 4, none⟩ = some (.bool y.doom) ∧ wX.cell? ⟨g, i * 5, none⟩ = some (.int .i64 x.page) ∧ wX.cell? ⟨g, i * 5 + 1, none⟩ = some (.int .i64 x.size) ∧ wX.cell? ⟨g, i * 5 + 2, none⟩ = some (.int .i64 x.out) ∧ wX.cell? ⟨g, i * 5 + 3, none⟩ = some (.int .i64 x.perm) ∧ wX.cell? ⟨g, i * 5 + 4, none⟩ = some (.bool x.doom)) (by kernel_rfl) (HS.out _ (Below.refl _ _).drew) (fun hHeld => ?_)
                    refine tk 0 ?_
                    refine tk 1 ?_
                    refine tk 2 ?_
                    refine tk 3 ?_
                    refine tk 4 ?_
                    refine tk 5 ?_
                    refine tk 6 ?_
                    refine tk 7 ?_
                    refine tk 8 ?_
                    refine tk 9 ?_
                    refine tk 10 ?_
                    refine tk 11 ?_
                    refine tk 12 ?_
                    refine wpAnyH_ready (rs := [13]) (by kernel_rfl) (by simp) ?_
                    refine AllReadyH.cons rfl (fun K hK => ?_) AllReadyH.nil
                    go_simp
                    refine (hcv _).mono ?_; rintro r w2 ⟨rfl, hb2⟩; have B2 : Below wr.heap.size wr w2 := (Below.refl _ _).drew.trans (hb2.mono (by simp)); clear hb2
                    go_wp2_with fail
                    refine hK.out _ _ (HS.out _ B2) (fun hHeld2 => ?_)
                    clear hK K
                    refine tk 14 ?_
                    refine tk 15 ?_
                    refine tk 16 ?_
                    refine tk 17 ?_
                    refine tk 18 ?_
                    refine tk 19 ?_
                    refine tk 20 ?_
                    refine tk 21 ?_
                    refine tk 22 ?_
                    refine tk 23 ?_
                    refine tk 24 ?_
                    refine wpAnyH_ready (rs := [25]) (by kernel_rfl) (by simp) ?_
                    refine AllReadyH.cons rfl (fun K hK => ?_) AllReadyH.nil
                    go_simp
                    refine (hse _).mono ?_; rintro r w3 ⟨rfl, hb3⟩; have B3 : Below wr.heap.size wr w3 := B2.trans (hb3.mono B2.size); clear hb3
                    go_wp2_with fail
                    refine hK.out _ _ (HS.out _ B3) (fun hHeld2 => ?_)
                    clear hK K
                    refine tk 26 ?_
                    refine tk 27 ?_
                    refine wpAnyH_done (by kernel_rfl) ?_ _
                    have HBW : Hid (Below wb.heap.size wb w3) := HB3.out.trans (B3.mono HB3.out.size)
                    clear B2 B3
                    go_wp2_with fail
                    go_roundw
                    case rel => exact ⟨k + 1, by omega, by go_num, fun k' hk' => .inr (by first | trivial | exact HSW.out), HBW.out⟩
                    case measure => simp [intOf]; omega
              · have hpf : pairB M j i = false := by
                  rw [HPB.out]
                  cases hsm : sameB x y
                  · have hcv : ∀ k' : Nat, (k' : Int) < x.size → tlbCov y (x.page + k') = false := fun k' hk' => (HNK.out k' (by omega)).elim id (fun e => by rw [hsm] at e; cases e)
                    rw [not_meets HXR.out HYR.out hcv]
                    rfl
                  · rw [sameB_comm, hsm]
                    simp
                have HPF : Hid _ := hpf
                clear hpf p3 p4 p5 p8 p9 p10
                go_wp2_with fail
                go_roundw
                case rel => exact ⟨j + 1, by omega, by go_num, fun j' hj' => if h : j' = j then h ▸ HPF.out else HNJ.out j' (by omega), HB3.out⟩
                case measure => simp [intOf]; omega
          · have HNJ : Hid _ := hnj
            have HB2 : Hid (Below wb.heap.size wb wr) := hb
            have LJ : ¬ (j : Int) < (i : Int) := by omega
            have HJI : Hid (j = i) := by show j = i; omega
            clear hnj hb hjl
            go_wp2_with fail
            go_roundw
            case rel => exact ⟨i + 1, by omega, by go_num, fun i' hi' j' hj' => if h : i' = i then by subst h; exact HNJ.out j' (by have := HJI.out; omega) else HNO.out i' (by omega) j' hj', HB2.out⟩
            case measure => simp [intOf]; omega
      · have e : i = M.tlb.length := by omega
        subst e
        have hcf : confT M = false := confT_no (fun a c h1 h2 => hno c h2 a h1)
        have HCF : Hid _ := hcf
        have HBW : Hid (Below w.heap.size w wr) := HBB.out.trans (hb.mono (by have := HZ.out; omega))
        have LF : ¬ (M.tlb.length : Int) < (M.tlb.length : Int) := by omega
        clear hno hb hcf
        go_wp2_with fail
        go_ret
        exact ⟨by rw [HCF.out]; rfl, HBW.out⟩
end Go.Proofs.Ytnmhkgmmpkjjeab
