import Derived.Test.YtnmhkgmmpkjjeabSWalk
import Derived.Test.YtnmhkgmmpkjjeabMFill
namespace Go.Proofs.Ytnmhkgmmpkjjeab
open Go.ChangeShapes Go.WideShapes Go.ChangeAt Go.RowKit
set_option linter.unusedVariables false
attribute [local go_sem ↓] Go.wp_at_zero Go.wp_at_succ

set_option maxHeartbeats 2000000 in
theorem specFill_any (s : SV) (M : Mach) (b : Nat) (page choice : Int) (w : World) (hk : MOk M) (hs : M.Small) (h : MRow w b (s.mv M) M) :
    Calls Try.prog 25 #[.agg #[.slice s.a1 M.mem.length s.c1, .slice s.a2 M.pend.length s.c2, .slice s.a3 M.tlb.length s.c3, .slice s.a4 M.wc.length s.c4], .int .i64 page, .int .i64 choice] w fun e w' => ∃ s' : SV, e = .returned (.agg #[.slice s'.a1 (fillM M page choice).mem.length s'.c1, .slice s'.a2 (fillM M page choice).pend.length s'.c2, .slice s'.a3 (fillM M page choice).tlb.length s'.c3, .slice s'.a4 (fillM M page choice).wc.length s'.c4]) ∧ MRow w' w.heap.size (s'.mv (fillM M page choice)) (fillM M page choice) ∧ Below w.heap.size w w' := by
  obtain ⟨wb, hwb⟩ : ∃ wb, wb = (w.alloc (.cells #[.slice s.a1 M.mem.length s.c1, .slice s.a2 M.pend.length s.c2, .slice s.a3 M.tlb.length s.c3, .slice s.a4 M.wc.length s.c4] 51)).alloc (.cells #[.slice none 0 0, .slice none 0 0, .slice none 0 0, .slice none 0 0] 51) := ⟨_, rfl⟩
  have hbb : Below w.heap.size w wb := by rw [hwb]; exact ((Below.refl _ _).alloc (Nat.le_refl _) _).alloc (by simp) _
  have hzb : wb.heap.size = w.heap.size + 2 := by rw [hwb]; simp
  have HBOX : Hid (∀ wX, Below wb.heap.size wb wX → (wX.cell? ⟨w.heap.size, 0, none⟩ = some (.slice s.a1 M.mem.length s.c1) ∧ wX.cell? ⟨w.heap.size, 1, none⟩ = some (.slice s.a2 M.pend.length s.c2) ∧ wX.cell? ⟨w.heap.size, 2, none⟩ = some (.slice s.a3 M.tlb.length s.c3) ∧ wX.cell? ⟨w.heap.size, 3, none⟩ = some (.slice s.a4 M.wc.length s.c4)) ∧ (wX.cell? ⟨w.heap.size + 1, 0, none⟩ = some (.slice none 0 0) ∧ wX.cell? ⟨w.heap.size + 1, 1, none⟩ = some (.slice none 0 0) ∧ wX.cell? ⟨w.heap.size + 1, 2, none⟩ = some (.slice none 0 0) ∧ wX.cell? ⟨w.heap.size + 1, 3, none⟩ = some (.slice none 0 0)) ∧ (wX.frozen? ⟨w.heap.size + 1, 0, none⟩ = false ∧ wX.frozen? ⟨w.heap.size + 1, 1, none⟩ = false ∧ wX.frozen? ⟨w.heap.size + 1, 2, none⟩ = false ∧ wX.frozen? ⟨w.heap.size + 1, 3, none⟩ = false) ∧ w.heap.size < wX.heap.size ∧ w.heap.size + 1 < wX.heap.size) := fun wX hX => by
    have hsz := hX.size
    refine ⟨⟨?_, ?_, ?_, ?_⟩, ⟨?_, ?_, ?_, ?_⟩, ⟨?_, ?_, ?_, ?_⟩, by omega, by omega⟩
    iterate 8 (exact (hX.cell (by simp; omega)).trans (by rw [hwb]; simp [go_sem]))
    iterate 4 (exact (hX.frozen (by simp; omega)).trans (by rw [hwb]; simp [go_sem]))
  have HWB : Hid (wb = _) := hwb
  have HBB : Hid (Below _ w wb) := hbb
  have HZ : Hid (wb.heap.size = w.heap.size + 2) := hzb
  have hvm := specValid_any s M b wb hs (h.below hbb)
  rw [hwb] at hvm
  have hpk := pageOk_any page
  have hck := choiceOk_any choice
  have HM : Hid (∀ wX, Below wb.heap.size wb wX → MRow wX b (s.mv M) M) := fun wX hX => h.below (hbb.trans (hX.mono (by omega)))
  clear hwb hbb hzb h
  have hfm : fillM M page choice = if validB M && pageOk page && choiceOk choice then (walkM M page choice).1 else zM := rfl
  have zcase : ∀ (hz : fillM M page choice = zM), True := fun _ => trivial
  cases hv : validB M
  · rw [hfm, hv]
    simp only [Bool.false_and, Bool.false_eq_true, if_false]
    rw [hv] at hvm
    clear hfm hv zcase
    go_enter Try.func25, Try.ntmps25
    go_wp2_with fail
    refine hvm.mono ?_
    rintro e w1 ⟨rfl, hb1'⟩
    have hb1 : Below wb.heap.size wb w1 := by rw [HWB.out]; exact hb1'
    obtain ⟨⟨q0, q1, q2, q3⟩, ⟨r0, r1, r2, r3⟩, ⟨z0, z1, z2, z3⟩, N0, N1⟩ := HBOX.out w1 hb1
    have HB1 : Hid (Below w.heap.size w w1) := HBB.out.trans (hb1.mono (by have := HZ.out; omega))
    clear hb1' hb1 hvm
    go_wp2_with fail
    refine bodyPost_ret (v := .agg #[.slice none 0 0, .slice none 0 0, .slice none 0 0, .slice none 0 0]) (by simp [results, Try.results25, go_sem, r0, r1, r2, r3]) rfl ⟨zS, rfl, zM_row _ _, ?_⟩
    exact ((((HB1.out.setCell (by simp) _).setCell (by simp) _).setCell (by simp) _).setCell (by simp) _)
  · rw [hv] at hvm
    cases hp : pageOk page
    · rw [hfm, hv, hp]
      simp only [Bool.and_false, Bool.false_and, Bool.false_eq_true, if_false]
      rw [hp] at hpk
      clear hfm hv hp zcase
      go_enter Try.func25, Try.ntmps25
      go_wp2_with fail
      refine hvm.mono ?_
      rintro e w1 ⟨rfl, hb1'⟩
      have hb1 : Below wb.heap.size wb w1 := by rw [HWB.out]; exact hb1'
      obtain ⟨⟨q0, q1, q2, q3⟩, ⟨r0, r1, r2, r3⟩, ⟨z0, z1, z2, z3⟩, N0, N1⟩ := HBOX.out w1 hb1
      have HB1 : Hid (Below w.heap.size w w1) := HBB.out.trans (hb1.mono (by have := HZ.out; omega))
      clear hb1' hb1 hvm
      go_wp2_with (go_at_call 60; refine (hpk _).mono ?_; rintro e wE ⟨rfl, hwE⟩; obtain rfl := hwE.symm)
      refine bodyPost_ret (v := .agg #[.slice none 0 0, .slice none 0 0, .slice none 0 0, .slice none 0 0]) (by simp [results, Try.results25, go_sem, r0, r1, r2, r3]) rfl ⟨zS, rfl, zM_row _ _, ?_⟩
      exact ((((HB1.out.setCell (by simp) _).setCell (by simp) _).setCell (by simp) _).setCell (by simp) _)
    · cases hc : choiceOk choice
      · rw [hfm, hv, hp, hc]
        simp only [Bool.and_false, Bool.false_eq_true, if_false]
        rw [hp] at hpk
        rw [hc] at hck
        clear hfm hv hp hc zcase
        go_enter Try.func25, Try.ntmps25
        go_wp2_with fail
        refine hvm.mono ?_
        rintro e w1 ⟨rfl, hb1'⟩
        have hb1 : Below wb.heap.size wb w1 := by rw [HWB.out]; exact hb1'
        obtain ⟨⟨q0, q1, q2, q3⟩, ⟨r0, r1, r2, r3⟩, ⟨z0, z1, z2, z3⟩, N0, N1⟩ := HBOX.out w1 hb1
        have HB1 : Hid (Below w.heap.size w w1) := HBB.out.trans (hb1.mono (by have := HZ.out; omega))
        clear hb1' hb1 hvm
        go_wp2_with (first | (go_at_call 60; refine (hpk _).mono ?_; rintro e wE ⟨rfl, hwE⟩; obtain rfl := hwE.symm) | (go_at_call 68; refine (hck _).mono ?_; rintro e wE ⟨rfl, hwE⟩; obtain rfl := hwE.symm))
        refine bodyPost_ret (v := .agg #[.slice none 0 0, .slice none 0 0, .slice none 0 0, .slice none 0 0]) (by simp [results, Try.results25, go_sem, r0, r1, r2, r3]) rfl ⟨zS, rfl, zM_row _ _, ?_⟩
        exact ((((HB1.out.setCell (by simp) _).setCell (by simp) _).setCell (by simp) _).setCell (by simp) _)
      · have e1 : fillM M page choice = (walkM M page choice).1 := by rw [hfm, hv, hp, hc]; rfl
        rw [e1]
        have hok := WOk.of hk hv
        have hpp : 0 ≤ page ∧ page < 4096 := by simpa [pageOk] using hp
        have hcc : 0 ≤ choice ∧ choice ≤ 65535 := by simpa [choiceOk] using hc
        have hst := startM_ok hv page choice
        have hok' := walkM_ok hok page choice
        rw [hp] at hpk
        rw [hc] at hck
        have HV : Hid (validB M = true) := hv
        have HOK : Hid (WOk M) := hok
        have HL : Hid (∀ (s1 : SV) (b1 : Nat) (wX : World), b1 ≤ wX.heap.size → MRow wX b1 (s1.mv M) M → Calls Try.prog 69 #[.agg #[.slice s1.a1 M.mem.length s1.c1, .slice s1.a2 M.pend.length s1.c2, .slice s1.a3 M.tlb.length s1.c3, .slice s1.a4 M.wc.length s1.c4], .int .i64 page, .int .i64 choice] wX fun r w' => ∃ s' : SV, r = .returned (.tuple #[.agg #[.slice s'.a1 (walkM M page choice).1.mem.length s'.c1, .slice s'.a2 (walkM M page choice).1.pend.length s'.c2, .slice s'.a3 (walkM M page choice).1.tlb.length s'.c3, .slice s'.a4 (walkM M page choice).1.wc.length s'.c4],   .agg #[.int .i64 (walkM M page choice).2.kind, .int .i64 (walkM M page choice).2.out, .int .i64 (walkM M page choice).2.perm, .int .i64 (walkM M page choice).2.size]]) ∧ MRow w' b1 (s'.mv (walkM M page choice).1) (walkM M page choice).1 ∧ (∀ k, (s'.mv (walkM M page choice).1).owns k → (s1.mv M).owns k ∨ wX.heap.size ≤ k) ∧ Below wX.heap.size wX w') := fun s1 b1 wX hb1 h1 => lwalk_any s1 M b1 page choice wX hok hv hpp.1 hpp.2 hcc.1 hcc.2 hb1 h1
        have HCP : Hid (∀ wX, Below wb.heap.size wb wX → Calls Try.prog 70 #[.agg #[.slice s.a1 M.mem.length s.c1, .slice s.a2 M.pend.length s.c2, .slice s.a3 M.tlb.length s.c3, .slice s.a4 M.wc.length s.c4]] wX fun e w' => ∃ s' : SV, e = .returned (.agg #[.slice s'.a1 M.mem.length s'.c1, .slice s'.a2 M.pend.length s'.c2, .slice s'.a3 M.tlb.length s'.c3, .slice s'.a4 M.wc.length s'.c4]) ∧ MRow w' wX.heap.size (s'.mv M) M ∧ (s'.mv M).apart ∧ Below wX.heap.size wX w') := fun wX hX => copyM_any s M b wX hs (HM.out wX hX)
        generalize walkM M page choice = R at *
        clear hfm hv hp hc zcase hst hok' e1 hok
        go_enter Try.func25, Try.ntmps25
        go_wp2_with fail
        refine hvm.mono ?_
        rintro e w1 ⟨rfl, hb1'⟩
        have hb1 : Below wb.heap.size wb w1 := by rw [HWB.out]; exact hb1'
        obtain ⟨⟨q0, q1, q2, q3⟩, ⟨r0, r1, r2, r3⟩, ⟨z0, z1, z2, z3⟩, N0, N1⟩ := HBOX.out w1 hb1
        have HB1 : Hid (Below wb.heap.size wb w1) := hb1
        clear hb1' hb1 hvm
        go_wp2_with (first | (go_at_call 60; refine (hpk _).mono ?_; rintro e wE ⟨rfl, hwE⟩; obtain rfl := hwE.symm) | (go_at_call 68; refine (hck _).mono ?_; rintro e wE ⟨rfl, hwE⟩; obtain rfl := hwE.symm))
        refine (HCP.out _ HB1.out).mono ?_
        rintro e w2 ⟨s1, rfl, hr2, _, hb2⟩
        have hl := HL.out s1 w1.heap.size w2 hb2.size hr2
        have HO2 : Hid (∀ k, (s1.mv M).owns k → w1.heap.size ≤ k) := fun k hk => (hr2.own k hk).1
        have HB2 : Hid (Below wb.heap.size wb w2) := HB1.out.trans (hb2.mono HB1.out.size)
        clear hr2 hb2 q0 q1 q2 q3 r0 r1 r2 r3 z0 z1 z2 z3
        go_wp2_with fail
        refine hl.mono ?_
        rintro e w3 ⟨s2, rfl, hr3, how3, hb3⟩
        have b3 : Below wb.heap.size wb w3 := HB2.out.trans (hb3.mono HB2.out.size)
        obtain ⟨_, ⟨r0, r1, r2, r3⟩, ⟨z0, z1, z2, z3⟩, N0', N1'⟩ := HBOX.out w3 b3
        have HR3 : Hid (MRow w3 w1.heap.size (s2.mv R.1) R.1) := hr3
        have HB3 : Hid (Below wb.heap.size wb w3) := b3
        clear hr3 how3 hb3 b3 hl
        go_wp2_with fail
        obtain ⟨wF, hwF⟩ : ∃ wF, wF = ((((((w3.setCell ⟨w.heap.size + 1, 0, none⟩ (.slice s2.a1 R.1.mem.length s2.c1)).setCell ⟨w.heap.size + 1, 1, none⟩ (.slice s2.a2 R.1.pend.length s2.c2)).setCell ⟨w.heap.size + 1, 2, none⟩ (.slice s2.a3 R.1.tlb.length s2.c3)).setCell ⟨w.heap.size + 1, 3, none⟩ (.slice s2.a4 R.1.wc.length s2.c4)).alloc (.cells #[.slice s2.a1 R.1.mem.length s2.c1, .slice s2.a2 R.1.pend.length s2.c2, .slice s2.a3 R.1.tlb.length s2.c3, .slice s2.a4 R.1.wc.length s2.c4] 51)).alloc (.cells #[.int .i64 R.2.kind, .int .i64 R.2.out, .int .i64 R.2.perm, .int .i64 R.2.size] 37)) := ⟨_, rfl⟩
        rw [← hwF]
        have hTF : Touch (fun k => k = w.heap.size + 1) w3 wF := by
          rw [hwF]
          refine ⟨rfl, rfl, rfl, by simp; omega, fun k hk hn => ?_⟩
          have n1 : k ≠ w.heap.size + 1 := hn
          rw [Below.heap_alloc _ _ _ (by simp; omega), Below.heap_alloc _ _ _ (by simpa using hk), Below.heap_setCell _ _ _ _ (by exact n1), Below.heap_setCell _ _ _ _ (by exact n1), Below.heap_setCell _ _ _ _ (by exact n1), Below.heap_setCell _ _ _ _ (by exact n1)]
        have f0 : wF.cell? ⟨w.heap.size + 1, 0, none⟩ = some (.slice s2.a1 R.1.mem.length s2.c1) := by rw [hwF]; simp [go_sem, r0, N1', Nat.lt_succ_of_lt N1']
        have f1 : wF.cell? ⟨w.heap.size + 1, 1, none⟩ = some (.slice s2.a2 R.1.pend.length s2.c2) := by rw [hwF]; simp [go_sem, r1, N1', Nat.lt_succ_of_lt N1']
        have f2 : wF.cell? ⟨w.heap.size + 1, 2, none⟩ = some (.slice s2.a3 R.1.tlb.length s2.c3) := by rw [hwF]; simp [go_sem, r2, N1', Nat.lt_succ_of_lt N1']
        have f3 : wF.cell? ⟨w.heap.size + 1, 3, none⟩ = some (.slice s2.a4 R.1.wc.length s2.c4) := by rw [hwF]; simp [go_sem, r3, N1', Nat.lt_succ_of_lt N1']
        refine bodyPost_ret (v := .agg #[.slice s2.a1 R.1.mem.length s2.c1, .slice s2.a2 R.1.pend.length s2.c2, .slice s2.a3 R.1.tlb.length s2.c3, .slice s2.a4 R.1.wc.length s2.c4]) (by simp [results, Try.results25, go_sem, f0, f1, f2, f3]) rfl ⟨s2, rfl, ?_, ?_⟩
        · refine MRow.rebase (base := w1.heap.size) (HR3.out.touch hTF (fun k hk hh => ?_)) (by omega)
          have := (HR3.out.own k hk).1
          omega
        · exact Touch.below (HBB.out.trans (HB3.out.mono (by have := HZ.out; omega))) hTF (by omega) (fun k hk => by omega)
end Go.Proofs.Ytnmhkgmmpkjjeab
