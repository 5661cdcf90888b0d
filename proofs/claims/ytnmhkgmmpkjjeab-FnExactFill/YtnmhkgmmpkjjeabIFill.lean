import Derived.Test.YtnmhkgmmpkjjeabUWalk
import Derived.Test.YtnmhkgmmpkjjeabUValid
import Derived.Test.YtnmhkgmmpkjjeabUOpen
import Derived.Test.YtnmhkgmmpkjjeabUClose
import Derived.Test.YtnmhkgmmpkjjeabMFill
namespace Go.Proofs.Ytnmhkgmmpkjjeab
open Go.ChangeShapes Go.WideShapes Go.ChangeAt Go.RowKit
set_option linter.unusedVariables false
attribute [local go_sem ↓] Go.wp_at_zero Go.wp_at_succ

set_option maxHeartbeats 2000000 in
theorem implFill_any (s : SV) (M : Mach) (b : Nat) (page choice : Int) (w : World) (hk : MOk M) (hs : M.Small) (h : MRow w b (s.mv M) M) :
    Calls Try.prog 27 #[.agg #[.slice s.a1 M.mem.length s.c1, .slice s.a2 M.pend.length s.c2, .slice s.a3 M.tlb.length s.c3, .slice s.a4 M.wc.length s.c4], .int .i64 page, .int .i64 choice] w fun e w' => ∃ s' : SV, e = .returned (.agg #[.slice s'.a1 (fillM M page choice).mem.length s'.c1, .slice s'.a2 (fillM M page choice).pend.length s'.c2, .slice s'.a3 (fillM M page choice).tlb.length s'.c3, .slice s'.a4 (fillM M page choice).wc.length s'.c4]) ∧ MRow w' w.heap.size (s'.mv (fillM M page choice)) (fillM M page choice) ∧ (s'.mv (fillM M page choice)).apart ∧ Below w.heap.size w w' := by
  obtain ⟨wb, hwb⟩ : ∃ wb, wb = (w.alloc (.cells #[.slice s.a1 M.mem.length s.c1, .slice s.a2 M.pend.length s.c2, .slice s.a3 M.tlb.length s.c3, .slice s.a4 M.wc.length s.c4] 51)).alloc (.cells #[.slice none 0 0, .slice none 0 0, .slice none 0 0, .slice none 0 0] 51) := ⟨_, rfl⟩
  have hbb : Below w.heap.size w wb := by rw [hwb]; exact ((Below.refl _ _).alloc (Nat.le_refl _) _).alloc (by simp) _
  have hzb : wb.heap.size = w.heap.size + 2 := by rw [hwb]; simp
  have HBOX : Hid (∀ wX, Below wb.heap.size wb wX → (wX.cell? ⟨w.heap.size, 0, none⟩ = some (.slice s.a1 M.mem.length s.c1) ∧ wX.cell? ⟨w.heap.size, 1, none⟩ = some (.slice s.a2 M.pend.length s.c2) ∧ wX.cell? ⟨w.heap.size, 2, none⟩ = some (.slice s.a3 M.tlb.length s.c3) ∧ wX.cell? ⟨w.heap.size, 3, none⟩ = some (.slice s.a4 M.wc.length s.c4)) ∧ (wX.cell? ⟨w.heap.size + 1, 0, none⟩ = some (.slice none 0 0) ∧ wX.cell? ⟨w.heap.size + 1, 1, none⟩ = some (.slice none 0 0) ∧ wX.cell? ⟨w.heap.size + 1, 2, none⟩ = some (.slice none 0 0) ∧ wX.cell? ⟨w.heap.size + 1, 3, none⟩ = some (.slice none 0 0)) ∧ (wX.frozen? ⟨w.heap.size + 1, 0, none⟩ = false ∧ wX.frozen? ⟨w.heap.size + 1, 1, none⟩ = false ∧ wX.frozen? ⟨w.heap.size + 1, 2, none⟩ = false ∧ wX.frozen? ⟨w.heap.size + 1, 3, none⟩ = false) ∧ w.heap.size < wX.heap.size ∧ w.heap.size + 1 < wX.heap.size) := fun wX hX => by
    have hsz := hX.size
    refine ⟨⟨?_, ?_, ?_, ?_⟩, ⟨?_, ?_, ?_, ?_⟩, ⟨?_, ?_, ?_, ?_⟩, by omega, by omega⟩
    iterate 8 (exact (hX.cell (by simp; omega)).trans (by rw [hwb]; simp [go_sem]))
    iterate 4 (exact (hX.frozen (by simp; omega)).trans (by rw [hwb]; simp [go_sem]))
  have HWB : Hid (wb = _) := hwb
  have HBB : Hid (Below _ w wb) := hbb
  have HZ : Hid (wb.heap.size = w.heap.size + 2) := hzb
  have hvm := validM_any s M b wb hs (h.below hbb)
  rw [hwb] at hvm
  have hpk := validPage_any page
  have hck := validChoice_any choice
  have HM : Hid (∀ wX, Below wb.heap.size wb wX → MRow wX b (s.mv M) M) := fun wX hX => h.below (hbb.trans (hX.mono (by omega)))
  clear hwb hbb hzb h
  have hfm : fillM M page choice = if validB M && pageOk page && choiceOk choice then (walkM M page choice).1 else zM := rfl
  have zcase : ∀ (hz : fillM M page choice = zM), True := fun _ => trivial
  cases hv : validB M
  · rw [hfm, hv]
    simp only [Bool.false_and, Bool.false_eq_true, if_false]
    rw [hv] at hvm
    clear hfm hv zcase
    go_enter Try.func27, Try.ntmps27
    go_wp2_with fail
    refine hvm.mono ?_
    rintro e w1 ⟨rfl, hb1'⟩
    have hb1 : Below wb.heap.size wb w1 := by rw [HWB.out]; exact hb1'
    obtain ⟨⟨q0, q1, q2, q3⟩, ⟨r0, r1, r2, r3⟩, ⟨z0, z1, z2, z3⟩, N0, N1⟩ := HBOX.out w1 hb1
    have HB1 : Hid (Below w.heap.size w w1) := HBB.out.trans (hb1.mono (by have := HZ.out; omega))
    clear hb1' hb1 hvm
    go_wp2_with fail
    refine bodyPost_ret (v := .agg #[.slice none 0 0, .slice none 0 0, .slice none 0 0, .slice none 0 0]) (by simp [results, Try.results27, go_sem, r0, r1, r2, r3]) rfl ⟨zS, rfl, zM_row _ _, zM_apart, ?_⟩
    exact ((((HB1.out.setCell (by simp) _).setCell (by simp) _).setCell (by simp) _).setCell (by simp) _)
  · rw [hv] at hvm
    cases hp : pageOk page
    · rw [hfm, hv, hp]
      simp only [Bool.and_false, Bool.false_and, Bool.false_eq_true, if_false]
      rw [hp] at hpk
      clear hfm hv hp zcase
      go_enter Try.func27, Try.ntmps27
      go_wp2_with fail
      refine hvm.mono ?_
      rintro e w1 ⟨rfl, hb1'⟩
      have hb1 : Below wb.heap.size wb w1 := by rw [HWB.out]; exact hb1'
      obtain ⟨⟨q0, q1, q2, q3⟩, ⟨r0, r1, r2, r3⟩, ⟨z0, z1, z2, z3⟩, N0, N1⟩ := HBOX.out w1 hb1
      have HB1 : Hid (Below w.heap.size w w1) := HBB.out.trans (hb1.mono (by have := HZ.out; omega))
      clear hb1' hb1 hvm
      go_wp2_with (go_at_call 62; refine (hpk _).mono ?_; rintro e wE ⟨rfl, hwE⟩; obtain rfl := hwE.symm)
      refine bodyPost_ret (v := .agg #[.slice none 0 0, .slice none 0 0, .slice none 0 0, .slice none 0 0]) (by simp [results, Try.results27, go_sem, r0, r1, r2, r3]) rfl ⟨zS, rfl, zM_row _ _, zM_apart, ?_⟩
      exact ((((HB1.out.setCell (by simp) _).setCell (by simp) _).setCell (by simp) _).setCell (by simp) _)
    · cases hc : choiceOk choice
      · rw [hfm, hv, hp, hc]
        simp only [Bool.and_false, Bool.false_eq_true, if_false]
        rw [hp] at hpk
        rw [hc] at hck
        clear hfm hv hp hc zcase
        go_enter Try.func27, Try.ntmps27
        go_wp2_with fail
        refine hvm.mono ?_
        rintro e w1 ⟨rfl, hb1'⟩
        have hb1 : Below wb.heap.size wb w1 := by rw [HWB.out]; exact hb1'
        obtain ⟨⟨q0, q1, q2, q3⟩, ⟨r0, r1, r2, r3⟩, ⟨z0, z1, z2, z3⟩, N0, N1⟩ := HBOX.out w1 hb1
        have HB1 : Hid (Below w.heap.size w w1) := HBB.out.trans (hb1.mono (by have := HZ.out; omega))
        clear hb1' hb1 hvm
        go_wp2_with (first | (go_at_call 62; refine (hpk _).mono ?_; rintro e wE ⟨rfl, hwE⟩; obtain rfl := hwE.symm) | (go_at_call 75; refine (hck _).mono ?_; rintro e wE ⟨rfl, hwE⟩; obtain rfl := hwE.symm))
        refine bodyPost_ret (v := .agg #[.slice none 0 0, .slice none 0 0, .slice none 0 0, .slice none 0 0]) (by simp [results, Try.results27, go_sem, r0, r1, r2, r3]) rfl ⟨zS, rfl, zM_row _ _, zM_apart, ?_⟩
        exact ((((HB1.out.setCell (by simp) _).setCell (by simp) _).setCell (by simp) _).setCell (by simp) _)
      · have e1 : fillM M page choice = (walkM M page choice).1 := by rw [hfm, hv, hp, hc]; rfl
        rw [e1]
        have hok := WOk.of hk hv
        have hpp : 0 ≤ page ∧ page < 4096 := by simpa [pageOk] using hp
        have hcc : 0 ≤ choice ∧ choice ≤ 65535 := by simpa [choiceOk] using hc
        have hst := startM_ok hv page choice
        have hok' := walkM_ok hok page choice
        rw [hp] at hpk
        rw [hc] at hck
        have HV : Hid (validB M = true) := hv
        have HOK : Hid (WOk M) := hok
        have HOP : Hid (∀ wX, Below wb.heap.size wb wX → Calls Try.prog 76 #[.agg #[.slice s.a1 M.mem.length s.c1, .slice s.a2 M.pend.length s.c2, .slice s.a3 M.tlb.length s.c3, .slice s.a4 M.wc.length s.c4]] wX fun r w' => ∃ gu u, r = .returned (.pointer (some ⟨gu, 0, none⟩)) ∧ wX.heap.size ≤ gu ∧ UM w' gu wX.heap.size wX.heap.size true u M ∧ (∀ k, u.o1 = some k → u.o3 ≠ some k) ∧ Below wX.heap.size wX w') := fun wX hX => open_any s M b wX hok (fun i hi => valid_pend hv i hi) (HM.out wX hX)
        have HWK : Hid (∀ (gu b0 : Nat) (u : UV) (wX : World), b0 ≤ wX.heap.size → UM wX gu b0 b0 true u M → Calls Try.prog 63 #[.pointer (some ⟨gu, 0, none⟩), .int .i64 page, .int .i64 choice] wX fun r w' => r = .returned (hitV (walkM M page choice).2) ∧ ∃ u', UStep wX w' gu b0 b0 true u u' (walkM M page choice).1) := fun gu b0 u wX hb hu =>
          walk_any gu b0 b0 true u M page choice wX hpp.1 hpp.2 hcc.1 hcc.2 hok hb (fun i hi => by
            have h1 := valid_wc hv i hi
            unfold wcOkB at h1
            simp only [Bool.and_eq_true, Bool.or_eq_true, decide_eq_true_eq] at h1
            have h2 : 0 ≤ (eAt eWc M.wc i).page ∧ (eAt eWc M.wc i).page < 4096 := by simpa [pageOk] using h1.1.1.1.2
            exact ⟨h1.1.1.1.1, h2.1, h2.2, h1.1.1.2⟩) hst (.inl rfl) (fun _ i hi => (valid_pend hv i hi).1) hu
        have hcl0 := fun (gu b0 : Nat) (u : UV) (wX : World) (hu : UM wX gu b0 b0 true u (walkM M page choice).1) => close_any gu b0 b0 true u (walkM M page choice).1 wX hok'.small hu
        have HCL : Hid _ := hcl0
        clear hcl0
        generalize walkM M page choice = R at *
        clear hfm hv hp hc zcase hst hok' e1 hok
        go_enter Try.func27, Try.ntmps27
        go_wp2_with fail
        refine hvm.mono ?_
        rintro e w1 ⟨rfl, hb1'⟩
        have hb1 : Below wb.heap.size wb w1 := by rw [HWB.out]; exact hb1'
        obtain ⟨⟨q0, q1, q2, q3⟩, ⟨r0, r1, r2, r3⟩, ⟨z0, z1, z2, z3⟩, N0, N1⟩ := HBOX.out w1 hb1
        have HB1 : Hid (Below wb.heap.size wb w1) := hb1
        clear hb1' hb1 hvm
        go_wp2_with (first | (go_at_call 62; refine (hpk _).mono ?_; rintro e wE ⟨rfl, hwE⟩; obtain rfl := hwE.symm) | (go_at_call 75; refine (hck _).mono ?_; rintro e wE ⟨rfl, hwE⟩; obtain rfl := hwE.symm))
        refine (HOP.out _ HB1.out).mono ?_
        rintro e w2 ⟨gu, u, rfl, hgu, hum, hap, hb2⟩
        have hwk := HWK.out gu w1.heap.size u w2 hb2.size hum
        have HUM : Hid (UM w2 gu w1.heap.size w1.heap.size true u M) := hum
        have HAP : Hid (∀ k, u.o1 = some k → u.o3 ≠ some k) := hap
        have HB2 : Hid (Below w1.heap.size w1 w2) := hb2
        have HGU : Hid (w1.heap.size ≤ gu) := hgu
        clear hum hap hb2 hgu q0 q1 q2 q3 r0 r1 r2 r3 z0 z1 z2 z3
        go_wp2_with fail
        refine hwk.mono ?_
        rintro e w3 ⟨rfl, u', hst⟩
        have hcl := HCL.out gu w1.heap.size u' w3 hst.um
        have HST : Hid (UStep w2 w3 gu w1.heap.size w1.heap.size true u u' R.1) := hst
        clear hst hwk
        go_wp2_with fail
        refine hcl.mono ?_
        rintro e w4 ⟨a3, c3, a4, c4, rfl, ht4, hc4, hap4, hb4⟩
        have b3 : Below w1.heap.size w1 w3 := Touch.below HB2.out HST.out.tch HB2.out.size (fun k hk => by
          rcases hk with hk | hk | hk
          · have := HGU.out; omega
          · exact (HUM.out.t.ownA k hk).1
          · exact (HUM.out.c.ownA k hk).1)
        have b4 : Below w1.heap.size w1 w4 := b3.trans (hb4.mono b3.size)
        have b4b : Below wb.heap.size wb w4 := HB1.out.trans (b4.mono HB1.out.size)
        obtain ⟨_, ⟨r0, r1, r2, r3⟩, ⟨z0, z1, z2, z3⟩, N0', N1'⟩ := HBOX.out w4 b4b
        obtain ⟨S', hS'⟩ : ∃ S' : SV, S' = ⟨u'.a1, u'.c1, u'.a3, u'.c3, a3, c3, a4, c4⟩ := ⟨_, rfl⟩
        have hrow : MRow w4 w1.heap.size (S'.mv R.1) R.1 := by
          rw [hS']
          exact ⟨HST.out.um.w.below hb4, HST.out.um.p.below hb4, ht4.rebase b3.size, hc4.rebase b3.size⟩
        have hapt : (S'.mv R.1).apart := by
          rw [hS']
          intro k
          have o1 := fun h => (HST.out.um.w.ownA k h).2
          have o3 := fun h => (HST.out.um.p.ownA k h).2
          have ot := fun h => (ht4.ownA k h).1
          have oc := fun h => (hc4.ownA k h).1
          have x13 : oOf u'.a1 = some k → oOf u'.a3 ≠ some k := fun h1 h3 => HAP.out k (by rw [← HST.out.s1]; exact h1) (by rw [← HST.out.s3]; exact h3)
          simp only [SV.mv, own_slice]
          refine ⟨fun h => ⟨x13 h, fun h' => ?_, fun h' => ?_⟩, fun h => ⟨fun h' => ?_, fun h' => ?_⟩, fun h h' => hap4 k h h'⟩
          · have := o1 h; have := ot h'; omega
          · have := o1 h; have := oc h'; omega
          · have := o3 h; have := ot h'; omega
          · have := o3 h; have := oc h'; omega
        have HROW : Hid (MRow w4 w1.heap.size (S'.mv R.1) R.1) := hrow
        have HAPT : Hid ((S'.mv R.1).apart) := hapt
        have HB4 : Hid (Below wb.heap.size wb w4) := b4b
        have HS' : Hid (S' = _) := hS'
        clear ht4 hc4 hap4 hb4 b3 b4 b4b hrow hapt hcl hS'
        go_wp2_with fail
        obtain ⟨wF, hwF⟩ : ∃ wF, wF = (((w4.setCell ⟨w.heap.size + 1, 0, none⟩ (.slice u'.a1 R.1.mem.length u'.c1)).setCell ⟨w.heap.size + 1, 1, none⟩ (.slice u'.a3 R.1.pend.length u'.c3)).setCell ⟨w.heap.size + 1, 2, none⟩ (.slice a3 R.1.tlb.length c3)).setCell ⟨w.heap.size + 1, 3, none⟩ (.slice a4 R.1.wc.length c4) := ⟨_, rfl⟩
        rw [← hwF]
        have hTF : Touch (fun k => k = w.heap.size + 1) w4 wF := by
          rw [hwF]
          refine ⟨rfl, rfl, rfl, by simp, fun k hk hn => ?_⟩
          have n1 : k ≠ w.heap.size + 1 := hn
          rw [Below.heap_setCell _ _ _ _ (by exact n1), Below.heap_setCell _ _ _ _ (by exact n1), Below.heap_setCell _ _ _ _ (by exact n1), Below.heap_setCell _ _ _ _ (by exact n1)]
        have f0 : wF.cell? ⟨w.heap.size + 1, 0, none⟩ = some (.slice u'.a1 R.1.mem.length u'.c1) := by rw [hwF]; simp [go_sem, r0]
        have f1 : wF.cell? ⟨w.heap.size + 1, 1, none⟩ = some (.slice u'.a3 R.1.pend.length u'.c3) := by rw [hwF]; simp [go_sem, r1]
        have f2 : wF.cell? ⟨w.heap.size + 1, 2, none⟩ = some (.slice a3 R.1.tlb.length c3) := by rw [hwF]; simp [go_sem, r2]
        have f3 : wF.cell? ⟨w.heap.size + 1, 3, none⟩ = some (.slice a4 R.1.wc.length c4) := by rw [hwF]; simp [go_sem, r3]
        refine bodyPost_ret (v := .agg #[.slice u'.a1 R.1.mem.length u'.c1, .slice u'.a3 R.1.pend.length u'.c3, .slice a3 R.1.tlb.length c3, .slice a4 R.1.wc.length c4]) (by simp [results, Try.results27, go_sem, f0, f1, f2, f3]) rfl ⟨S', by rw [HS'.out], ?_, HAPT.out, ?_⟩
        · refine MRow.rebase (base := w1.heap.size) (HROW.out.touch hTF (fun k hk hh => ?_)) (by omega)
          have := (HROW.out.own k hk).1
          omega
        · exact Touch.below (HBB.out.trans (HB4.out.mono (by have := HZ.out; omega))) hTF (by omega) (fun k hk => by omega)
end Go.Proofs.Ytnmhkgmmpkjjeab
