import Derived.Test.YtnmhkgmmpkjjeabUValid
import Derived.Test.YtnmhkgmmpkjjeabUOpen
import Derived.Test.YtnmhkgmmpkjjeabUClose
import Derived.Test.YtnmhkgmmpkjjeabUDel
namespace Go.Proofs.Ytnmhkgmmpkjjeab
open Go.ChangeShapes Go.WideShapes Go.ChangeAt Go.RowKit
set_option linter.unusedVariables false
attribute [local go_sem ↓] Go.wp_at_zero Go.wp_at_succ

set_option maxHeartbeats 2000000 in
theorem implDrop_any (s : SV) (M : Mach) (b : Nat) (which i : Int) (w : World) (hk : MOk M) (hs : M.Small) (h : MRow w b (s.mv M) M) :
    Calls Try.prog 32 #[.agg #[.slice s.a1 M.mem.length s.c1, .slice s.a2 M.pend.length s.c2, .slice s.a3 M.tlb.length s.c3, .slice s.a4 M.wc.length s.c4], .int .i64 which, .int .i64 i] w fun e w' => ∃ s' : SV, e = .returned (.agg #[.slice s'.a1 (dropM M which i).mem.length s'.c1, .slice s'.a2 (dropM M which i).pend.length s'.c2, .slice s'.a3 (dropM M which i).tlb.length s'.c3, .slice s'.a4 (dropM M which i).wc.length s'.c4]) ∧ MRow w' w.heap.size (s'.mv (dropM M which i)) (dropM M which i) ∧ (s'.mv (dropM M which i)).apart ∧ Below w.heap.size w w' := by
  obtain ⟨wb, hwb⟩ : ∃ wb, wb = (w.alloc (.cells #[.slice s.a1 M.mem.length s.c1, .slice s.a2 M.pend.length s.c2, .slice s.a3 M.tlb.length s.c3, .slice s.a4 M.wc.length s.c4] 51)).alloc (.cells #[.slice none 0 0, .slice none 0 0, .slice none 0 0, .slice none 0 0] 51) := ⟨_, rfl⟩
  have hbb : Below w.heap.size w wb := by rw [hwb]; exact ((Below.refl _ _).alloc (Nat.le_refl _) _).alloc (by simp) _
  have hzb : wb.heap.size = w.heap.size + 2 := by rw [hwb]; simp
  have HBOX : Hid (∀ wX, Below wb.heap.size wb wX → (wX.cell? ⟨w.heap.size, 0, none⟩ = some (.slice s.a1 M.mem.length s.c1) ∧ wX.cell? ⟨w.heap.size, 1, none⟩ = some (.slice s.a2 M.pend.length s.c2) ∧ wX.cell? ⟨w.heap.size, 2, none⟩ = some (.slice s.a3 M.tlb.length s.c3) ∧ wX.cell? ⟨w.heap.size, 3, none⟩ = some (.slice s.a4 M.wc.length s.c4)) ∧ (wX.cell? ⟨w.heap.size + 1, 0, none⟩ = some (.slice none 0 0) ∧ wX.cell? ⟨w.heap.size + 1, 1, none⟩ = some (.slice none 0 0) ∧ wX.cell? ⟨w.heap.size + 1, 2, none⟩ = some (.slice none 0 0) ∧ wX.cell? ⟨w.heap.size + 1, 3, none⟩ = some (.slice none 0 0)) ∧ (wX.frozen? ⟨w.heap.size + 1, 0, none⟩ = false ∧ wX.frozen? ⟨w.heap.size + 1, 1, none⟩ = false ∧ wX.frozen? ⟨w.heap.size + 1, 2, none⟩ = false ∧ wX.frozen? ⟨w.heap.size + 1, 3, none⟩ = false) ∧ w.heap.size < wX.heap.size ∧ w.heap.size + 1 < wX.heap.size) := fun wX hX => by
    have hsz := hX.size
    refine ⟨⟨?_, ?_, ?_, ?_⟩, ⟨?_, ?_, ?_, ?_⟩, ⟨?_, ?_, ?_, ?_⟩, by omega, by omega⟩
    iterate 8 (exact (hX.cell (by simp; omega)).trans (by rw [hwb]; simp [go_sem]))
    iterate 4 (exact (hX.frozen (by simp; omega)).trans (by rw [hwb]; simp [go_sem]))
  have HWB : Hid (wb = _) := hwb
  have HBB : Hid (Below _ w wb) := hbb
  have HZ : Hid (wb.heap.size = w.heap.size + 2) := hzb
  have hvm := validM_any s M b wb hs (h.below hbb)
  rw [hwb] at hvm
  have HM : Hid (∀ wX, Below wb.heap.size wb wX → MRow wX b (s.mv M) M) := fun wX hX => h.below (hbb.trans (hX.mono (by omega)))
  clear hwb hbb hzb h
  have hfm : dropM M which i = if validB M then ⟨M.mem, M.pend, keepTo eTlb (decide (which = 0)) i M.tlb M.tlb.length, keepTo eWc (decide (which = 1)) i M.wc M.wc.length⟩ else zM := rfl
  have hsm := dropM_small hs which i
  cases hv : validB M
  · rw [hfm, hv]
    simp only [Bool.false_eq_true, if_false]
    rw [hv] at hvm
    clear hfm hv hsm
    go_enter Try.func32, Try.ntmps32
    go_wp2_with fail
    refine hvm.mono ?_
    rintro e w1 ⟨rfl, hb1'⟩
    have hb1 : Below wb.heap.size wb w1 := by rw [HWB.out]; exact hb1'
    obtain ⟨⟨q0, q1, q2, q3⟩, ⟨r0, r1, r2, r3⟩, ⟨z0, z1, z2, z3⟩, N0, N1⟩ := HBOX.out w1 hb1
    have HB1 : Hid (Below w.heap.size w w1) := HBB.out.trans (hb1.mono (by have := HZ.out; omega))
    clear hb1' hb1 hvm
    go_wp2_with fail
    refine bodyPost_ret (v := .agg #[.slice none 0 0, .slice none 0 0, .slice none 0 0, .slice none 0 0]) (by simp [results, Try.results32, go_sem, r0, r1, r2, r3]) rfl ⟨zS, rfl, zM_row _ _, zM_apart, ?_⟩
    exact ((((HB1.out.setCell (by simp) _).setCell (by simp) _).setCell (by simp) _).setCell (by simp) _)
  · rw [hv] at hvm
    have hok := WOk.of hk hv
    have hfm2 : dropM M which i = ⟨M.mem, M.pend, keepTo eTlb (decide (which = 0)) i M.tlb M.tlb.length, keepTo eWc (decide (which = 1)) i M.wc M.wc.length⟩ := by rw [hfm, hv]; rfl
    have HOP : Hid (∀ wX, Below wb.heap.size wb wX → Calls Try.prog 76 #[.agg #[.slice s.a1 M.mem.length s.c1, .slice s.a2 M.pend.length s.c2, .slice s.a3 M.tlb.length s.c3, .slice s.a4 M.wc.length s.c4]] wX fun r w' => ∃ gu u, r = .returned (.pointer (some ⟨gu, 0, none⟩)) ∧ wX.heap.size ≤ gu ∧ UM w' gu wX.heap.size wX.heap.size true u M ∧ (∀ k, u.o1 = some k → u.o3 ≠ some k) ∧ Below wX.heap.size wX w') := fun wX hX => open_any s M b wX hok (fun i hi => valid_pend hv i hi) (HM.out wX hX)
    obtain ⟨R, hR⟩ : ∃ R, R = dropM M which i := ⟨_, rfl⟩
    rw [← hR] at hfm2 hsm ⊢
    have hcl0 := fun (gu b0 : Nat) (u : UV) (wX : World) (hu : UM wX gu b0 b0 true u R) => close_any gu b0 b0 true u R wX hsm hu
    have HCL : Hid _ := hcl0
    have ht := hok.t
    have hc := hok.c
    have HT0 : Hid (which = 0 → R = ⟨M.mem, M.pend, keepTo eTlb true i M.tlb M.tlb.length, M.wc⟩) := fun e => by
      rw [hfm2, e]
      have h2 := keepTo_all eWc false i M.wc (.inl rfl)
      simp only [decide_true, show decide ((0 : Int) = 1) = false from rfl, h2]
    have HT1 : Hid (which = 1 → R = ⟨M.mem, M.pend, M.tlb, keepTo eWc true i M.wc M.wc.length⟩) := fun e => by
      rw [hfm2, e]
      have h2 := keepTo_all eTlb false i M.tlb (.inl rfl)
      simp only [decide_true, show decide ((1 : Int) = 0) = false from rfl, h2]
    have HT2 : Hid (¬ which = 0 → ¬ which = 1 → R = M) := fun e0 e1 => by
      rw [hfm2]
      have h1 := keepTo_all eTlb false i M.tlb (.inl rfl)
      have h2 := keepTo_all eWc false i M.wc (.inl rfl)
      simp only [e0, e1, decide_false, h1, h2]
    clear hcl0 hfm hfm2 hR hv hok hsm
    go_enter Try.func32, Try.ntmps32
    go_wp2_with fail
    refine hvm.mono ?_
    rintro e w1 ⟨rfl, hb1'⟩
    have hb1 : Below wb.heap.size wb w1 := by rw [HWB.out]; exact hb1'
    obtain ⟨⟨q0, q1, q2, q3⟩, ⟨r0, r1, r2, r3⟩, ⟨z0, z1, z2, z3⟩, N0, N1⟩ := HBOX.out w1 hb1
    have HB1 : Hid (Below wb.heap.size wb w1) := hb1
    clear hb1' hb1 hvm
    go_wp2_with fail
    refine (HOP.out _ HB1.out).mono ?_
    rintro e w2 ⟨gu, u, rfl, hgu, hum, hap, hb2⟩
    have HUM : Hid (UM w2 gu w1.heap.size w1.heap.size true u M) := hum
    have HAP : Hid (∀ k, u.o1 = some k → u.o3 ≠ some k) := hap
    have HB2 : Hid (Below w1.heap.size w1 w2) := hb2
    have HGU : Hid (w1.heap.size ≤ gu) := hgu
    clear hum hap hb2 hgu q0 q1 q2 q3 r0 r1 r2 r3 z0 z1 z2 z3
    have HEND : Hid (∀ (w3 : World) (u' : UV), UStep w2 w3 gu w1.heap.size w1.heap.size true u u' R → ∀ (w4 : World) (a3 : Option Addr) (c3 : Nat) (a4 : Option Addr) (c4 : Nat), ERow eTlb w4 w3.heap.size (.slice a3 R.tlb.length c3) R.tlb → ERow eWc w4 w3.heap.size (.slice a4 R.wc.length c4) R.wc → (∀ k, oOf a3 = some k → oOf a4 ≠ some k) → Below w3.heap.size w3 w4 → Below wb.heap.size wb w4 ∧ ∀ wF, Touch (fun k => k = w.heap.size + 1) w4 wF → ∃ s' : SV, Ending.returned (.agg #[.slice u'.a1 R.mem.length u'.c1, .slice u'.a3 R.pend.length u'.c3, .slice a3 R.tlb.length c3, .slice a4 R.wc.length c4]) = .returned (.agg #[.slice s'.a1 R.mem.length s'.c1, .slice s'.a2 R.pend.length s'.c2, .slice s'.a3 R.tlb.length s'.c3, .slice s'.a4 R.wc.length s'.c4]) ∧ MRow wF w.heap.size (s'.mv R) R ∧ (s'.mv R).apart ∧ Below w.heap.size w wF) := by
      intro w3 u' hst w4 a3 c3 a4 c4 ht4 hc4 hap4 hb4
      have b3 : Below w1.heap.size w1 w3 := Touch.below HB2.out hst.tch HB2.out.size (fun k hk => by
        rcases hk with hk | hk | hk
        · have := HGU.out; omega
        · exact (HUM.out.t.ownA k hk).1
        · exact (HUM.out.c.ownA k hk).1)
      have b4 : Below w1.heap.size w1 w4 := b3.trans (hb4.mono b3.size)
      have b4b : Below wb.heap.size wb w4 := HB1.out.trans (b4.mono HB1.out.size)
      have hs1 := HB1.out.size
      have hz := HZ.out
      refine ⟨b4b, fun wF hTF => ⟨⟨u'.a1, u'.c1, u'.a3, u'.c3, a3, c3, a4, c4⟩, rfl, ?_, ?_, ?_⟩⟩
      · have hrow : MRow w4 w1.heap.size ((⟨u'.a1, u'.c1, u'.a3, u'.c3, a3, c3, a4, c4⟩ : SV).mv R) R := ⟨hst.um.w.below hb4, hst.um.p.below hb4, ht4.rebase b3.size, hc4.rebase b3.size⟩
        refine MRow.rebase (base := w1.heap.size) (hrow.touch hTF (fun k hk hh => ?_)) (by omega)
        have := (hrow.own k hk).1
        omega
      · intro k
        have o1 := fun h => (hst.um.w.ownA k h).2
        have o3 := fun h => (hst.um.p.ownA k h).2
        have ot := fun h => (ht4.ownA k h).1
        have oc := fun h => (hc4.ownA k h).1
        have x13 : oOf u'.a1 = some k → oOf u'.a3 ≠ some k := fun h1 h3 => HAP.out k (by rw [← hst.s1]; exact h1) (by rw [← hst.s3]; exact h3)
        simp only [SV.mv, own_slice]
        refine ⟨fun h => ⟨x13 h, fun h' => ?_, fun h' => ?_⟩, fun h => ⟨fun h' => ?_, fun h' => ?_⟩, fun h h' => hap4 k h h'⟩
        · have := o1 h; have := ot h'; omega
        · have := o1 h; have := oc h'; omega
        · have := o3 h; have := ot h'; omega
        · have := o3 h; have := oc h'; omega
      · exact Touch.below (HBB.out.trans (b4b.mono (by omega))) hTF (by have := b4b.size; omega) (fun k hk => by omega)
    by_cases h0 : which = 0
    · have hd := dropT_any gu w1.heap.size w1.heap.size true u M i w2 ht HUM.out
      rw [← HT0.out h0] at hd
      have k0 : (which == 0) = true := by simpa using h0
      clear h0
      go_wp2_with fail
      refine hd.mono ?_
      rintro e w3 ⟨rfl, u', hst⟩
      clear hd
      have hcl := HCL.out gu w1.heap.size u' w3 hst.um
      have HST : Hid (UStep w2 w3 gu w1.heap.size w1.heap.size true u u' R) := hst
      clear hst
      go_wp2_with fail
      refine hcl.mono ?_
      rintro e w4 ⟨a3, c3, a4, c4, rfl, ht4, hc4, hap4, hb4⟩
      obtain ⟨b4b, hfin⟩ := HEND.out w3 u' HST.out w4 a3 c3 a4 c4 ht4 hc4 hap4 hb4
      obtain ⟨_, ⟨r0, r1, r2, r3⟩, ⟨z0, z1, z2, z3⟩, N0', N1'⟩ := HBOX.out w4 b4b
      have HFIN : Hid _ := hfin
      clear ht4 hc4 hap4 hb4 b4b hfin hcl
      go_wp2_with fail
      obtain ⟨wF, hwF⟩ : ∃ wF, wF = (((w4.setCell ⟨w.heap.size + 1, 0, none⟩ (.slice u'.a1 R.mem.length u'.c1)).setCell ⟨w.heap.size + 1, 1, none⟩ (.slice u'.a3 R.pend.length u'.c3)).setCell ⟨w.heap.size + 1, 2, none⟩ (.slice a3 R.tlb.length c3)).setCell ⟨w.heap.size + 1, 3, none⟩ (.slice a4 R.wc.length c4) := ⟨_, rfl⟩
      rw [← hwF]
      have hTF : Touch (fun k => k = w.heap.size + 1) w4 wF := by
        rw [hwF]
        exact Touch.put (Touch.put (Touch.put (Touch.put (Touch.none w4) _ _ (by rfl)) _ _ (by rfl)) _ _ (by rfl)) _ _ (by rfl)
      have f0 : wF.cell? ⟨w.heap.size + 1, 0, none⟩ = some (.slice u'.a1 R.mem.length u'.c1) := by rw [hwF]; simp [go_sem, r0]
      have f1 : wF.cell? ⟨w.heap.size + 1, 1, none⟩ = some (.slice u'.a3 R.pend.length u'.c3) := by rw [hwF]; simp [go_sem, r1]
      have f2 : wF.cell? ⟨w.heap.size + 1, 2, none⟩ = some (.slice a3 R.tlb.length c3) := by rw [hwF]; simp [go_sem, r2]
      have f3 : wF.cell? ⟨w.heap.size + 1, 3, none⟩ = some (.slice a4 R.wc.length c4) := by rw [hwF]; simp [go_sem, r3]
      exact bodyPost_ret (v := .agg #[.slice u'.a1 R.mem.length u'.c1, .slice u'.a3 R.pend.length u'.c3, .slice a3 R.tlb.length c3, .slice a4 R.wc.length c4]) (by simp [results, Try.results32, go_sem, f0, f1, f2, f3]) rfl (HFIN.out wF hTF)
    · by_cases h1 : which = 1
      · have hd := dropW_any gu w1.heap.size w1.heap.size true u M i w2 hc HUM.out
        rw [← HT1.out h1] at hd
        have k0 : (which == 0) = false := by simpa using h0
        have k1 : (which == 1) = true := by simpa using h1
        clear h0 h1
        go_wp2_with fail
        refine hd.mono ?_
        rintro e w3 ⟨rfl, u', hst⟩
        clear hd
        have hcl := HCL.out gu w1.heap.size u' w3 hst.um
        have HST : Hid (UStep w2 w3 gu w1.heap.size w1.heap.size true u u' R) := hst
        clear hst
        go_wp2_with fail
        refine hcl.mono ?_
        rintro e w4 ⟨a3, c3, a4, c4, rfl, ht4, hc4, hap4, hb4⟩
        obtain ⟨b4b, hfin⟩ := HEND.out w3 u' HST.out w4 a3 c3 a4 c4 ht4 hc4 hap4 hb4
        obtain ⟨_, ⟨r0, r1, r2, r3⟩, ⟨z0, z1, z2, z3⟩, N0', N1'⟩ := HBOX.out w4 b4b
        have HFIN : Hid _ := hfin
        clear ht4 hc4 hap4 hb4 b4b hfin hcl
        go_wp2_with fail
        obtain ⟨wF, hwF⟩ : ∃ wF, wF = (((w4.setCell ⟨w.heap.size + 1, 0, none⟩ (.slice u'.a1 R.mem.length u'.c1)).setCell ⟨w.heap.size + 1, 1, none⟩ (.slice u'.a3 R.pend.length u'.c3)).setCell ⟨w.heap.size + 1, 2, none⟩ (.slice a3 R.tlb.length c3)).setCell ⟨w.heap.size + 1, 3, none⟩ (.slice a4 R.wc.length c4) := ⟨_, rfl⟩
        rw [← hwF]
        have hTF : Touch (fun k => k = w.heap.size + 1) w4 wF := by
          rw [hwF]
          exact Touch.put (Touch.put (Touch.put (Touch.put (Touch.none w4) _ _ (by rfl)) _ _ (by rfl)) _ _ (by rfl)) _ _ (by rfl)
        have f0 : wF.cell? ⟨w.heap.size + 1, 0, none⟩ = some (.slice u'.a1 R.mem.length u'.c1) := by rw [hwF]; simp [go_sem, r0]
        have f1 : wF.cell? ⟨w.heap.size + 1, 1, none⟩ = some (.slice u'.a3 R.pend.length u'.c3) := by rw [hwF]; simp [go_sem, r1]
        have f2 : wF.cell? ⟨w.heap.size + 1, 2, none⟩ = some (.slice a3 R.tlb.length c3) := by rw [hwF]; simp [go_sem, r2]
        have f3 : wF.cell? ⟨w.heap.size + 1, 3, none⟩ = some (.slice a4 R.wc.length c4) := by rw [hwF]; simp [go_sem, r3]
        exact bodyPost_ret (v := .agg #[.slice u'.a1 R.mem.length u'.c1, .slice u'.a3 R.pend.length u'.c3, .slice a3 R.tlb.length c3, .slice a4 R.wc.length c4]) (by simp [results, Try.results32, go_sem, f0, f1, f2, f3]) rfl (HFIN.out wF hTF)
      · have hd : UStep w2 w2 gu w1.heap.size w1.heap.size true u u M := UStep.refl HUM.out (Below.refl _ _)
        rw [← HT2.out h0 h1] at hd
        obtain ⟨u', hst⟩ : ∃ u', UStep w2 w2 gu w1.heap.size w1.heap.size true u u' R := ⟨u, hd⟩
        have k0 : (which == 0) = false := by simpa using h0
        have k1 : (which == 1) = false := by simpa using h1
        clear h0 h1 hd
        have hcl := HCL.out gu w1.heap.size u' w2 hst.um
        have HST : Hid (UStep w2 w2 gu w1.heap.size w1.heap.size true u u' R) := hst
        clear hst
        go_wp2_with fail
        refine hcl.mono ?_
        rintro e w4 ⟨a3, c3, a4, c4, rfl, ht4, hc4, hap4, hb4⟩
        obtain ⟨b4b, hfin⟩ := HEND.out w2 u' HST.out w4 a3 c3 a4 c4 ht4 hc4 hap4 hb4
        obtain ⟨_, ⟨r0, r1, r2, r3⟩, ⟨z0, z1, z2, z3⟩, N0', N1'⟩ := HBOX.out w4 b4b
        have HFIN : Hid _ := hfin
        clear ht4 hc4 hap4 hb4 b4b hfin hcl
        go_wp2_with fail
        obtain ⟨wF, hwF⟩ : ∃ wF, wF = (((w4.setCell ⟨w.heap.size + 1, 0, none⟩ (.slice u'.a1 R.mem.length u'.c1)).setCell ⟨w.heap.size + 1, 1, none⟩ (.slice u'.a3 R.pend.length u'.c3)).setCell ⟨w.heap.size + 1, 2, none⟩ (.slice a3 R.tlb.length c3)).setCell ⟨w.heap.size + 1, 3, none⟩ (.slice a4 R.wc.length c4) := ⟨_, rfl⟩
        rw [← hwF]
        have hTF : Touch (fun k => k = w.heap.size + 1) w4 wF := by
          rw [hwF]
          exact Touch.put (Touch.put (Touch.put (Touch.put (Touch.none w4) _ _ (by rfl)) _ _ (by rfl)) _ _ (by rfl)) _ _ (by rfl)
        have f0 : wF.cell? ⟨w.heap.size + 1, 0, none⟩ = some (.slice u'.a1 R.mem.length u'.c1) := by rw [hwF]; simp [go_sem, r0]
        have f1 : wF.cell? ⟨w.heap.size + 1, 1, none⟩ = some (.slice u'.a3 R.pend.length u'.c3) := by rw [hwF]; simp [go_sem, r1]
        have f2 : wF.cell? ⟨w.heap.size + 1, 2, none⟩ = some (.slice a3 R.tlb.length c3) := by rw [hwF]; simp [go_sem, r2]
        have f3 : wF.cell? ⟨w.heap.size + 1, 3, none⟩ = some (.slice a4 R.wc.length c4) := by rw [hwF]; simp [go_sem, r3]
        exact bodyPost_ret (v := .agg #[.slice u'.a1 R.mem.length u'.c1, .slice u'.a3 R.pend.length u'.c3, .slice a3 R.tlb.length c3, .slice a4 R.wc.length c4]) (by simp [results, Try.results32, go_sem, f0, f1, f2, f3]) rfl (HFIN.out wF hTF)
end Go.Proofs.Ytnmhkgmmpkjjeab
