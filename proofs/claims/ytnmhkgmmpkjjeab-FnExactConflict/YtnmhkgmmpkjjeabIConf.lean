import Derived.Test.YtnmhkgmmpkjjeabUValid
import Derived.Test.YtnmhkgmmpkjjeabUOpen
import Derived.Test.YtnmhkgmmpkjjeabUConf
namespace Go.Proofs.Ytnmhkgmmpkjjeab
open Go.ChangeShapes Go.WideShapes Go.ChangeAt Go.RowKit
set_option linter.unusedVariables false
attribute [local go_sem ↓] Go.wp_at_zero Go.wp_at_succ

set_option maxHeartbeats 1000000 in
theorem implConf_any (s : SV) (M : Mach) (b : Nat) (w : World) (hk : MOk M) (hs : M.Small) (h : MRow w b (s.mv M) M) :
    Calls Try.prog 34 #[.agg #[.slice s.a1 M.mem.length s.c1, .slice s.a2 M.pend.length s.c2, .slice s.a3 M.tlb.length s.c3, .slice s.a4 M.wc.length s.c4]] w fun e w' => e = .returned (.bool (confB M)) ∧ Below w.heap.size w w' := by
  obtain ⟨wb, hwb⟩ : ∃ wb, wb = w.alloc (.cells #[.slice s.a1 M.mem.length s.c1, .slice s.a2 M.pend.length s.c2, .slice s.a3 M.tlb.length s.c3, .slice s.a4 M.wc.length s.c4] 51) := ⟨_, rfl⟩
  have hbb : Below w.heap.size w wb := by rw [hwb]; exact (Below.refl _ _).alloc (Nat.le_refl _) _
  have hzb : wb.heap.size = w.heap.size + 1 := by rw [hwb]; simp
  have HBOX : Hid (∀ wX, Below wb.heap.size wb wX → wX.cell? ⟨w.heap.size, 0, none⟩ = some (.slice s.a1 M.mem.length s.c1) ∧ wX.cell? ⟨w.heap.size, 1, none⟩ = some (.slice s.a2 M.pend.length s.c2) ∧ wX.cell? ⟨w.heap.size, 2, none⟩ = some (.slice s.a3 M.tlb.length s.c3) ∧ wX.cell? ⟨w.heap.size, 3, none⟩ = some (.slice s.a4 M.wc.length s.c4)) := fun wX hX => by
    refine ⟨?_, ?_, ?_, ?_⟩
    iterate 4 (exact (hX.cell (by simp; omega)).trans (by rw [hwb]; simp [go_sem]))
  have HWB : Hid (wb = _) := hwb
  have HBB : Hid (Below _ w wb) := hbb
  have HZ : Hid (wb.heap.size = w.heap.size + 1) := hzb
  have hvm := validM_any s M b wb hs (h.below hbb)
  rw [hwb] at hvm
  have HM : Hid (∀ wX, Below wb.heap.size wb wX → MRow wX b (s.mv M) M) := fun wX hX => h.below (hbb.trans (hX.mono (by omega)))
  clear hwb hbb hzb h
  cases hv : validB M
  · have hc : confB M = false := by unfold confB; rw [hv]; rfl
    rw [hc]
    rw [hv] at hvm
    clear hc hv
    go_enter Try.func34, Try.ntmps34
    go_wp2_with fail
    refine hvm.mono ?_
    rintro e w1 ⟨rfl, hb1'⟩
    have hb1 : Below wb.heap.size wb w1 := by rw [HWB.out]; exact hb1'
    have HB1 : Hid (Below w.heap.size w w1) := HBB.out.trans (hb1.mono (by have := HZ.out; omega))
    clear hb1' hb1 hvm
    go_wp2_with fail
    go_ret
    exact ⟨rfl, HB1.out⟩
  · have hc : confB M = confT M := by unfold confB; rw [hv]; rfl
    rw [hc]
    rw [hv] at hvm
    have hok := WOk.of hk hv
    have HOP : Hid (∀ wX, Below wb.heap.size wb wX → Calls Try.prog 76 #[.agg #[.slice s.a1 M.mem.length s.c1, .slice s.a2 M.pend.length s.c2, .slice s.a3 M.tlb.length s.c3, .slice s.a4 M.wc.length s.c4]] wX fun r w' => ∃ gu u, r = .returned (.pointer (some ⟨gu, 0, none⟩)) ∧ wX.heap.size ≤ gu ∧ UM w' gu wX.heap.size wX.heap.size true u M ∧ (∀ k, u.o1 = some k → u.o3 ≠ some k) ∧ Below wX.heap.size wX w') := fun wX hX => open_any s M b wX hok (fun i hi => valid_pend hv i hi) (HM.out wX hX)
    have HCF : Hid (∀ (gu b0 : Nat) (u : UV) (wX : World), UM wX gu b0 b0 true u M → Calls Try.prog 92 #[.pointer (some ⟨gu, 0, none⟩)] wX fun r w' => r = .returned (.bool (confT M)) ∧ Below wX.heap.size wX w') := fun gu b0 u wX hu => conflict_any gu b0 b0 true u M wX hok.t (fun i hi => valid_trng hv i hi) hu
    generalize confT M = CC at *
    clear hc hv hok
    go_enter Try.func34, Try.ntmps34
    go_wp2_with fail
    refine hvm.mono ?_
    rintro e w1 ⟨rfl, hb1'⟩
    have hb1 : Below wb.heap.size wb w1 := by rw [HWB.out]; exact hb1'
    obtain ⟨q0, q1, q2, q3⟩ := HBOX.out w1 hb1
    have HB1 : Hid (Below wb.heap.size wb w1) := hb1
    clear hb1' hb1 hvm
    go_wp2_with fail
    refine (HOP.out _ HB1.out).mono ?_
    rintro e w2 ⟨gu, u, rfl, hgu, hum, hap, hb2⟩
    have hcf := HCF.out gu w1.heap.size u w2 hum
    have HB2 : Hid (Below wb.heap.size wb w2) := HB1.out.trans (hb2.mono HB1.out.size)
    clear hum hap hb2 hgu q0 q1 q2 q3
    go_wp2_with fail
    refine hcf.mono ?_
    rintro e w3 ⟨rfl, hb3⟩
    have HB3 : Hid (Below w.heap.size w w3) := HBB.out.trans ((HB2.out.trans (hb3.mono HB2.out.size)).mono (by have := HZ.out; omega))
    clear hcf hb3
    go_wp2_with fail
    go_ret
    exact ⟨by first | rfl | simp, HB3.out⟩
end Go.Proofs.Ytnmhkgmmpkjjeab
