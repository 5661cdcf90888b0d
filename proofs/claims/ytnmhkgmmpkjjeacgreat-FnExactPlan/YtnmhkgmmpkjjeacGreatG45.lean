import Derived.Test.YtnmhkgmmpkjjeacGreatG44
namespace Go.Proofs.YtnmhkgmmpkjjeacGreat
open Go.ChangeShapes Go.WideShapes Go.ChangeAt Go.RowKit
set_option linter.unusedVariables false
set_option maxRecDepth 100000
attribute [local go_sem ↓] Go.wp_at_zero Go.wp_at_succ

theorem eOp_void {w w' : World} (g : Nat) (h : w'.heap[g]? = some (.cells #[] 74)) (hg : w.heap.size ≤ g) : ERow eOp w' w.heap.size (.slice (some ⟨g, 0, none⟩) 0 0) [] :=
  ⟨by simp [ecells], .inr ⟨g, 0, #[], rfl, hg, h, Nat.le_refl _, Nat.zero_le _, by simp, by simp [ecells]⟩⟩
set_option maxHeartbeats 4000000 in
theorem specPlan_any (gz : Nat) (zs : List Int) (cz : Nat) (a : Option Addr) (cap b : Nat) (xs : List SpanE) (w : World) (hzl : zs.length ≤ 1048576) (hzr : ∀ i, 0 ≤ zs.getD i 0 ∧ zs.getD i 0 < 2 ^ 64) (hz : CRow w gz zs) (hn : xs.length ≤ 1048576) (hwf : ∀ i, i < xs.length → wfS (eAt eSpan xs i)) (h : ERow eSpan w b (.slice a xs.length cap) xs) :
    Calls Tryz.prog 8 #[.agg #[.slice (some ⟨gz, 0, none⟩) zs.length cz], .slice a xs.length cap] w fun e w' => PlanPost w (planF zs xs) e w' := by
  obtain ⟨wb, hwb⟩ : ∃ wb, wb = (w.alloc (.cells #[.slice (some ⟨gz, 0, none⟩) zs.length cz] 31)).alloc (.cells #[] 74) := ⟨_, rfl⟩
  have hbb : Below w.heap.size w wb := by rw [hwb]; exact ((Below.refl _ _).alloc (Nat.le_refl _) _).alloc (by simp) _
  have hzb : wb.heap.size = w.heap.size + 2 := by rw [hwb]; simp
  have hvo : wb.heap[w.heap.size + 1]? = some (.cells #[] 74) := by
    rw [hwb]
    have := heap_alloc_new (w.alloc (.cells #[.slice (some ⟨gz, 0, none⟩) zs.length cz] 31)) (.cells #[] 74)
    simpa using this
  have q0 : wb.cell? ⟨w.heap.size, 0, none⟩ = some (.slice (some ⟨gz, 0, none⟩) zs.length cz) := by rw [hwb]; simp [go_sem]
  have hpc := specPlaces_any gz zs cz hzl hzr wb (hz.below hbb hz.lt)
  unfold PlacesPost at hpc
  have HVS : Hid (∀ wX, Below wb.heap.size wb wX → Calls Tryz.prog 27 #[.slice a xs.length cap] wX fun e w' => e = .returned (.bool (vsB xs)) ∧ Below wX.heap.size wX w') := hidOf <| fun wX hX => specVS_any a cap b xs wX hn hwf (h.below (hbb.trans (hX.mono (by omega))))
  have HH : Hid (∀ wX, VS xs → Below wb.heap.size wb wX → Calls Tryz.prog 28 #[.slice a xs.length cap] wX fun e w' => ∃ g c, e = .returned (.slice (some ⟨g, 0, none⟩) 4096 c) ∧ ERow eHit w' wX.heap.size (.slice (some ⟨g, 0, none⟩) 4096 c) (hitsTo xs 4096) ∧ Below wX.heap.size wX w') := fun wX h1 hX => l5Hits_any a cap b xs wX hn h1 (h.below (hbb.trans (hX.mono (by omega))))
  have HWB : Hid (wb = _) := hwb
  have HBB : Hid (Below w.heap.size w wb) := hbb
  have HZB : Hid (wb.heap.size = w.heap.size + 2) := hzb
  have HQ0 : Hid (wb.cell? ⟨w.heap.size, 0, none⟩ = some (.slice (some ⟨gz, 0, none⟩) zs.length cz)) := q0
  have HEND : Hid (∀ k w', Below wb.heap.size wb w' → PlanPost w ([], k) (.returned (.tuple #[.slice (some ⟨w.heap.size + 1, 0, none⟩) 0 0, .int .i64 k])) w') := hidOf <| fun k w' hX => ⟨_, _, rfl, eOp_void (w.heap.size + 1) ((hX.block _ (by omega)).trans hvo) (by omega), hbb.trans (hX.mono (by omega))⟩
  have N0 : w.heap.size < wb.heap.size := by omega
  clear hwb hbb hzb q0 hvo
  by_cases hpt : ptree zs = true
  · by_cases hvb : vsB xs = true
    · by_cases hfr : nfr zs.length < ((wPre (lay xs) 256).length : Nat)
      · rw [hpt] at hpc
        rw [hvb] at HVS
        have hvs := VS.of_true hvb
        have hfrm := frames_any (some ⟨gz, 0, none⟩) zs.length cz (by omega)
        have hnf := ptree_nfr hpt
        have hn1 := (nfr_mul zs.length hnf).2
        obtain ⟨n, hnn⟩ : ∃ n : Nat, nfr zs.length = n := ⟨(nfr zs.length).toNat, by omega⟩
        rw [planF_3 hpt hvb hfr]
        have dN : decide ((n : Int) < ((wPre (lay xs) 256).length : Int)) = true := decide_eq_true (by omega)
        have dN2 : decide (n < (wPre (lay xs) 256).length) = true := decide_eq_true (by omega)
        have pN : n < (wPre (lay xs) 256).length := by omega
        rw [hnn] at hfrm
        clear hfr hn1 hnf hnn hpt hvb hzr hz h hwf
        go_enter Tryz.func8, Tryz.ntmps8
        go_wp2_with fail
        rw [← HWB.out]
        refine hpc.mono ?_
        rintro e w1 ⟨ap, cp, rfl, hrp, hb1⟩
        have hv := HVS.out w1 hb1
        have HB1 : Hid (Below wb.heap.size wb w1) := hb1
        clear hpc hrp hb1
        go_wp2_with fail
        refine hv.mono ?_
        rintro e w2 ⟨rfl, hb2⟩
        have b2 : Below wb.heap.size wb w2 := HB1.out.trans (hb2.mono HB1.out.size)
        have hh := HH.out w2 hvs b2
        have HB2 : Hid (Below wb.heap.size wb w2) := b2
        clear hv hb2 b2
        go_wp2_with fail
        refine hh.mono ?_
        rintro e w3 ⟨gh, ch, rfl, hrh, hb3⟩
        have b3 : Below wb.heap.size wb w3 := HB2.out.trans (hb3.mono HB2.out.size)
        have hwt := l5Wanted_any gh ch w2.heap.size (hitsTo xs 4096) w3 (hitsTo_len xs 4096) (by rw [hitsTo_len]; exact hrh)
        have HB3 : Hid (Below wb.heap.size wb w3) := b3
        have hly : hF (hitsTo xs 4096) = lay xs := rfl
        rw [hly] at hwt
        clear hh hrh hb3 b3 hly
        go_wp2_with fail
        refine hwt.mono ?_
        rintro e w4 ⟨gw, cw, rfl, hrw, hb4⟩
        have b4 : Below wb.heap.size wb w4 := HB3.out.trans (hb4.mono HB3.out.size)
        have m4 : w4.cell? ⟨w.heap.size, 0, none⟩ = some (.slice (some ⟨gz, 0, none⟩) zs.length cz) := (b4.cell (p := ⟨w.heap.size, 0, none⟩) N0).trans HQ0.out
        have HB4 : Hid (Below wb.heap.size wb w4) := b4
        have hf4 := hfrm w4
        clear hwt hrw hb4 b4
        go_wp2_with fail
        refine hf4.mono ?_
        rintro e w5 ⟨rfl, hb5⟩
        have hfin := HEND.out 3 w5 (HB4.out.trans (hb5.mono HB4.out.size))
        clear hf4 hb5
        go_wp2_with fail
        go_ret2
        exact hfin
      · rw [planF_0 hpt hvb hfr]
        exact specPlan_yes gz zs cz a cap b xs w hzl hzr hz hn hwf h hpt hvb hfr
    · have hvb' : vsB xs = false := by simpa using hvb
      rw [hpt] at hpc
      rw [planF_2 hpt hvb']
      rw [hvb'] at HVS
      clear hvb hvb' hpt hzr hz HH h hwf
      go_enter Tryz.func8, Tryz.ntmps8
      go_wp2_with fail
      rw [← HWB.out]
      refine hpc.mono ?_
      rintro e w1 ⟨ap, cp, rfl, hrp, hb1⟩
      have hv := HVS.out w1 hb1
      have HB1 : Hid (Below wb.heap.size wb w1) := hb1
      clear hpc hrp hb1
      go_wp2_with fail
      refine hv.mono ?_
      rintro e w2 ⟨rfl, hb2⟩
      have hfin := HEND.out 2 w2 (HB1.out.trans (hb2.mono HB1.out.size))
      clear hv hb2
      go_wp2_with fail
      go_ret2
      exact hfin
  · have hpt' : ptree zs = false := by simpa using hpt
    rw [planF_1 hpt']
    rw [hpt'] at hpc
    clear hpt hpt' hzr hz HH HVS h hwf
    go_enter Tryz.func8, Tryz.ntmps8
    go_wp2_with fail
    rw [← HWB.out]
    refine hpc.mono ?_
    rintro e w1 ⟨ap, cp, rfl, hrp, hb1⟩
    have hfin := HEND.out 1 w1 hb1
    clear hpc hrp hb1
    go_wp2_with fail
    go_ret2
    exact hfin
end Go.Proofs.YtnmhkgmmpkjjeacGreat
