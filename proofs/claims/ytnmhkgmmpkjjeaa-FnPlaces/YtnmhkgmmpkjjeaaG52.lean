import Derived.Test.YtnmhkgmmpkjjeaaG51
namespace Go.Proofs.Ytnmhkgmmpkjjeaa
open Go.ChangeShapes Go.WideShapes Go.ChangeAt Go.RowKit
set_option linter.unusedVariables false
set_option maxRecDepth 100000
attribute [local go_sem ↓] Go.wp_at_zero Go.wp_at_succ

theorem all_snoc (f : Nat → Bool) (k : Nat) : (List.range (k + 1)).all f = ((List.range k).all f && f k) := by
  simp [List.range_succ, List.all_append]

set_option maxHeartbeats 8000000 in
theorem fp_walk (a : Option Addr) (cap : Nat) (cs : List Int) (w : World) (hc : Byt cs) (hs : BAt w a cs) :
    Calls Try.prog 5 #[.slice a cs.length cap] w fun e w' => e = .returned (.bool true) ∧ Below w.heap.size w w' := by
  have hlen := hc.1
  have HDR : Hid (∀ wX, Below w.heap.size w wX → Calls Try.prog 9 #[.slice a cs.length cap] wX fun e w' => ∃ g c, e = .returned (.agg #[.slice (some ⟨g, 0, none⟩) (drawZ cs).length c]) ∧ ERow eWord w' wX.heap.size (.slice (some ⟨g, 0, none⟩) (drawZ cs).length c) (drawZ cs) ∧ Below wX.heap.size wX w') := fun wX hX => drawPlaces_any a cap cs wX hc (hs.below hX)
  obtain ⟨hwr, hzl⟩ := drawZ_ok cs hc
  generalize drawZ cs = zs at *
  have HSP : Hid (∀ g c wX, CRow wX g zs → Calls Try.prog 10 #[.agg #[.slice (some ⟨g, 0, none⟩) zs.length c]] wX fun e w' => PlacesPost zs wX e w') := fun g c wX h => specPlaces_any g zs c (by omega) hwr wX h
  have HIP : Hid (∀ g c wX, zs.length ≤ c → CRow wX g zs → Calls Try.prog 24 #[.agg #[.slice (some ⟨g, 0, none⟩) zs.length c]] wX fun e w' => PlacesPost zs wX e w') := fun g c wX h1 h => implPlaces_any g zs c (by omega) h1 hwr wX h
  have HWK : Hid (∀ g c b (page : Int) wX, ERow eWord wX b (.slice (some ⟨g, 0, none⟩) zs.length c) zs → Calls Try.prog 26 #[.agg #[.slice (some ⟨g, 0, none⟩) zs.length c], .int .i64 page] wX fun e w' => e = .returned (hitV (walkZ zs page)) ∧ Below wX.heap.size wX w') := fun g c b page wX h => implWalkE_any g c b zs page (by omega) hwr wX h
  have HWR : Hid (Wrd zs) := hwr
  have hpl := plist_length zs
  have H0 : Hid (nfr zs.length = 0 → plist zs = [] ∧ ptree zs = false) := hidP (fun h => ⟨by unfold plist; rw [if_pos h], by unfold ptree; simp [h]⟩)
  clear hc hs hwr
  unfold PlacesPost at HSP HIP
  go_enter Try.func5, Try.ntmps5
  go_wp2_with fail
  refine (HDR.out w (Below.refl _ _)).mono ?_
  rintro e w1 ⟨g1, c1, rfl, hr1, hb1⟩
  obtain ⟨wA, hwA⟩ : ∃ wA, wA = w1.alloc (.cells #[.slice (some ⟨g1, 0, none⟩) zs.length c1] 25) := ⟨_, rfl⟩
  have hbA : Below w.heap.size w wA := by rw [hwA]; exact hb1.alloc hb1.size _
  have hrA : ERow eWord wA w.heap.size (.slice (some ⟨g1, 0, none⟩) zs.length c1) zs := by rw [hwA]; exact hr1.below bal
  have cA : wA.cell? ⟨w1.heap.size, 0, none⟩ = some (.slice (some ⟨g1, 0, none⟩) zs.length c1) := by rw [hwA]; simp [go_sem]
  have sA : w1.heap.size < wA.heap.size := by rw [hwA]; simp
  have t2 := HDR.out wA hbA
  rw [hwA] at t2
  have HWA : Hid (wA = _) := hwA
  have HBA : Hid (Below w.heap.size w wA) := hbA
  have HRA : Hid (ERow _ _ _ _ _) := hrA
  have HCA : Hid (wA.cell? ⟨w1.heap.size, 0, none⟩ = some (.slice (some ⟨g1, 0, none⟩) zs.length c1)) := cA
  have z1 := hb1.size
  clear hr1 hb1 hwA hbA hrA cA HDR
  go_wp2_with fail
  refine t2.mono ?_
  rintro e w2 ⟨g2, c2, rfl, hr2', hb2'⟩
  have hr2 : ERow eWord w2 wA.heap.size (.slice (some ⟨g2, 0, none⟩) zs.length c2) zs := by rw [HWA.out]; exact hr2'
  have hb2 : Below wA.heap.size wA w2 := by rw [HWA.out]; exact hb2'
  have s2 := hb2.size
  obtain ⟨wB, hwB⟩ : ∃ wB, wB = w2.alloc (.cells #[.slice (some ⟨g2, 0, none⟩) zs.length c2] 25) := ⟨_, rfl⟩
  have hbB : Below wA.heap.size wA wB := by rw [hwB]; exact hb2.alloc s2 _
  have hrB : ERow eWord wB wA.heap.size (.slice (some ⟨g2, 0, none⟩) zs.length c2) zs := by rw [hwB]; exact hr2.below bal
  have cB : wB.cell? ⟨w2.heap.size, 0, none⟩ = some (.slice (some ⟨g2, 0, none⟩) zs.length c2) := by rw [hwB]; simp [go_sem]
  have sB : w2.heap.size < wB.heap.size := by rw [hwB]; simp
  have t3 := HSP.out g2 c2 wB hrB.crow
  have HBB : Hid (Below w.heap.size w wB) := HBA.out.trans (hbB.mono (by omega))
  have HKB : Hid (∀ wX, Below wB.heap.size wB wX → wX.cell? ⟨w1.heap.size, 0, none⟩ = some (.slice (some ⟨g1, 0, none⟩) zs.length c1) ∧ wX.cell? ⟨w2.heap.size, 0, none⟩ = some (.slice (some ⟨g2, 0, none⟩) zs.length c2) ∧ ERow eWord wX w.heap.size (.slice (some ⟨g1, 0, none⟩) zs.length c1) zs ∧ CRow wX g2 zs) := hidP (fun wX hX => by
    have hbX : Below wA.heap.size wA wX := hbB.trans (hX.mono (by omega))
    refine ⟨(hbX.cell (p := ⟨w1.heap.size, 0, none⟩) sA).trans HCA.out, (hX.cell (p := ⟨w2.heap.size, 0, none⟩) sB).trans cB, HRA.out.below hbX, ((hrB.below hX).crow)⟩)
  rw [hwB] at t3
  have HWB : Hid (wB = _) := hwB
  have HC1 : Hid (zs.length ≤ c1) := hidP (by
    rcases HRA.out.2 with ⟨e, _⟩ | ⟨g', cap', cur, e, _, _, hn', _⟩
    · cases e
    · simp only [Value.slice.injEq, true_and] at e
      omega)
  clear t2 hr2' hb2' hr2 hb2 hwB hbB hrB cB HSP HRA HCA HBA HWA
  go_wp2_with fail
  refine t3.mono ?_
  rintro e w3 ⟨a3, c3, rfl, hp3, hb3'⟩
  have hb3 : Below wB.heap.size wB w3 := by rw [HWB.out]; exact hb3'
  have s3 := hb3.size
  obtain ⟨x1, x2, x3, x4⟩ := HKB.out w3 hb3
  have t4 := HIP.out g1 c1 w3 HC1.out x3.crow
  have HB3 : Hid (Below wB.heap.size wB w3) := hb3
  clear t3 hp3 hb3' hb3 x2 x3 x4 HIP HWB HC1
  go_wp2_with fail
  refine t4.mono ?_
  rintro e w4 ⟨a4, c4, rfl, hp4, hb4'⟩
  have hb4 : Below wB.heap.size wB w4 := HB3.out.trans (hb4'.mono s3)
  have s4 := hb4.size
  have HK : Hid (∀ wX, Below w4.heap.size w4 wX → wX.cell? ⟨w1.heap.size, 0, none⟩ = some (.slice (some ⟨g1, 0, none⟩) zs.length c1) ∧ wX.cell? ⟨w2.heap.size, 0, none⟩ = some (.slice (some ⟨g2, 0, none⟩) zs.length c2) ∧ ERow eWord wX w.heap.size (.slice (some ⟨g1, 0, none⟩) zs.length c1) zs ∧ CRow wX g2 zs) := fun wX hX => HKB.out wX (hb4.trans (hX.mono s4))
  have HB4 : Hid (Below w.heap.size w w4) := HBB.out.trans (hb4.mono (by have := HBB.out.size; omega))
  have HP4 : Hid (PRow w4 w3.heap.size (.slice a4 (plist zs).length c4) (plist zs)) := hp4
  have N1 : w1.heap.size < w4.heap.size := by omega
  have N2 : w2.heap.size < w4.heap.size := by omega
  clear t4 hp4 hb4' hb4 x1 HKB HB3
  by_cases hn : nfr zs.length = 0
  · obtain ⟨e1, e2⟩ := H0.out hn
    rw [e1, e2]
    clear hn H0 HP4 e1 e2 HWK
    simp only [List.length_nil]
    go_wp2_with fail
    go_ret
    exact ⟨rfl, HB4.out⟩
  · have hm := nfr_mul zs.length hn
    have hnl := nfr_le zs.length
    have hpos : 0 < (plist zs).length := (psOk_plist zs ⟨hn, HWR.out⟩).pos
    have HTC : Hid (ptree zs = (cleanW zs 4096 && cleanF (plist zs) (plist zs).length)) := tree_clean zs hn
    have HCN : Hid (cntTo zs (nfr zs.length) 4096 = (plist zs).length) := cnt_all zs hn
    have HH1 : Hid (hasP (plist zs) 0 1 0 = true) := has1 zs hn
    have HH2 : Hid (∀ pg : Nat, pg < 4096 → pg % 256 = 0 → leadW (nfr zs.length) 1 (w1z zs pg) = true → hasP (plist zs) (dOut 1 (w1z zs pg)) 2 pg = true) := hidP (fun pg h1 h2 h3 => has2 zs hn pg h1 h2 h3)
    have HH3 : Hid (∀ pg : Nat, pg < 4096 → pg % 16 = 0 → leadW (nfr zs.length) 1 (w1z zs pg) = true → leadW (nfr zs.length) 2 (w2z zs pg) = true → hasP (plist zs) (dOut 2 (w2z zs pg)) 3 pg = true) := hidP (fun pg h1 h2 h3 h4 => has3 zs hn pg h1 h2 h3 h4)
    have HAS : Hid (∀ f l g wX, Below w4.heap.size w4 wX → Calls Try.prog 25 #[.slice a4 (plist zs).length c4, .int .i64 f, .int .i64 l, .int .i64 g] wX fun e w' => e = .returned (.bool (hasP (plist zs) f l g)) ∧ Below wX.heap.size wX w') := hidP (fun f l g wX hX => wHas_any a4 c4 _ (plist zs) f l g wX (by omega) (HP4.out.below hX))
    have HW1 : Hid (∀ pg : Nat, w1z zs pg = zs.getD (pg / 256) 0) := hidP (fun pg => by unfold w1z wordAt; congr 1; omega)
    have HW2 : Hid (∀ pg : Nat, w2z zs pg = zs.getD ((dOut 1 (w1z zs pg) * 16).toNat + pg / 16 % 16) 0) := hidP (fun pg => rfl)
    have HCS : Hid (∀ k, cntTo zs (nfr zs.length) (k + 1) = cntTo zs (nfr zs.length) k + addAt zs (nfr zs.length) k) := hidP (fun k => rfl)
    have HCL : Hid (∀ k, cntTo zs (nfr zs.length) k ≤ 1 + 2 * k) := hidP (cnt_le zs _)
    have HWS : Hid (∀ k, cleanW zs (k + 1) = (cleanW zs k && okW zs k)) := hidP (fun k => all_snoc _ k)
    have HFS : Hid (∀ k, cleanF (plist zs) (k + 1) = (cleanF (plist zs) k && freshP (plist zs) k)) := hidP (fun k => all_snoc _ k)
    obtain ⟨gp, hgp, hpc⟩ := plc_cells HP4.out
    obtain ⟨ea4, hgl4⟩ := hgp hpos
    subst ea4
    have HPC : Hid _ := hpc
    have hADD : ∀ k, addAt zs (nfr zs.length) k = if k % 16 = 0 ∧ leadW (nfr zs.length) 1 (w1z zs k) = true then (if k % 256 = 0 then 1 else 0) + (if leadW (nfr zs.length) 2 (w2z zs k) = true then 1 else 0) else 0 := fun k => rfl
    have HADD : Hid _ := hADD
    generalize ptree zs = tr at *
    generalize plist zs = ps at *
    generalize nfr zs.length = n at *
    obtain ⟨nn, rfl⟩ : ∃ nn : Nat, n = (nn : Int) := ⟨n.toNat, by omega⟩
    have EN : (zs.length : Int).tdiv 16 = (nn : Int) := by rw [Int.tdiv_eq_ediv_of_nonneg (by omega)]; omega
    have ENb : (zs.length : Int) / 16 = (nn : Int) := by omega
    have HM : Hid ((nn : Int) * 16 = (zs.length : Int)) := hm.1
    have hn1 : 1 ≤ nn := by omega
    have L0 : ((ps.length : Int) == 0) = false := beq_eq_false_iff_ne.2 (by omega)
    have t5 := HAS.out 0 1 0 w4 (Below.refl _ _)
    rw [HH1.out] at t5
    obtain ⟨x1, x2, -, -⟩ := HK.out w4 (Below.refl _ _)
    clear hgp hpc hn hm H0 hADD HH1
    go_wp2_with fail
    refine t5.mono ?_
    rintro e w5 ⟨rfl, hb5⟩
    clear x1 x2
    have HB5 : Hid (Below w4.heap.size w4 w5) := hb5
    have ec0 : cntTo zs (nn : Int) 0 = 1 := rfl
    clear t5 hb5
    go_wp2_with fail
    go_loopw [10, 11, 12] (fun cl ct pv wr => ∃ k : Nat, k ≤ 4096 ∧ pv = .int .i64 (k : Int) ∧ cl = .bool (cleanW zs k) ∧ ct = .int .i64 (cntTo zs (nn : Int) k : Int) ∧ Below w4.heap.size w4 wr) (fun _ _ pv _ => 4096 - (intOf pv).toNat)
    case atStart => exact ⟨0, by omega, rfl, rfl, rfl, HB5.out⟩
    case round =>
      obtain ⟨k, hk, rfl, rfl, rfl, hb⟩ := hrel
      have sr := hb.size
      have HCSk := HCS.out k
      have HCLk := HCL.out k
      have HWSk := HWS.out k
      have HADk := HADD.out k
      have HH2k := HH2.out k
      have HH3k := HH3.out k
      have HW1k := HW1.out k
      have HW2k := HW2.out k
      by_cases hlt : k < 4096
      · obtain ⟨x1, x2, x3, x4⟩ := HK.out wr hb
        have hwk := HWK.out g1 c1 _ (k : Int) wr x3
        have eOK : okW zs k = !decide ((walkZ zs (k : Int)).kind = 3) := rfl
        unfold hitV at hwk
        generalize (walkZ zs (k : Int)).kind = K at *
        generalize (walkZ zs (k : Int)).out = O at *
        generalize (walkZ zs (k : Int)).perm = P at *
        generalize (walkZ zs (k : Int)).size = Z at *
        have K1 : (k : Int) < 4096 := by omega
        have K0 : (0 : Int) ≤ (k : Int) := by omega
        obtain ⟨i1, hi1⟩ : ∃ i1, k / 256 = i1 := ⟨_, rfl⟩
        obtain ⟨q1, hq1⟩ : ∃ q1, k / 16 = q1 := ⟨_, rfl⟩
        obtain ⟨j1, hj1⟩ : ∃ j1, k / 16 % 16 = j1 := ⟨_, rfl⟩
        obtain ⟨r16, hr16⟩ : ∃ r16, k % 16 = r16 := ⟨_, rfl⟩
        obtain ⟨r256, hr256⟩ : ∃ r256, k % 256 = r256 := ⟨_, rfl⟩
        have E1 : (k : Int).tdiv 256 = (i1 : Int) := by rw [Int.tdiv_eq_ediv_of_nonneg (by omega)]; omega
        have E1b : (k : Int) / 256 = (i1 : Int) := by omega
        have E2 : (k : Int).tdiv 16 = (q1 : Int) := by rw [Int.tdiv_eq_ediv_of_nonneg (by omega)]; omega
        have E2b : (k : Int) / 16 = (q1 : Int) := by omega
        have E3 : (q1 : Int).tmod 16 = (j1 : Int) := by rw [Int.tmod_eq_emod_of_nonneg (by omega)]; omega
        have E3b : (q1 : Int) % 16 = (j1 : Int) := by omega
        have E4 : (k : Int).tmod 16 = (r16 : Int) := by rw [Int.tmod_eq_emod_of_nonneg (by omega)]; omega
        have E4b : (k : Int) % 16 = (r16 : Int) := by omega
        have E5 : (k : Int).tmod 256 = (r256 : Int) := by rw [Int.tmod_eq_emod_of_nonneg (by omega)]; omega
        have E5b : (k : Int) % 256 = (r256 : Int) := by omega
        have hi2 : i1 < 16 := by omega
        have hj2 : j1 < 16 := by omega
        rw [hi1] at HW1k
        rw [hj1] at HW2k
        rw [hr16, hr256] at HADk
        rw [hr256] at HH2k
        rw [hr16] at HH3k
        have HADK : Hid _ := HADk
        have HCSK : Hid _ := HCSk
        have HWSK : Hid _ := HWSk
        have HH2K : Hid _ := HH2k
        have HH3K : Hid _ := HH3k
        have HW1K : Hid _ := HW1k
        have HW2K : Hid _ := HW2k
        have EOK : Hid _ := eOK
        have HB : Hid (Below w4.heap.size w4 wr) := hb
        have hfl := run_field_hit
        clear HADk HCSk HWSk HH2k HH3k HW1k HW2k eOK hb x3 x4 hi1 hq1 hj1 hr16 hr256 x2
        obtain ⟨wo, hwo⟩ : ∃ wo, wo = wr := ⟨_, rfl⟩
        go_wp2_with fail
        refine hwk.mono ?_
        rintro e w6 ⟨rfl, hb6'⟩
        have hb6 : Below w4.heap.size w4 w6 := HB.out.trans (hb6'.mono sr)
        have HB6 : Hid (Below w4.heap.size w4 w6) := hb6
        clear hwk hb6' hb6 x1 hwo
        go_upto_if 59 with fail
        go_cut [10] (fun c wz => c = .bool (cleanW zs (k + 1)) ∧ wz = w6)
        case first =>
          by_cases h3 : K = 3
          · subst h3
            have HV : Hid (cleanW zs (k + 1) = false) := hidP (by rw [HWSK.out, EOK.out]; simp)
            go_wp2_with fail
            go_meet
            case rel => exact ⟨by rw [HV.out], rfl⟩
          · have h3b : (K == 3) = false := by simpa using h3
            have HV : Hid (cleanW zs (k + 1) = cleanW zs k) := hidP (by rw [HWSK.out, EOK.out]; simp [h3])
            go_wp2_with fail
            go_meet
            case rel => exact ⟨by rw [HV.out], rfl⟩
        case rest =>
          obtain ⟨rfl, ew⟩ := hcut
          subst ew
          by_cases h16 : r16 = 0
          · have h16b : ((r16 : Int) == 0) = true := by simp [h16]
            obtain ⟨y1, y2, y3, y4⟩ := HK.out _ HB6.out
            have hzl16 : 16 ≤ zs.length := by have := HM.out; omega
            have cW := y4.cell (i := i1) (by omega)
            rw [← HW1K.out] at cW
            have hX1 : 0 ≤ w1z zs k ∧ w1z zs k < 2 ^ 64 := by rw [HW1K.out]; exact HWR.out _
            generalize w1z zs k = X1 at *
            have hd1 := specDecode_any 1 X1 hX1.1 hX1.2
            unfold descV desc3 at hd1
            have hO1 := dOut_lo 1 X1
            have I1 : (0 : Int) ≤ (i1 : Int) := by omega
            have I2 : (i1 : Int) < (zs.length : Int) := by omega
            have HL1 : Hid (leadW (nn : Int) 1 X1 = (decide (dKind 1 X1 = 1) && decide (dOut 1 X1 < (nn : Int)))) := hidP rfl
            generalize dKind 1 X1 = D1 at *
            generalize dOut 1 X1 = O1 at *
            generalize dPerm 1 X1 = P1 at *
            have gz6 := HB6.out.size
            clear y1 y3 y4 HW1K
            go_wp2_with fail
            refine (hd1 _).mono ?_
            rintro e w7 ⟨rfl, hb7⟩
            have hb7w : Below w4.heap.size w4 w7 := HB6.out.trans (hb7.mono gz6)
            have s7 := hb7w.size
            have HB7 : Hid (Below w4.heap.size w4 (w7.alloc (.cells #[.int .i64 D1, .int .i64 O1, .int .i64 P1] 59))) := hidP (hb7w.alloc s7 _)
            clear hd1 hb7 hb7w cW y2
            by_cases hD : D1 = 1
            · subst hD
              by_cases hO : O1 < (nn : Int)
              · have hOb : decide (O1 < (nn : Int)) = true := by simpa using hO
                have HLT : Hid (leadW (nn : Int) 1 X1 = true) := hidP (by rw [HL1.out]; simp [hO])
                obtain ⟨wD, hwD⟩ : ∃ wD, wD = w7.alloc (.cells #[.int .i64 1, .int .i64 O1, .int .i64 P1] 59) := ⟨_, rfl⟩
                have HBD : Hid (Below w4.heap.size w4 wD) := hidP (by rw [hwD]; exact HB7.out)
                have sD := HBD.out.size
                have cD : wD.cell? ⟨w7.heap.size, 1, none⟩ = some (.int .i64 O1) := by rw [hwD]; simp [go_sem]
                have zD : w7.heap.size < wD.heap.size := by rw [hwD]; simp
                have HWD : Hid (wD = _) := hwD
                clear hwD
                go_upto_if 81 with fail
                rw [← HWD.out]
                go_cut [11] (fun ct wz => ct = .int .i64 ((cntTo zs (nn : Int) k : Int) + (if r256 = 0 then 1 else 0)) ∧ Below wD.heap.size wD wz)
                case first =>
                  by_cases h256 : r256 = 0
                  · have h256b : ((r256 : Int) == 0) = true := by simp [h256]
                    have t8 := HAS.out O1 2 (k : Int) wD HBD.out
                    rw [HH2K.out hlt h256 HLT.out] at t8
                    have HIF : Hid ((if r256 = 0 then (1 : Int) else 0) = 1) := hidP (if_pos h256)
                    go_wp2_with fail
                    refine t8.mono ?_
                    rintro e w8 ⟨rfl, hb8⟩
                    have HB8 : Hid (Below wD.heap.size wD w8) := hb8
                    clear t8 hb8
                    go_wp2_with fail
                    go_meet
                    case rel => exact ⟨by rw [HIF.out], HB8.out⟩
                  · have h256b : ((r256 : Int) == 0) = false := by simp; omega
                    have HIF : Hid ((if r256 = 0 then (1 : Int) else 0) = 0) := hidP (if_neg h256)
                    go_wp2_with fail
                    go_meet
                    case rel => exact ⟨by rw [HIF.out]; simp, Below.refl _ _⟩
                case rest =>
                  obtain ⟨rfl, hbc⟩ := hcut
                  have hbC : Below w4.heap.size w4 wc := HBD.out.trans (hbc.mono sD)
                  have sC := hbC.size
                  have cC := (hbc.cell (p := ⟨w7.heap.size, 1, none⟩) zD).trans cD
                  obtain ⟨y1, y2, y3, y4⟩ := HK.out _ hbC
                  obtain ⟨U1, rfl⟩ : ∃ U1 : Nat, O1 = (U1 : Int) := ⟨O1.toNat, by omega⟩
                  have eU : (U1 : Int) * 16 + (j1 : Int) = ((U1 * 16 + j1 : Nat) : Int) := by omega
                  have hU : U1 * 16 + j1 < zs.length := by have := HM.out; omega
                  have cW := y4.cell (i := U1 * 16 + j1) hU
                  have eW2 := HW2K.out
                  rw [show ((U1 : Int) * 16).toNat + j1 = U1 * 16 + j1 by omega] at eW2
                  rw [← eW2] at cW
                  have hX2 : 0 ≤ w2z zs k ∧ w2z zs k < 2 ^ 64 := by rw [eW2]; exact HWR.out _
                  generalize w2z zs k = X2 at *
                  have hd2 := specDecode_any 2 X2 hX2.1 hX2.2
                  unfold descV desc3 at hd2
                  have hO2 := dOut_lo 2 X2
                  have HL2 : Hid (leadW (nn : Int) 2 X2 = (decide (dKind 2 X2 = 1) && decide (dOut 2 X2 < (nn : Int)))) := hidP rfl
                  generalize dKind 2 X2 = D2 at *
                  generalize dOut 2 X2 = O2 at *
                  generalize dPerm 2 X2 = P2 at *
                  have U0 : (0 : Int) ≤ ((U1 * 16 + j1 : Nat) : Int) := by omega
                  have U2 : ((U1 * 16 + j1 : Nat) : Int) < (zs.length : Int) := by omega
                  have hU1 : U1 ≤ 1000 := by omega
                  generalize U1 * 16 + j1 = V1 at *
                  have HBC : Hid (Below w4.heap.size w4 wc) := hbC
                  clear y1 y3 y4 HW2K eW2 hbc hbC
                  have hcb : 0 ≤ (if r256 = 0 then (1 : Int) else 0) ∧ (if r256 = 0 then (1 : Int) else 0) ≤ 1 := by split <;> omega
                  have HADK2 : Hid (∀ b : Bool, leadW (nn : Int) 2 X2 = b → (cntTo zs (nn : Int) (k + 1) : Int) = (cntTo zs (nn : Int) k : Int) + (if r256 = 0 then (1 : Int) else 0) + (if b = true then 1 else 0)) := hidP (fun b hb => by
                    rw [HCSK.out, HADK.out, if_pos ⟨h16, HLT.out⟩, hb]
                    cases b <;> by_cases hz : r256 = 0 <;> simp [hz] <;> omega)
                  generalize (if r256 = 0 then (1 : Int) else 0) = C1 at *
                  go_wp2_with fail
                  refine (hd2 _).mono ?_
                  rintro e w9 ⟨rfl, hb9⟩
                  have hb9w : Below w4.heap.size w4 w9 := HBC.out.trans (hb9.mono sC)
                  have s9 := hb9w.size
                  have HB9 : Hid (Below w4.heap.size w4 (w9.alloc (.cells #[.int .i64 D2, .int .i64 O2, .int .i64 P2] 59))) := hidP (hb9w.alloc s9 _)
                  clear hd2 hb9 hb9w cW y2 cC
                  by_cases hD2 : D2 = 1
                  · subst hD2
                    by_cases hO2b : O2 < (nn : Int)
                    · have hOb2 : decide (O2 < (nn : Int)) = true := by simpa using hO2b
                      have HLT2 : Hid (leadW (nn : Int) 2 X2 = true) := hidP (by rw [HL2.out]; simp [hO2b])
                      have HCZ : Hid ((cntTo zs (nn : Int) (k + 1) : Int) = (cntTo zs (nn : Int) k : Int) + C1 + 1) := hidP (by rw [HADK2.out true HLT2.out]; simp)
                      have t10 := HAS.out O2 3 (k : Int) _ HB9.out
                      rw [HH3K.out hlt h16 HLT.out HLT2.out] at t10
                      go_wp2_with fail
                      refine t10.mono ?_
                      rintro e wE ⟨rfl, hbE⟩
                      have HBF : Hid (Below w4.heap.size w4 wE) := hidP (HB9.out.trans (hbE.mono (by simp; omega)))
                      clear t10 hbE
                      go_wp2_with fail
                      go_roundw
                      case rel => exact ⟨k + 1, by omega, by go_num, rfl, by rw [HCZ.out], HBF.out⟩
                      case measure => first | (simp [intOf]; done) | (simp [intOf]; omega)
                    · have hOb2 : decide (O2 < (nn : Int)) = false := by simpa using hO2b
                      have HCZ : Hid ((cntTo zs (nn : Int) (k + 1) : Int) = (cntTo zs (nn : Int) k : Int) + C1) := hidP (by rw [HADK2.out false (by rw [HL2.out]; simp [hO2b])]; simp)
                      have HBF := HB9
                      go_wp2_with fail
                      go_roundw
                      case rel => exact ⟨k + 1, by omega, by go_num, rfl, by rw [HCZ.out], HBF.out⟩
                      case measure => first | (simp [intOf]; done) | (simp [intOf]; omega)
                  · have hD2b : (D2 == 1) = false := by simpa using hD2
                    have HCZ : Hid ((cntTo zs (nn : Int) (k + 1) : Int) = (cntTo zs (nn : Int) k : Int) + C1) := hidP (by rw [HADK2.out false (by rw [HL2.out]; simp [hD2])]; simp)
                    have HBF := HB9
                    go_wp2_with fail
                    go_roundw
                    case rel => exact ⟨k + 1, by omega, by go_num, rfl, by rw [HCZ.out], HBF.out⟩
                    case measure => first | (simp [intOf]; done) | (simp [intOf]; omega)
              · have hOb : decide (O1 < (nn : Int)) = false := by simpa using hO
                have HCZ : Hid ((cntTo zs (nn : Int) (k + 1) : Int) = (cntTo zs (nn : Int) k : Int)) := hidP (by rw [HCSK.out, HADK.out, if_neg (by rw [HL1.out]; simp [hO])]; simp)
                have HBF := HB7
                go_wp2_with fail
                go_roundw
                case rel => exact ⟨k + 1, by omega, by go_num, rfl, by rw [HCZ.out], HBF.out⟩
                case measure => first | (simp [intOf]; done) | (simp [intOf]; omega)
            · have hDb : (D1 == 1) = false := by simpa using hD
              have HCZ : Hid ((cntTo zs (nn : Int) (k + 1) : Int) = (cntTo zs (nn : Int) k : Int)) := hidP (by rw [HCSK.out, HADK.out, if_neg (by rw [HL1.out]; simp [hD])]; simp)
              have HBF := HB7
              go_wp2_with fail
              go_roundw
              case rel => exact ⟨k + 1, by omega, by go_num, rfl, by rw [HCZ.out], HBF.out⟩
              case measure => first | (simp [intOf]; done) | (simp [intOf]; omega)
          · have h16b : ((r16 : Int) == 0) = false := by simp; omega
            have HCZ : Hid ((cntTo zs (nn : Int) (k + 1) : Int) = (cntTo zs (nn : Int) k : Int)) := hidP (by rw [HCSK.out, HADK.out, if_neg (fun h => h16 h.1)]; simp)
            have HBF := HB6
            go_wp2_with fail
            go_roundw
            case rel => exact ⟨k + 1, by omega, by go_num, rfl, by rw [HCZ.out], HBF.out⟩
            case measure => first | (simp [intOf]; done) | (simp [intOf]; omega)
      · have ek : k = 4096 := by omega
        have HCNK : Hid ((cntTo zs (nn : Int) k : Int) = (ps.length : Int)) := hidP (by rw [ek, HCN.out])
        have K1 : ¬ (k : Int) < 4096 := by omega
        obtain ⟨CW0, hCW0⟩ : ∃ b, cleanW zs k = b := ⟨_, rfl⟩
        have HTC2 : Hid (tr = (CW0 && cleanF ps ps.length)) := hidP (by rw [HTC.out, ← hCW0, ek])
        have HB : Hid (Below w4.heap.size w4 wr) := hb
        rw [hCW0, HCNK.out]
        have ec1 : ((ps.length : Int) != (ps.length : Int)) = false := by simp
        have F0 : Hid (cleanF ps 0 = true) := hidP rfl
        clear hb HCSk HCLk HWSk HADk HH2k HH3k HW1k HW2k ek hCW0 HCN HTC hlt HWK HAS HH2 HH3 HADD HW1 HW2 HWS HCS HCL
        go_wp2_with fail
        go_loopw [10, 15] (fun cl iv wr => ∃ i : Nat, i ≤ ps.length ∧ iv = .int .i64 (i : Int) ∧ cl = .bool (CW0 && cleanF ps i) ∧ Below w4.heap.size w4 wr) (fun _ iv _ => ps.length - (intOf iv).toNat)
        case atStart => exact ⟨0, Nat.zero_le _, rfl, by rw [F0.out]; simp, HB.out⟩
        case round =>
          obtain ⟨i, hi, rfl, rfl, hbi⟩ := hrel
          have HFSi : Hid _ := hidP (HFS.out i)
          by_cases hlt2 : i < ps.length
          · have HFR : Hid (freshP ps i = (List.range i).all (fun j => !decide ((pAt ps i).fr = (pAt ps j).fr))) := hidP rfl
            have I1 : (i : Int) < (ps.length : Int) := by omega
            have I0 : (0 : Int) ≤ (i : Int) := by omega
            have HBi : Hid (Below _ _ _) := hbi
            obtain ⟨CF, hCF⟩ : ∃ b, (CW0 && cleanF ps i) = b := ⟨_, rfl⟩
            have HCF : Hid _ := hCF
            rw [hCF]
            obtain ⟨Fi, hFi⟩ : ∃ F, (pAt ps i).fr = F := ⟨_, rfl⟩
            rw [hFi] at HFR
            have HFi : Hid _ := hFi
            clear hbi hCF hFi
            go_wp2_with fail
            go_loopw [10, 16] (fun cl jv wr => ∃ j : Nat, j ≤ i ∧ jv = .int .i64 (j : Int) ∧ cl = .bool (CF && (List.range j).all (fun j => !decide (Fi = (pAt ps j).fr))) ∧ Below w4.heap.size w4 wr) (fun _ jv _ => i - (intOf jv).toNat)
            case atStart => exact ⟨0, Nat.zero_le _, rfl, by simp, HBi.out⟩
            case round =>
              obtain ⟨j, hj, rfl, rfl, hbj⟩ := hrel
              have HSN : Hid _ := hidP (all_snoc (fun j => !decide (Fi = (pAt ps j).fr)) j)
              obtain ⟨CJ, hCJ⟩ : ∃ b, (CF && (List.range j).all (fun j => !decide (Fi = (pAt ps j).fr))) = b := ⟨_, rfl⟩
              have HCJ : Hid _ := hCJ
              rw [hCJ]
              clear hCJ
              by_cases hlt3 : j < i
              · obtain ⟨k1, -, -⟩ := HPC.out i (pAt ps i).fr (pAt ps i).lv (pAt ps i).pg hlt2 rfl wr hbj
                obtain ⟨k2, -, -⟩ := HPC.out j (pAt ps j).fr (pAt ps j).lv (pAt ps j).pg (by omega) rfl wr hbj
                rw [HFi.out] at k1
                have J1 : (j : Int) < (ps.length : Int) := by omega
                have J0 : (0 : Int) ≤ (j : Int) := by omega
                have J3 : (j : Int) < (i : Int) := by omega
                have HBj : Hid (Below _ _ _) := hbj
                obtain ⟨Fj, hFj⟩ : ∃ F, (pAt ps j).fr = F := ⟨_, rfl⟩
                rw [hFj] at k2
                have HFj : Hid _ := hFj
                clear hbj hFj
                by_cases heq : Fi = Fj
                · subst heq
                  have HV : Hid ((CF && (List.range (j + 1)).all (fun j => !decide (Fi = (pAt ps j).fr))) = false) := hidP (by rw [HSN.out]; simp [HFj.out])
                  go_wp2_with fail
                  go_quiet (fail)
                  go_wp2_with fail
                  go_roundw
                  case rel => exact ⟨j + 1, by omega, by go_num, by rw [HV.out], bDrewN HBj.out _⟩
                  case measure => first | (simp [intOf]; done) | (simp [intOf]; omega)
                · have heqb : (Fi == Fj) = false := by simpa using heq
                  have HV : Hid ((CF && (List.range (j + 1)).all (fun j => !decide (Fi = (pAt ps j).fr))) = CJ) := hidP (by rw [HSN.out, HFj.out, ← HCJ.out]; simp [heq])
                  go_wp2_with fail
                  go_quiet (fail)
                  go_wp2_with fail
                  go_roundw
                  case rel => exact ⟨j + 1, by omega, by go_num, by rw [HV.out], bDrewN HBj.out _⟩
                  case measure => first | (simp [intOf]; done) | (simp [intOf]; omega)
              · have ej : j = i := by omega
                have HV : Hid ((CW0 && cleanF ps (i + 1)) = CJ) := hidP (by rw [HFSi.out, HFR.out, ← HCJ.out, ← HCF.out, ej, Bool.and_assoc])
                have J3 : ¬ (j : Int) < (i : Int) := by omega
                have HBj : Hid (Below _ _ _) := hbj
                clear hbj ej
                go_wp2_with fail
                go_roundw
                case rel => exact ⟨i + 1, by omega, by go_num, by rw [HV.out], HBj.out⟩
                case measure => first | (simp [intOf]; done) | (simp [intOf]; omega)
          · have ei : i = ps.length := by omega
            have HV : Hid ((CW0 && cleanF ps i) = tr) := hidP (by rw [HTC2.out, ei])
            have I1 : ¬ (i : Int) < (ps.length : Int) := by omega
            have HBi : Hid (Below _ _ _) := hbi
            rw [HV.out]
            have etr : (tr == tr) = true := by simp
            clear hbi ei HTC2
            go_wp2_with fail
            go_ret
            exact ⟨by simp, HB4.out.trans (HBi.out.mono (HB4.out.size))⟩
end Go.Proofs.Ytnmhkgmmpkjjeaa
