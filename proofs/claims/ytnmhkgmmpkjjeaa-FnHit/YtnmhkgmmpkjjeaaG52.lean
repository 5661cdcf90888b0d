import Derived.Test.YtnmhkgmmpkjjeaaG36
import Derived.Test.YtnmhkgmmpkjjeaaG48
import Derived.Test.YtnmhkgmmpkjjeaaG51
namespace Go.Proofs.Ytnmhkgmmpkjjeaa
open Go.ChangeShapes Go.WideShapes Go.ChangeAt Go.RowKit
set_option linter.unusedVariables false
set_option maxRecDepth 100000
attribute [local go_sem ↓] Go.wp_at_zero Go.wp_at_succ

theorem run_field_hit (k o p s : Int) (w : World) : (Instr.field 32 (.agg #[.int .i64 k, .int .i64 o, .int .i64 p, .int .i64 s]) 0).run Try.prog w = .ok (.int .i64 k) w := by rfl
theorem fh_big (a b : Option Addr) (n cap m cap2 : Nat) (hb : 1048576 < n ∨ 1048576 < m) (h1 : n ≤ 9223372036854775807) (h2 : m ≤ 9223372036854775807) (w : World) :
    Calls Try.prog 3 #[.slice a n cap, .slice b m cap2] w fun e w' => e = .returned (.bool true) ∧ Below w.heap.size w w' := by
  by_cases hn : 1048576 < n
  · have hn' : (1048576 : Int) < (n : Int) := by omega
    go_enter Try.func3, Try.ntmps3
    go_wp2_with fail
    go_ret
    exact ⟨rfl, Below.refl _ _⟩
  · have hn' : ¬ (1048576 : Int) < (n : Int) := by omega
    have hm' : (1048576 : Int) < (m : Int) := by omega
    go_enter Try.func3, Try.ntmps3
    go_wp2_with fail
    go_ret
    exact ⟨rfl, Below.refl _ _⟩

set_option maxHeartbeats 8000000 in
theorem fh_walk (a am : Option Addr) (cap capm : Nat) (cs ms : List Int) (w : World) (hc : Byt cs) (hcm : Byt ms) (hs : BAt w a cs) (hsm : BAt w am ms) :
    Calls Try.prog 3 #[.slice a cs.length cap, .slice am ms.length capm] w fun e w' => e = .returned (.bool true) ∧ Below w.heap.size w w' := by
  have hlen := hc.1
  have hlenm := hcm.1
  have HDR : Hid (∀ wX, Below w.heap.size w wX → Calls Try.prog 9 #[.slice a cs.length cap] wX fun e w' => ∃ g c, e = .returned (.agg #[.slice (some ⟨g, 0, none⟩) (drawZ cs).length c]) ∧ ERow eWord w' wX.heap.size (.slice (some ⟨g, 0, none⟩) (drawZ cs).length c) (drawZ cs) ∧ Below wX.heap.size wX w') := fun wX hX => drawPlaces_any a cap cs wX hc (hs.below hX)
  have HPK : Hid (∀ (q : Nat) wX, q ≤ 1000 → Below w.heap.size w wX → Calls Try.prog 11 #[.slice am ms.length capm, .int .i64 (q : Int)] wX fun e w' => e = .returned (.int .i64 (pick ms q)) ∧ Below wX.heap.size wX w') := fun q wX h1 hX => pick_any am capm ms q wX hcm h1 (hsm.below hX)
  have HPB : Hid (∀ q : Nat, q ≤ 1000 → 0 ≤ pick ms q ∧ pick ms q ≤ 1000) := fun q h => pick_bd ms q hcm h
  obtain ⟨hwr, hzl⟩ := drawZ_ok cs hc
  generalize drawZ cs = zs at *
  have HSP : Hid (∀ g c wX, CRow wX g zs → Calls Try.prog 10 #[.agg #[.slice (some ⟨g, 0, none⟩) zs.length c]] wX fun e w' => PlacesPost zs wX e w') := fun g c wX h => specPlaces_any g zs c (by omega) hwr wX h
  have HSW : Hid (∀ g c (page : Int) wX, CRow wX g zs → Calls Try.prog 12 #[.agg #[.slice (some ⟨g, 0, none⟩) zs.length c], .int .i64 page] wX fun e w' => e = .returned (hitV (walkZ zs page)) ∧ Below wX.heap.size wX w') := fun g c page wX h => specWalk_any g zs c page (by omega) hwr wX h
  have HWR : Hid (Wrd zs) := hwr
  have hpl := plist_length zs
  have H0 : Hid (nfr zs.length = 0 → plist zs = []) := hidP (fun h => by unfold plist; rw [if_pos h])
  clear hc hs hcm hsm hwr
  unfold PlacesPost at HSP
  go_enter Try.func3, Try.ntmps3
  go_wp2_with fail
  refine (HDR.out w (Below.refl _ _)).mono ?_
  rintro e w1 ⟨g1, c1, rfl, hr1, hb1⟩
  obtain ⟨wA, hwA⟩ : ∃ wA, wA = w1.alloc (.cells #[.slice (some ⟨g1, 0, none⟩) zs.length c1] 25) := ⟨_, rfl⟩
  have hbA : Below w.heap.size w wA := by rw [hwA]; exact hb1.alloc hb1.size _
  have hrA : ERow eWord wA w.heap.size (.slice (some ⟨g1, 0, none⟩) zs.length c1) zs := by rw [hwA]; exact hr1.below bal
  have cA : wA.cell? ⟨w1.heap.size, 0, none⟩ = some (.slice (some ⟨g1, 0, none⟩) zs.length c1) := by rw [hwA]; simp [go_sem]
  have sA : w1.heap.size < wA.heap.size := by rw [hwA]; simp
  have t2 := HDR.out wA hbA
  rw [hwA] at t2
  have HWA : Hid (wA = _) := hwA
  have HBA : Hid (Below w.heap.size w wA) := hbA
  have HRA : Hid (ERow _ _ _ _ _) := hrA
  have HCA : Hid (wA.cell? ⟨w1.heap.size, 0, none⟩ = some (.slice (some ⟨g1, 0, none⟩) zs.length c1)) := cA
  have z1 := hb1.size
  clear hr1 hb1 hwA hbA hrA cA HDR
  go_wp2_with fail
  refine t2.mono ?_
  rintro e w2 ⟨g2, c2, rfl, hr2', hb2'⟩
  have hr2 : ERow eWord w2 wA.heap.size (.slice (some ⟨g2, 0, none⟩) zs.length c2) zs := by rw [HWA.out]; exact hr2'
  have hb2 : Below wA.heap.size wA w2 := by rw [HWA.out]; exact hb2'
  have s2 := hb2.size
  obtain ⟨wB, hwB⟩ : ∃ wB, wB = w2.alloc (.cells #[.slice (some ⟨g2, 0, none⟩) zs.length c2] 25) := ⟨_, rfl⟩
  have hbB : Below wA.heap.size wA wB := by rw [hwB]; exact hb2.alloc s2 _
  have hrB : ERow eWord wB wA.heap.size (.slice (some ⟨g2, 0, none⟩) zs.length c2) zs := by rw [hwB]; exact hr2.below bal
  have cB : wB.cell? ⟨w2.heap.size, 0, none⟩ = some (.slice (some ⟨g2, 0, none⟩) zs.length c2) := by rw [hwB]; simp [go_sem]
  have sB : w2.heap.size < wB.heap.size := by rw [hwB]; simp
  have t3 := HSP.out g2 c2 wB hrB.crow
  have HBB : Hid (Below w.heap.size w wB) := HBA.out.trans (hbB.mono (by omega))
  have HKB : Hid (∀ wX, Below wB.heap.size wB wX → wX.cell? ⟨w1.heap.size, 0, none⟩ = some (.slice (some ⟨g1, 0, none⟩) zs.length c1) ∧ wX.cell? ⟨w2.heap.size, 0, none⟩ = some (.slice (some ⟨g2, 0, none⟩) zs.length c2) ∧ ERow eWord wX w.heap.size (.slice (some ⟨g1, 0, none⟩) zs.length c1) zs ∧ CRow wX g2 zs) := hidP (fun wX hX => by
    have hbX : Below wA.heap.size wA wX := hbB.trans (hX.mono (by omega))
    refine ⟨(hbX.cell (p := ⟨w1.heap.size, 0, none⟩) sA).trans HCA.out, (hX.cell (p := ⟨w2.heap.size, 0, none⟩) sB).trans cB, HRA.out.below hbX, ((hrB.below hX).crow)⟩)
  rw [hwB] at t3
  have HWB : Hid (wB = _) := hwB
  clear t2 hr2' hb2' hr2 hb2 hwB hbB hrB cB HSP HRA HCA HBA HWA
  go_wp2_with fail
  refine t3.mono ?_
  rintro e w3 ⟨a3, c3, rfl, hp3, hb3'⟩
  have hb3 : Below wB.heap.size wB w3 := by rw [HWB.out]; exact hb3'
  have s3 := hb3.size
  have HK : Hid (∀ wX, Below w3.heap.size w3 wX → wX.cell? ⟨w1.heap.size, 0, none⟩ = some (.slice (some ⟨g1, 0, none⟩) zs.length c1) ∧ wX.cell? ⟨w2.heap.size, 0, none⟩ = some (.slice (some ⟨g2, 0, none⟩) zs.length c2) ∧ ERow eWord wX w.heap.size (.slice (some ⟨g1, 0, none⟩) zs.length c1) zs ∧ CRow wX g2 zs) := fun wX hX => HKB.out wX (hb3.trans (hX.mono s3))
  have HB3 : Hid (Below w.heap.size w w3) := HBB.out.trans (hb3.mono (by have := HBB.out.size; omega))
  have N1 : w1.heap.size < w3.heap.size := by omega
  have N2 : w2.heap.size < w3.heap.size := by omega
  clear t3 hp3 hb3' hb3 HKB HWB HBB
  by_cases hn : nfr zs.length = 0
  · have e1 := H0.out hn
    rw [e1]
    clear hn H0 e1 HSW
    simp only [List.length_nil]
    go_wp2_with fail
    go_ret
    exact ⟨rfl, HB3.out⟩
  have hpos : 0 < (plist zs).length := by
    rcases Nat.eq_zero_or_pos (plist zs).length with h | h
    · exfalso
      have h2 : plist zs = belowL zs (nfr zs.length) 2 ⟨0, 1, 0⟩ := by unfold plist; rw [if_neg hn]
      rw [h2] at h
      simp [belowL, downs] at h
    · exact h
  have HFA : Hid (∀ page q need c, 0 ≤ page → page < 4096 → 0 ≤ q → q < 4096 → (need = 1 ∨ need = 2 ∨ need = 4) → 0 ≤ c → c ≤ 65535 → (accM (fillM (bare zs) page 112) q need c).2 = seenH q need (walkZ zs q)) := hidP (fun page q need c h1 h2 h3 h4 h5 h6 h7 => fill_acc zs page q need c hn HWR.out h1 h2 h3 h4 h5 h6 h7)
  have HFV : Hid (∀ page, 0 ≤ page → page < 4096 → VM (fillM (bare zs) page 112)) := hidP (fun page h1 h2 => (fill_go zs page hn HWR.out h1 h2).2)
  have HVB : Hid (VM (bare zs)) := vm_bare zs hn HWR.out
  have HSE : Hid (∀ q need wX, (need = 1 ∨ need = 2 ∨ need = 4) → Calls Try.prog 15 #[hitV (walkZ zs q), .int .i64 q, .int .i64 need, seenV (seenH q need (walkZ zs q))] wX fun e w' => e = .returned (.bool true) ∧ Below wX.heap.size wX w') := hidP (fun q need wX h => sees_any (walkZ zs q) q need wX (walkZ_kind zs q) (walkZ_perm zs q).1 (walkZ_perm zs q).2 h)
  have HFI : Hid (∀ page wX, Below w3.heap.size w3 wX → Calls Try.prog 13 #[.agg #[.slice (some ⟨g1, 0, none⟩) zs.length c1, .slice none 0 0, .slice none 0 0, .slice none 0 0], .int .i64 page, .int .i64 112] wX fun e w' => ∃ s' : SV, e = .returned (.agg #[.slice s'.a1 (fillM (bare zs) page 112).mem.length s'.c1, .slice s'.a2 (fillM (bare zs) page 112).pend.length s'.c2, .slice s'.a3 (fillM (bare zs) page 112).tlb.length s'.c3, .slice s'.a4 (fillM (bare zs) page 112).wc.length s'.c4]) ∧ MRow w' wX.heap.size (s'.mv (fillM (bare zs) page 112)) (fillM (bare zs) page 112) ∧ (s'.mv (fillM (bare zs) page 112)).apart ∧ Below wX.heap.size wX w') := hidP (fun page wX hX =>
    implFill_any ⟨some ⟨g1, 0, none⟩, c1, none, 0, none, 0, none, 0⟩ (bare zs) 0 page 112 wX HVB.out.mok HVB.out.small ⟨(HK.out wX hX).2.2.1.rebase (Nat.zero_le _), ERow.nilz _ _ _, ERow.nilz _ _ _, ERow.nilz _ _ _⟩)
  have L0 : (((plist zs).length : Int) == 0) = false := beq_eq_false_iff_ne.2 (by omega)
  generalize plist zs = ps at *
  have HPK2 : Hid (∀ (q : Nat) wX, q ≤ 1000 → Below w3.heap.size w3 wX → Calls Try.prog 11 #[.slice am ms.length capm, .int .i64 (q : Int)] wX fun e w' => e = .returned (.int .i64 (pick ms q)) ∧ Below wX.heap.size wX w') := hidP (fun q wX h1 hX => HPK.out q wX h1 (HB3.out.trans (hX.mono HB3.out.size)))
  clear hn H0 HPK
  go_wp2_with fail
  go_loopw [9] (fun iv wr => ∃ i : Nat, i ≤ 4 ∧ iv = .int .i64 (i : Int) ∧ Below w3.heap.size w3 wr) (fun iv _ => 4 - (intOf iv).toNat)
  case atStart => exact ⟨0, by omega, rfl, Below.refl _ _⟩
  case round =>
    obtain ⟨i, hi, rfl, hb⟩ := hrel
    by_cases hlt : i < 4
    rotate_left
    · have I1 : ¬ (i : Int) < 4 := by omega
      have HB : Hid (Below _ _ _) := hb
      clear hb
      go_wp2_with fail
      go_ret
      exact ⟨rfl, HB3.out.trans (HB.out.mono HB3.out.size)⟩
    have I1 : (i : Int) < 4 := by omega
    have I0 : (0 : Int) ≤ (i : Int) := by omega
    have sr := hb.size
    have p1 := HPK2.out (2 * i) wr (by omega) hb
    have p2 := HPK2.out (2 * i + 1)
    rw [show ((2 * i : Nat) : Int) = 2 * (i : Int) by omega] at p1
    rw [show ((2 * i + 1 : Nat) : Int) = 2 * (i : Int) + 1 by omega] at p2
    have b1 := HPB.out (2 * i) (by omega)
    have b2 := HPB.out (2 * i + 1) (by omega)
    generalize pick ms (2 * i) = X at *
    generalize pick ms (2 * i + 1) = Y at *
    obtain ⟨FR, hFR⟩ : ∃ FR, (X * 16 + Y) % 4096 = FR := ⟨_, rfl⟩
    have eF : (X * 16 + Y).tmod 4096 = FR := by rw [Int.tmod_eq_emod_of_nonneg (by omega)]; exact hFR
    have fr0 : 0 ≤ FR ∧ FR < 4096 := by omega
    have HP2 : Hid _ := p2
    have HB : Hid (Below _ w3 wr) := hb
    clear p2 hb
    go_wp2_with fail
    refine p1.mono ?_
    rintro e w4 ⟨rfl, hb4'⟩
    have hb4 : Below w3.heap.size w3 w4 := HB.out.trans (hb4'.mono sr)
    have s4 := hb4.size
    have p2 := HP2.out w4 (by omega) hb4
    have HB4 : Hid (Below _ w3 w4) := hb4
    clear p1 hb4' hb4 HP2
    go_wp2_with fail
    refine p2.mono ?_
    rintro e w5 ⟨rfl, hb5'⟩
    have hb5 : Below w3.heap.size w3 w5 := HB4.out.trans (hb5'.mono s4)
    have HB5 : Hid (Below _ w3 w5) := hb5
    clear p2 hb5' hb5
    go_wp2_with fail
    go_loopw [11, 12] (fun pg kv wr => ∃ k P : Int, -1 ≤ k ∧ k ≤ 4095 ∧ kv = .int .i64 k ∧ pg = .int .i64 P ∧ 0 ≤ P ∧ P < 4096 ∧ Below w3.heap.size w3 wr) (fun _ kv _ => (intOf kv + 1).toNat)
    case atStart => exact ⟨4095, FR, by omega, by omega, rfl, rfl, fr0.1, fr0.2, HB5.out⟩
    case round =>
      obtain ⟨k, P, hk0, hk1, rfl, rfl, hP0, hP1, hbk⟩ := hrel
      by_cases hk : 0 ≤ k
      · have sk := hbk.size
        obtain ⟨x0, x1, x2, x3⟩ := HK.out wr hbk
        obtain ⟨Q, hQ⟩ : ∃ Q, (FR + k) % 4096 = Q := ⟨_, rfl⟩
        have eQ : (FR + k).tmod 4096 = Q := by rw [Int.tmod_eq_emod_of_nonneg (by omega)]; exact hQ
        have q0 : 0 ≤ Q ∧ Q < 4096 := by omega
        have hw := HSW.out g2 c2 Q wr x3
        unfold hitV at hw
        generalize (walkZ zs Q).kind = K1 at *
        generalize (walkZ zs Q).out = K2 at *
        generalize (walkZ zs Q).perm = K3 at *
        generalize (walkZ zs Q).size = K4 at *
        have hfl := run_field_hit
        have HBk : Hid (Below _ w3 wr) := hbk
        have hk2 : 0 ≤ k + 1 := by omega
        clear x0 x2 x3 hbk
        go_wp2_with fail
        refine hw.mono ?_
        rintro e w6 ⟨rfl, hb6'⟩
        have hb6 : Below w3.heap.size w3 w6 := HBk.out.trans (hb6'.mono sk)
        have s6 := hb6.size
        have HB6 : Hid (Below _ w3 w6) := hb6
        have p3 := HPK2.out i w6 (by omega) hb6
        have b3 := HPB.out i (by omega)
        clear hw hb6' hb6 x1
        by_cases hK : K1 = 1
        · subst hK
          obtain ⟨V, hV⟩ : ∃ V, pick ms i = V := ⟨_, rfl⟩
          rw [hV] at p3 b3
          have e8 : V.tmod 8 = V % 8 := Int.tmod_eq_emod_of_nonneg (by omega)
          clear hV
          go_wp2_with fail
          refine p3.mono ?_
          rintro e w7 ⟨rfl, hb7'⟩
          have HB7 : Hid (Below _ w3 w7) := hidP (HB6.out.trans (hb7'.mono s6))
          clear p3 hb7'
          by_cases h7 : V % 8 = 7
          · have h7b : (V % 8 != 7) = false := by simp [h7]
            go_wp2_with fail
            go_roundw
            case rel => exact ⟨k - 1, P, by omega, by omega, by go_num, rfl, hP0, hP1, HB7.out⟩
            case measure => first | (simp [intOf]; done) | (simp [intOf]; omega)
          · have h7b : (V % 8 != 7) = true := by simpa using h7
            go_wp2_with fail
            go_roundw
            case rel => exact ⟨k - 1, Q, by omega, by omega, by go_num, rfl, q0.1, q0.2, HB7.out⟩
            case measure => first | (simp [intOf]; done) | (simp [intOf]; omega)
        · have hKb : (K1 == 1) = false := by simpa using hK
          go_wp2_with fail
          go_roundw
          case rel => exact ⟨k - 1, P, by omega, by omega, by go_num, rfl, hP0, hP1, HB6.out⟩
          case measure => first | (simp [intOf]; done) | (simp [intOf]; omega)
      have hkn : ¬ 0 ≤ k := hk
      have HBk : Hid (Below _ w3 wr) := hbk
      have sk := hbk.size
      have p4 := HPK2.out (i + 9) wr (by omega) hbk
      have p5 := HPK2.out (i + 9)
      rw [show ((i + 9 : Nat) : Int) = (i : Int) + 9 by omega] at p4 p5
      have b4 := HPB.out (i + 9) (by omega)
      generalize pick ms (i + 9) = V at *
      obtain ⟨R3, hR3⟩ : ∃ R3, V % 3 = R3 := ⟨_, rfl⟩
      have eR : V.tmod 3 = R3 := by rw [Int.tmod_eq_emod_of_nonneg (by omega)]; exact hR3
      have hr3 : 0 ≤ R3 ∧ R3 < 3 := by omega
      have HP5 : Hid _ := p5
      clear hbk p5 hk
      go_wp2_with fail
      refine p4.mono ?_
      rintro e w6 ⟨rfl, hb6'⟩
      have hb6 : Below w3.heap.size w3 w6 := HBk.out.trans (hb6'.mono sk)
      have s6 := hb6.size
      have p5 := HP5.out w6 (by omega) hb6
      have HB6 : Hid (Below _ w3 w6) := hb6
      clear p4 hb6' hb6 HP5
      go_upto_if 87 with fail
      go_cut [13] (fun nv wz => ∃ ND : Int, nv = .int .i64 ND ∧ (ND = 1 ∨ ND = 2 ∨ ND = 4) ∧ Below w3.heap.size w3 wz)
      case first =>
        by_cases h0 : 0 < R3
        · have h0b : decide (0 < R3) = true := by simpa using h0
          go_wp2_with fail
          refine p5.mono ?_
          rintro e w7 ⟨rfl, hb7'⟩
          have HB7 : Hid (Below _ w3 w7) := hidP (HB6.out.trans (hb7'.mono s6))
          clear p5 hb7'
          go_wp2_with fail
          go_meet
          case rel => exact ⟨2 * R3, rfl, by omega, HB7.out⟩
        · have h0b : decide (0 < R3) = false := by simpa using h0
          go_wp2_with fail
          go_meet
          case rel => exact ⟨1, rfl, by omega, HB6.out⟩
      case rest =>
        obtain ⟨ND, rfl, hnd, hbc⟩ := hcut
        have sc := hbc.size
        obtain ⟨x0, x1, x2, x3⟩ := HK.out wc hbc
        obtain ⟨NX, hNX⟩ : ∃ NX, P + 1 - 2 * (P % 2) = NX := ⟨_, rfl⟩
        have eP2 : P.tmod 2 = P % 2 := Int.tmod_eq_emod_of_nonneg (by omega)
        have hnx : 0 ≤ NX ∧ NX < 4096 := by omega
        have hfi := HFI.out P wc hbc
        have hvm := HFV.out P hP0 hP1
        have HFA2 : Hid _ := hidP (fun q need c => HFA.out P q need c hP0 hP1)
        have HBc : Hid (Below _ w3 wc) := hbc
        generalize fillM (bare zs) P 112 = FM at *
        clear x1 x2 x3 hbc p5
        go_wp2_with fail
        refine hfi.mono ?_
        rintro e w7 ⟨s', rfl, hrow7, hap7, hb7'⟩
        have hb7 : Below w3.heap.size w3 w7 := HBc.out.trans (hb7'.mono sc)
        have s7 := hb7.size
        obtain ⟨wF, hwF⟩ : ∃ wF, wF = w7.alloc (.cells #[.slice s'.a1 FM.mem.length s'.c1, .slice s'.a2 FM.pend.length s'.c2, .slice s'.a3 FM.tlb.length s'.c3, .slice s'.a4 FM.wc.length s'.c4] 38) := ⟨_, rfl⟩
        have hbF : Below w3.heap.size w3 wF := by rw [hwF]; exact hb7.alloc s7 _
        have sF : w7.heap.size < wF.heap.size := by rw [hwF]; simp
        have hrowF : MRow wF wc.heap.size (s'.mv FM) FM := by rw [hwF]; exact hrow7.below bal
        have HKF : Hid (∀ wX, Below wF.heap.size wF wX → wX.cell? ⟨w7.heap.size, 0, none⟩ = some (.slice s'.a1 FM.mem.length s'.c1) ∧ wX.cell? ⟨w7.heap.size, 1, none⟩ = some (.slice s'.a2 FM.pend.length s'.c2) ∧ wX.cell? ⟨w7.heap.size, 2, none⟩ = some (.slice s'.a3 FM.tlb.length s'.c3) ∧ wX.cell? ⟨w7.heap.size, 3, none⟩ = some (.slice s'.a4 FM.wc.length s'.c4)) := hidP (fun wX hX => by
          refine ⟨?_, ?_, ?_, ?_⟩
          iterate 4 (exact (hX.cell (by simpa using sF)).trans (by rw [hwF]; simp [go_sem])))
        have HAC : Hid (∀ (q n c : Int) wX, 0 ≤ q → q < 4096 → (n = 1 ∨ n = 2 ∨ n = 4) → 0 ≤ c → c ≤ 65535 → Below wF.heap.size wF wX → Calls Try.prog 14 #[.agg #[.slice s'.a1 FM.mem.length s'.c1, .slice s'.a2 FM.pend.length s'.c2, .slice s'.a3 FM.tlb.length s'.c3, .slice s'.a4 FM.wc.length s'.c4], .int .i64 q, .int .i64 n, .int .i64 c] wX fun e w' => ∃ (b1 : Option Addr) (l1 d1 : Nat) (b2 : Option Addr) (l2 d2 : Nat) (b3 : Option Addr) (l3 d3 : Nat) (b4 : Option Addr) (l4 d4 : Nat), e = .returned (.tuple #[.agg #[.slice b1 l1 d1, .slice b2 l2 d2, .slice b3 l3 d3, .slice b4 l4 d4], seenV (seenH q n (walkZ zs q))]) ∧ Below wX.heap.size wX w') := hidP (fun q n c wX h1 h2 h3 h4 h5 hX => by
          refine (implAcc_any s' FM _ q n c wX hvm.mok hvm.small (hrowF.below hX)).mono ?_
          rintro e w' ⟨s2, rfl, _, _, hb'⟩
          rw [HFA2.out q n c h1 h2 h3 h4 h5]
          exact ⟨_, _, _, _, _, _, _, _, _, _, _, _, rfl, hb'⟩)
        have HSE1 : Hid _ := hidP (fun wX => HSE.out P ND wX hnd)
        have HSE2 : Hid _ := hidP (fun wX => HSE.out NX ND wX hnd)
        have HSW1 : Hid (∀ wX, Below wF.heap.size wF wX → Calls Try.prog 12 #[.agg #[.slice (some ⟨g2, 0, none⟩) zs.length c2], .int .i64 P] wX fun e w' => e = .returned (hitV (walkZ zs P)) ∧ Below wX.heap.size wX w') := hidP (fun wX hX => HSW.out g2 c2 P wX (HK.out wX (hbF.trans (hX.mono hbF.size))).2.2.2)
        have HSW2 : Hid (∀ wX, Below wF.heap.size wF wX → Calls Try.prog 12 #[.agg #[.slice (some ⟨g2, 0, none⟩) zs.length c2], .int .i64 NX] wX fun e w' => e = .returned (hitV (walkZ zs NX)) ∧ Below wX.heap.size wX w') := hidP (fun wX hX => HSW.out g2 c2 NX wX (HK.out wX (hbF.trans (hX.mono hbF.size))).2.2.2)
        have HM2 : Hid (∀ wX, Below wF.heap.size wF wX → wX.cell? ⟨w2.heap.size, 0, none⟩ = some (.slice (some ⟨g2, 0, none⟩) zs.length c2)) := hidP (fun wX hX => (HK.out wX (hbF.trans (hX.mono hbF.size))).2.1)
        obtain ⟨⟨A0, A1, A2, A3⟩, hA⟩ : ∃ T, seenH P ND (walkZ zs P) = T := ⟨_, rfl⟩
        obtain ⟨⟨C0, C1, C2, C3⟩, hC⟩ : ∃ T, seenH NX ND (walkZ zs NX) = T := ⟨_, rfl⟩
        have HA : Hid (seenH P ND (walkZ zs P) = ⟨A0, A1, A2, A3⟩) := hA
        have HC : Hid (seenH NX ND (walkZ zs NX) = ⟨C0, C1, C2, C3⟩) := hC
        rw [HA.out] at HSE1
        rw [HC.out] at HSE2
        have HBF0 : Hid (Below w3.heap.size w3 wF) := hbF
        have HBwF : Hid (Below wF.heap.size wF wF) := Below.refl _ _
        have HWwF : Hid (wF = _) := hwF
        clear hfi hrow7 hap7 hb7' hb7 hwF hbF hrowF hvm HFA2 hA hC x0
        have t1 := HAC.out P ND 128 wF (by omega) (by omega) hnd (by omega) (by omega) HBwF.out
        rw [HA.out] at t1
        obtain ⟨x0, x1, x2, x3⟩ := HKF.out wF HBwF.out
        unfold seenV at t1
        dsimp only at t1
        have zwF := HBwF.out.size
        rw [HWwF.out] at t1 x0 x1 x2 x3
        go_wp2_with fail
        refine t1.mono ?_
        rintro e w8 ⟨b1, l1, d1, b2, l2, d2, b3, l3, d3, b4, l4, d4, rfl, hbw8x⟩
        have hbw8' : Below wF.heap.size wF w8 := by rw [HWwF.out]; exact hbw8x
        have hbw8 : Below wF.heap.size wF w8 := HBwF.out.trans (hbw8'.mono HBwF.out.size)
        obtain ⟨wG, hwG⟩ : ∃ wG, wG = (w8.alloc (.cells #[.slice b1 l1 d1, .slice b2 l2 d2, .slice b3 l3 d3, .slice b4 l4 d4] 38)).alloc (.cells #[.int .i64 A0, .int .i64 A1, .int .i64 A2, .int .i64 A3] 41) := ⟨_, rfl⟩
        have hbwG : Below wF.heap.size wF wG := by rw [hwG]; exact (hbw8.alloc hbw8.size _).alloc (by have := hbw8.size; simp; omega) _
        have swG : w8.heap.size + 1 < wG.heap.size := by rw [hwG]; simp
        have HC17 : Hid (∀ wX, Below wG.heap.size wG wX → wX.cell? ⟨w8.heap.size + 1, 0, none⟩ = some (.int .i64 A0) ∧ wX.cell? ⟨w8.heap.size + 1, 1, none⟩ = some (.int .i64 A1) ∧ wX.cell? ⟨w8.heap.size + 1, 2, none⟩ = some (.int .i64 A2) ∧ wX.cell? ⟨w8.heap.size + 1, 3, none⟩ = some (.int .i64 A3)) := hidP (fun wX hX => by
          refine ⟨?_, ?_, ?_, ?_⟩
          iterate 4 (exact (hX.cell (by simpa using swG)).trans (by rw [hwG]; simp [go_sem])))
        have HBwG : Hid (Below wF.heap.size wF wG) := hbwG
        have HNwG : Hid (Below wF.heap.size wF wG) := hidP (by rw [hwG]; exact (hbw8'.alloc hbw8'.size _).alloc (by have := hbw8'.size; simp; omega) _)
        have HWwG : Hid (wG = _) := hwG
        have hgwG := hbw8'.size
        clear t1 x0 x1 x2 x3 hbw8' hbw8 hwG hbwG hbw8x
        have t2 := HAC.out P ND 1 wG (by omega) (by omega) hnd (by omega) (by omega) HBwG.out
        rw [HA.out] at t2
        obtain ⟨x0, x1, x2, x3⟩ := HKF.out wG HBwG.out
        unfold seenV at t2
        dsimp only at t2
        have zwG := HBwG.out.size
        rw [HWwG.out] at t2 x0 x1 x2 x3
        go_wp2_with fail
        refine t2.mono ?_
        rintro e w9 ⟨b1, l1, d1, b2, l2, d2, b3, l3, d3, b4, l4, d4, rfl, hbw9x⟩
        have hbw9' : Below wG.heap.size wG w9 := by rw [HWwG.out]; exact hbw9x
        have hbw9 : Below wF.heap.size wF w9 := HBwG.out.trans (hbw9'.mono HBwG.out.size)
        obtain ⟨wH, hwH⟩ : ∃ wH, wH = (w9.alloc (.cells #[.slice b1 l1 d1, .slice b2 l2 d2, .slice b3 l3 d3, .slice b4 l4 d4] 38)).alloc (.cells #[.int .i64 A0, .int .i64 A1, .int .i64 A2, .int .i64 A3] 41) := ⟨_, rfl⟩
        have hbwH : Below wF.heap.size wF wH := by rw [hwH]; exact (hbw9.alloc hbw9.size _).alloc (by have := hbw9.size; simp; omega) _
        have swH : w9.heap.size + 1 < wH.heap.size := by rw [hwH]; simp
        have HC19 : Hid (∀ wX, Below wH.heap.size wH wX → wX.cell? ⟨w9.heap.size + 1, 0, none⟩ = some (.int .i64 A0) ∧ wX.cell? ⟨w9.heap.size + 1, 1, none⟩ = some (.int .i64 A1) ∧ wX.cell? ⟨w9.heap.size + 1, 2, none⟩ = some (.int .i64 A2) ∧ wX.cell? ⟨w9.heap.size + 1, 3, none⟩ = some (.int .i64 A3)) := hidP (fun wX hX => by
          refine ⟨?_, ?_, ?_, ?_⟩
          iterate 4 (exact (hX.cell (by simpa using swH)).trans (by rw [hwH]; simp [go_sem])))
        have HBwH : Hid (Below wF.heap.size wF wH) := hbwH
        have HNwH : Hid (Below wG.heap.size wG wH) := hidP (by rw [hwH]; exact (hbw9'.alloc hbw9'.size _).alloc (by have := hbw9'.size; simp; omega) _)
        have HWwH : Hid (wH = _) := hwH
        have hgwH := hbw9'.size
        clear t2 x0 x1 x2 x3 hbw9' hbw9 hwH hbwH hbw9x
        have t3 := HAC.out NX ND 129 wH (by omega) (by omega) hnd (by omega) (by omega) HBwH.out
        rw [HC.out] at t3
        obtain ⟨x0, x1, x2, x3⟩ := HKF.out wH HBwH.out
        unfold seenV at t3
        dsimp only at t3
        have zwH := HBwH.out.size
        rw [HWwH.out] at t3 x0 x1 x2 x3
        go_wp2_with fail
        refine t3.mono ?_
        rintro e w10 ⟨b1, l1, d1, b2, l2, d2, b3, l3, d3, b4, l4, d4, rfl, hbw10x⟩
        have hbw10' : Below wH.heap.size wH w10 := by rw [HWwH.out]; exact hbw10x
        have hbw10 : Below wF.heap.size wF w10 := HBwH.out.trans (hbw10'.mono HBwH.out.size)
        obtain ⟨wI, hwI⟩ : ∃ wI, wI = (w10.alloc (.cells #[.slice b1 l1 d1, .slice b2 l2 d2, .slice b3 l3 d3, .slice b4 l4 d4] 38)).alloc (.cells #[.int .i64 C0, .int .i64 C1, .int .i64 C2, .int .i64 C3] 41) := ⟨_, rfl⟩
        have hbwI : Below wF.heap.size wF wI := by rw [hwI]; exact (hbw10.alloc hbw10.size _).alloc (by have := hbw10.size; simp; omega) _
        have swI : w10.heap.size + 1 < wI.heap.size := by rw [hwI]; simp
        have HC21 : Hid (∀ wX, Below wI.heap.size wI wX → wX.cell? ⟨w10.heap.size + 1, 0, none⟩ = some (.int .i64 C0) ∧ wX.cell? ⟨w10.heap.size + 1, 1, none⟩ = some (.int .i64 C1) ∧ wX.cell? ⟨w10.heap.size + 1, 2, none⟩ = some (.int .i64 C2) ∧ wX.cell? ⟨w10.heap.size + 1, 3, none⟩ = some (.int .i64 C3)) := hidP (fun wX hX => by
          refine ⟨?_, ?_, ?_, ?_⟩
          iterate 4 (exact (hX.cell (by simpa using swI)).trans (by rw [hwI]; simp [go_sem])))
        have HBwI : Hid (Below wF.heap.size wF wI) := hbwI
        have HNwI : Hid (Below wH.heap.size wH wI) := hidP (by rw [hwI]; exact (hbw10'.alloc hbw10'.size _).alloc (by have := hbw10'.size; simp; omega) _)
        have HWwI : Hid (wI = _) := hwI
        have hgwI := hbw10'.size
        clear t3 x0 x1 x2 x3 hbw10' hbw10 hwI hbwI hbw10x
        obtain ⟨⟨P0, P1, P2, P3⟩, hHP⟩ : ∃ T, walkZ zs P = T := ⟨_, rfl⟩
        obtain ⟨⟨Q0, Q1, Q2, Q3⟩, hHQ⟩ : ∃ T, walkZ zs NX = T := ⟨_, rfl⟩
        rw [hHP] at HSE1 HSW1
        rw [hHQ] at HSE2 HSW2
        unfold hitV seenV at HSE1 HSE2
        unfold hitV at HSW1 HSW2
        dsimp only at HSE1 HSE2 HSW1 HSW2
        have zI := HBwI.out.size
        have HKK : Hid (∀ wX, Below wI.heap.size wI wX → wX.cell? ⟨w2.heap.size, 0, none⟩ = some (.slice (some ⟨g2, 0, none⟩) zs.length c2) ∧ wX.cell? ⟨w8.heap.size + 1, 0, none⟩ = some (.int .i64 A0) ∧ wX.cell? ⟨w8.heap.size + 1, 1, none⟩ = some (.int .i64 A1) ∧ wX.cell? ⟨w8.heap.size + 1, 2, none⟩ = some (.int .i64 A2) ∧ wX.cell? ⟨w8.heap.size + 1, 3, none⟩ = some (.int .i64 A3) ∧ wX.cell? ⟨w9.heap.size + 1, 0, none⟩ = some (.int .i64 A0) ∧ wX.cell? ⟨w9.heap.size + 1, 1, none⟩ = some (.int .i64 A1) ∧ wX.cell? ⟨w9.heap.size + 1, 2, none⟩ = some (.int .i64 A2) ∧ wX.cell? ⟨w9.heap.size + 1, 3, none⟩ = some (.int .i64 A3)) := hidP (fun wX hX => by
          have b1 := HBwI.out.trans (hX.mono HBwI.out.size)
          have b3 := HNwI.out.trans (hX.mono HNwI.out.size)
          have b2 := HNwH.out.trans (b3.mono HNwH.out.size)
          obtain ⟨u0, u1, u2, u3⟩ := HC17.out wX b2
          obtain ⟨v0, v1, v2, v3⟩ := HC19.out wX b3
          exact ⟨HM2.out wX b1, u0, u1, u2, u3, v0, v1, v2, v3⟩)
        have HKL : Hid (∀ wX, Below wI.heap.size wI wX → wX.cell? ⟨w2.heap.size, 0, none⟩ = some (.slice (some ⟨g2, 0, none⟩) zs.length c2) ∧ wX.cell? ⟨w10.heap.size + 1, 0, none⟩ = some (.int .i64 C0) ∧ wX.cell? ⟨w10.heap.size + 1, 1, none⟩ = some (.int .i64 C1) ∧ wX.cell? ⟨w10.heap.size + 1, 2, none⟩ = some (.int .i64 C2) ∧ wX.cell? ⟨w10.heap.size + 1, 3, none⟩ = some (.int .i64 C3)) := hidP (fun wX hX => by
          have b1 := HBwI.out.trans (hX.mono HBwI.out.size)
          obtain ⟨v0, v1, v2, v3⟩ := HC21.out wX hX
          exact ⟨HM2.out wX b1, v0, v1, v2, v3⟩)
        have HWK1 : Hid _ := hidP (fun wX (hX : Below wI.heap.size wI wX) => HSW1.out wX (HBwI.out.trans (hX.mono HBwI.out.size)))
        have HWK2 : Hid _ := hidP (fun wX (hX : Below wI.heap.size wI wX) => HSW2.out wX (HBwI.out.trans (hX.mono HBwI.out.size)))
        clear hHP hHQ
        go_wp2_with fail
        rw [← HWwI.out]
        refine wp_region_held_drew (S := (fun wX => wX.cell? ⟨w2.heap.size, 0, none⟩ = some (.slice (some ⟨g2, 0, none⟩) zs.length c2) ∧ wX.cell? ⟨w8.heap.size + 1, 0, none⟩ = some (.int .i64 A0) ∧ wX.cell? ⟨w8.heap.size + 1, 1, none⟩ = some (.int .i64 A1) ∧ wX.cell? ⟨w8.heap.size + 1, 2, none⟩ = some (.int .i64 A2) ∧ wX.cell? ⟨w8.heap.size + 1, 3, none⟩ = some (.int .i64 A3) ∧ wX.cell? ⟨w9.heap.size + 1, 0, none⟩ = some (.int .i64 A0) ∧ wX.cell? ⟨w9.heap.size + 1, 1, none⟩ = some (.int .i64 A1) ∧ wX.cell? ⟨w9.heap.size + 1, 2, none⟩ = some (.int .i64 A2) ∧ wX.cell? ⟨w9.heap.size + 1, 3, none⟩ = some (.int .i64 A3))) (by kernel_rfl) (HKK.out _ (Below.refl _ _).drew) (fun hHeld => ?_)
        refine tk 0 ?_
        refine tk 1 ?_
        refine tk 3 ?_
        refine tk 4 ?_
        refine tk 5 ?_
        refine wpAnyH_ready (rs := [2]) (by kernel_rfl) (by simp) ?_
        refine AllReadyH.cons rfl (fun K hK => ?_) AllReadyH.nil
        go_simp
        go_at_call 12
        refine (HWK1.out _ (Below.refl _ _).drew).mono ?_
        rintro e wJ ⟨rfl, hbwJ⟩
        have hBwJ : Below wI.heap.size wI wJ := (Below.refl _ _).drew.trans (hbwJ.mono (by simp))
        go_wp2_with fail
        refine hK.out _ _ (HKK.out _ hBwJ) (fun hHeldwJ => ?_)
        clear hK K
        refine wpAnyH_ready (rs := [6]) (by kernel_rfl) (by simp) ?_
        refine AllReadyH.cons rfl (fun K hK => ?_) AllReadyH.nil
        go_simp
        go_at_call 15
        refine (HSE1.out _).mono ?_
        rintro e wK ⟨rfl, hbwK⟩
        have hBwK : Below wI.heap.size wI wK := hBwJ.trans (hbwK.mono hBwJ.size)
        go_wp2_with fail
        refine hK.out _ _ (HKK.out _ hBwK) (fun hHeldwK => ?_)
        clear hK K
        refine tk 7 ?_
        refine tk 8 ?_
        refine tk 9 ?_
        refine tk 10 ?_
        refine tk 12 ?_
        refine tk 13 ?_
        refine tk 14 ?_
        refine wpAnyH_ready (rs := [11]) (by kernel_rfl) (by simp) ?_
        refine AllReadyH.cons rfl (fun K hK => ?_) AllReadyH.nil
        go_simp
        go_at_call 12
        refine (HWK1.out _ hBwK).mono ?_
        rintro e wL ⟨rfl, hbwL⟩
        have hBwL : Below wI.heap.size wI wL := hBwK.trans (hbwL.mono hBwK.size)
        go_wp2_with fail
        refine hK.out _ _ (HKK.out _ hBwL) (fun hHeldwL => ?_)
        clear hK K
        refine wpAnyH_ready (rs := [15]) (by kernel_rfl) (by simp) ?_
        refine AllReadyH.cons rfl (fun K hK => ?_) AllReadyH.nil
        go_simp
        go_at_call 15
        refine (HSE1.out _).mono ?_
        rintro e wM ⟨rfl, hbwM⟩
        have hBwM : Below wI.heap.size wI wM := hBwL.trans (hbwM.mono hBwL.size)
        go_wp2_with fail
        refine hK.out _ _ (HKK.out _ hBwM) (fun hHeldwM => ?_)
        clear hK K
        refine tk 16 ?_
        refine tk 17 ?_
        refine wpAnyH_done (by kernel_rfl) ?_ _
        have HBM : Hid (Below wI.heap.size wI wM) := hBwM
        clear hbwJ hbwK hbwL hbwM hBwJ hBwK hBwL hBwM hHeld hHeldwJ hHeldwK hHeldwL hHeldwM
        go_wp2_with fail
        refine wp_region_held_drew (S := (fun wX => wX.cell? ⟨w2.heap.size, 0, none⟩ = some (.slice (some ⟨g2, 0, none⟩) zs.length c2) ∧ wX.cell? ⟨w10.heap.size + 1, 0, none⟩ = some (.int .i64 C0) ∧ wX.cell? ⟨w10.heap.size + 1, 1, none⟩ = some (.int .i64 C1) ∧ wX.cell? ⟨w10.heap.size + 1, 2, none⟩ = some (.int .i64 C2) ∧ wX.cell? ⟨w10.heap.size + 1, 3, none⟩ = some (.int .i64 C3))) (by kernel_rfl) (HKL.out _ HBM.out.drew) (fun hHeld => ?_)
        refine tk 0 ?_
        refine tk 1 ?_
        refine tk 3 ?_
        refine tk 4 ?_
        refine tk 5 ?_
        refine wpAnyH_ready (rs := [2]) (by kernel_rfl) (by simp) ?_
        refine AllReadyH.cons rfl (fun K hK => ?_) AllReadyH.nil
        go_simp
        go_at_call 12
        refine (HWK2.out _ HBM.out.drew).mono ?_
        rintro e wJ ⟨rfl, hbwJ⟩
        have hBwJ : Below wI.heap.size wI wJ := HBM.out.drew.trans (hbwJ.mono (by have := HBM.out.size; simp; omega))
        go_wp2_with fail
        refine hK.out _ _ (HKL.out _ hBwJ) (fun hHeldwJ => ?_)
        clear hK K
        refine wpAnyH_ready (rs := [6]) (by kernel_rfl) (by simp) ?_
        refine AllReadyH.cons rfl (fun K hK => ?_) AllReadyH.nil
        go_simp
        go_at_call 15
        refine (HSE2.out _).mono ?_
        rintro e wK ⟨rfl, hbwK⟩
        have hBwK : Below wI.heap.size wI wK := hBwJ.trans (hbwK.mono hBwJ.size)
        go_wp2_with fail
        refine hK.out _ _ (HKL.out _ hBwK) (fun hHeldwK => ?_)
        clear hK K
        refine tk 7 ?_
        refine wpAnyH_done (by kernel_rfl) ?_ _
        have HBK : Hid (Below wI.heap.size wI wK) := hBwK
        have HBE : Hid (Below w3.heap.size w3 wK) := hidP (HBF0.out.trans ((HBwI.out.trans (HBK.out.mono HBwI.out.size)).mono HBF0.out.size))
        clear hbwJ hbwK hBwJ hBwK hHeld hHeldwJ hHeldwK
        go_wp2_with fail
        go_roundw
        case rel => exact ⟨i + 1, by omega, by go_num, HBE.out⟩
        case measure => first | (simp [intOf]; done) | (simp [intOf]; omega)
end Go.Proofs.Ytnmhkgmmpkjjeaa
