import Derived.Test.YtnmhkgmmpkjjeabSPlcB
namespace Go.Proofs.Ytnmhkgmmpkjjeab
open Go.ChangeShapes Go.WideShapes Go.ChangeAt Go.RowKit
set_option linter.unusedVariables false
attribute [local go_sem ↓] Go.wp_at_zero Go.wp_at_succ

theorem treeTo_succ (zs : List Int) (n : Int) (ps : List P3) (i : Nat) : treeTo zs n ps (i + 1) = (treeTo zs n ps i && (freshP ps i && soundP zs n (pAt ps i))) := by
  simp [treeTo, List.range_succ, List.all_append]
theorem treeTo_false (zs : List Int) (n : Int) (ps : List P3) (i m : Nat) (hi : i < m) (h : (freshP ps i && soundP zs n (pAt ps i)) = false) : treeTo zs n ps m = false := by
  rw [treeTo, List.all_eq_false]
  exact ⟨i, List.mem_range.2 hi, by simpa using h⟩
theorem all_range_succ (f : Nat → Bool) (j : Nat) : (List.range (j + 1)).all f = ((List.range j).all f && f j) := by
  simp [List.range_succ, List.all_append]
theorem all_range_false (f : Nat → Bool) (i m : Nat) (hi : i < m) (h : f i = false) : (List.range m).all f = false := by
  rw [List.all_eq_false]
  exact ⟨i, List.mem_range.2 hi, by simpa using h⟩

/-- What is known of the places while they are looked at. -/
structure PsOk (zs : List Int) (ps : List P3) : Prop where
  le : ps.length ≤ 273
  pos : 0 < ps.length
  ok : ∀ i, i < ps.length → ∃ F : Nat, (pAt ps i).fr = F ∧ F * 16 + 16 ≤ zs.length

set_option maxHeartbeats 2000000 in
theorem specPlaces_yes (g : Nat) (zs : List Int) (c : Nat) (n : Int) (ps : List P3) (hn : n = nfr zs.length) (hn0 : nfr zs.length ≠ 0) (hlen : zs.length ≤ 8192) (hps : PsOk zs ps)
    (hd : ∀ i k, i < ps.length → k < 16 → ∀ w, Calls Try.prog 52 #[.int .i64 (pAt ps i).lv, .int .u64 (wordAt zs (pAt ps i).fr k)] w fun e w' => e = .returned (.agg #[.int .i64 (dKind (pAt ps i).lv (wordAt zs (pAt ps i).fr k)), .int .i64 (dOut (pAt ps i).lv (wordAt zs (pAt ps i).fr k)), .int .i64 (dPerm (pAt ps i).lv (wordAt zs (pAt ps i).fr k))]) ∧ Below w.heap.size w w')
    (hbl : ∀ w, CRow w g zs → Calls Try.prog 51 #[.agg #[.slice (some ⟨g, 0, none⟩) zs.length c], .agg #[.int .i64 0, .int .i64 1, .int .i64 0]] w fun e w' => ∃ a c, e = .returned (.slice a ps.length c) ∧ PRow w' w.heap.size (.slice a ps.length c) ps ∧ Below w.heap.size w w')
    (w : World) (hg : CRow w g zs) :
    Calls Try.prog 13 #[.agg #[.slice (some ⟨g, 0, none⟩) zs.length c]] w fun e w' => ∃ a c', e = .returned (.tuple #[.slice a ps.length c', .bool (treeTo zs n ps ps.length)]) ∧ PRow w' w.heap.size (.slice a ps.length c') ps ∧ Below w.heap.size w w' := by
  have hf := frames_any (some ⟨g, 0, none⟩) zs.length c (by omega)
  rw [← hn] at hf
  have hn1 : (n == 0) = false := by simp; omega
  have hnle : 0 ≤ n ∧ n ≤ 512 := by have := nfr_le zs.length; have := nfr_mul zs.length hn0; omega
  have HNN : Hid (n = nfr zs.length) := hn
  have HD : Hid _ := hd
  have HPS : Hid (PsOk _ _) := hps
  have hpl := hps.le
  clear hn hn0 hd hps
  go_enter Try.func13, Try.ntmps13
  go_wp2_with (go_at_call 50; refine (hf _).mono ?_; rintro e w1 ⟨rfl, hb1⟩; obtain ⟨hc1, hf1⟩ := bcell hb1)
  refine (hbl w1 ?_).mono ?_
  · exact hg.below (((Below.refl _ _).alloc (Nat.le_refl _) _).trans (hb1.mono (by simp))) hg.lt
  rintro e w3 ⟨a3, c3, rfl, hrow, hb3⟩
  obtain ⟨a3', c3', hab, hform⟩ := hrow.form
  simp only [Value.slice.injEq] at hab
  obtain ⟨gp, N, f, h1, h2, h3, h4, h5⟩ := hform HPS.out.pos
  have ha3 : a3 = some ⟨gp, 0, none⟩ := hab.1.trans h1
  subst ha3
  have hs1 := hb1.size
  simp at hs1
  have hs3 := hb3.size
  have hbase : Below w.heap.size w w3 := (((Below.refl _ _).alloc (Nat.le_refl _) _).trans (hb1.mono (by simp))).trans (hb3.mono (by omega))
  have hg3 : CRow w3 g zs := hg.below hbase hg.lt
  have hbox : w3.cell? ⟨w.heap.size, 0, none⟩ = some (.slice (some ⟨g, 0, none⟩) zs.length c) := by
    rw [hb3.cell (by simp; omega), hb1.cell (by simp)]; simp [go_sem]
  have HROW : Hid (PRow w3 w.heap.size _ ps) := hrow.rebase (by omega)
  have HBASE : Hid (Below _ _ _) := hbase
  have HG : Hid (CRow w3 g zs) := hg3
  have HB : Hid (w3.cell? ⟨w.heap.size, 0, none⟩ = some (.slice (some ⟨g, 0, none⟩) zs.length c)) := hbox
  have HPR : Hid (w3.rowIs gp 80 N f ∧ ps.length * 3 ≤ N ∧ ∀ i, i < ps.length → f (i * 3) = .int .i64 (pAt ps i).fr ∧ f (i * 3 + 1) = .int .i64 (pAt ps i).lv ∧ f (i * 3 + 2) = .int .i64 (pAt ps i).pg) := ⟨h3, h4, h5⟩
  have hsz0 : w.heap.size < w3.heap.size := by omega
  clear hc1 hf1 hb1 hb3 hrow hform hab h1 h2 h3 h4 h5 hbase hg3 hbox hf hbl hg hs1 hs3
  go_wp2_with fail
  go_loopw [6] (fun iv wr => ∃ i : Nat, i ≤ ps.length ∧ iv = .int .i64 i ∧ treeTo zs n ps i = true ∧ Below w3.heap.size w3 wr) (fun iv _ => ps.length - (intOf iv).toNat)
  case atStart => exact ⟨0, Nat.zero_le _, rfl, rfl, Below.refl _ _⟩
  case round =>
    obtain ⟨i, hi, rfl, htr, hb⟩ := hrel
    by_cases hlt : i < ps.length
    · obtain ⟨hrw, hN, hpa⟩ := HPR.out
      have HTR : Hid _ := htr
      have HBo : Hid (Below _ _ _) := hb
      obtain ⟨wo, hwo⟩ : ∃ wo : World, wo = wr := ⟨_, rfl⟩
      have hbo : Below w3.heap.size w3 wo := by rw [hwo]; exact hb
      have HBO : Hid (Below _ _ _) := hbo
      have hso := hbo.size
      have I1 : (0 : Int) ≤ (i : Int) := by omega
      have I2 : (i : Int) < (ps.length : Int) := by omega
      have HWO : Hid (wo = wr) := hwo
      clear htr hb hbo hwo
      go_wp2_with fail
      go_loopw [7] (fun jv wr => ∃ j : Nat, j ≤ i ∧ jv = .int .i64 j ∧ (List.range j).all (fun j => !decide ((pAt ps i).fr = (pAt ps j).fr)) = true ∧ Below w3.heap.size w3 wr) (fun jv _ => i - (intOf jv).toNat)
      case atStart => exact ⟨0, Nat.zero_le _, rfl, rfl, HBo.out⟩
      case round =>
        obtain ⟨j, hj, rfl, hall, hb⟩ := hrel
        by_cases hlt2 : j < i
        · have hr1 : wr.rowIs gp _ N f := hrw.of_block (hb.block gp hrw.lt)
          have k1 := hr1.cell (i := i * 3) (by omega)
          have k2 := hr1.cell (i := j * 3) (by omega)
          rw [(hpa i hlt).1] at k1
          rw [(hpa j (by omega)).1] at k2
          have J1 : (0 : Int) ≤ (j : Int) := by omega
          have J2 : (j : Int) < (ps.length : Int) := by omega
          have J3 : (j : Int) < (i : Int) := by omega
          have hsucc := all_range_succ (fun j => !decide ((pAt ps i).fr = (pAt ps j).fr)) j
          by_cases heq : (pAt ps i).fr = (pAt ps j).fr
          · have hfalse : treeTo zs n ps ps.length = false := treeTo_false zs n ps i _ hlt (by
              rw [freshP, all_range_false _ j i hlt2 (by simp [heq]), Bool.false_and])
            rw [heq] at k1
            have HFA : Hid _ := hfalse
            have HBj : Hid (Below _ _ _) := hb
            clear hsucc heq hfalse hall hr1 hb hrw hpa
            generalize (pAt ps j).fr = A at *
            go_wp2_with fail
            go_quiet (fail)
            go_wp2_with fail
            go_ret2
            exact ⟨some ⟨gp, 0, none⟩, c3, by rw [HFA.out]; rfl, HROW.out.below (bDrewN HBj.out _), HBASE.out.trans ((bDrewN HBj.out _).mono (by omega))⟩
          · have hne : ((pAt ps i).fr == (pAt ps j).fr) = false := by simpa using heq
            have hstep : (List.range (j + 1)).all (fun j => !decide ((pAt ps i).fr = (pAt ps j).fr)) = true := by
              rw [hsucc, hall]; simp [heq]
            have HST : Hid _ := hstep
            have HBj : Hid (Below _ _ _) := hb
            clear hsucc heq hall hstep hr1 hb hrw hpa
            go_wp2_with fail
            go_quiet (fail)
            go_wp2_with fail
            go_roundw
            case rel => exact ⟨j + 1, by omega, by go_num, HST.out, bDrewN HBj.out _⟩
            case measure => simp [intOf]; omega
        · have e : j = i := by omega
          subst e
          have hfr : freshP ps j = true := hall
          have HFR : Hid _ := hfr
          have HBj : Hid (Below _ _ _) := hb
          clear hall hfr hb
          have hsu := treeTo_succ zs n ps j
          rw [HTR.out, HFR.out, Bool.true_and, Bool.true_and] at hsu
          have HSU : Hid _ := hsu
          clear hsu
          go_wp2_with fail
          go_loopw [8] (fun kv wr => ∃ k : Nat, k ≤ 16 ∧ kv = .int .i64 k ∧ (List.range k).all (soundW zs n (pAt ps j)) = true ∧ Below w3.heap.size w3 wr) (fun kv _ => 16 - (intOf kv).toNat)
          case atStart => exact ⟨0, Nat.zero_le _, rfl, rfl, HBj.out⟩
          case round =>
            obtain ⟨k, hk, rfl, hall, hb⟩ := hrel
            by_cases hlt3 : k < 16
            · obtain ⟨F, hF, hF2⟩ := HPS.out.ok j hlt
              have hr1 : wr.rowIs gp _ N f := hrw.of_block (hb.block gp hrw.lt)
              have hgp := hr1.lt
              have k1 := hr1.cell (i := j * 3) (by omega)
              have k2 := hr1.cell (i := j * 3 + 1) (by omega)
              rw [(hpa j hlt).1] at k1
              rw [(hpa j hlt).2.1] at k2
              have hgr : CRow wr g zs := HG.out.below hb HG.out.lt
              have hgl := hgr.lt
              have cw := hgr.cell (i := F * 16 + k) (by omega)
              have ew : zs.getD (F * 16 + k) 0 = wordAt zs (pAt ps j).fr k := by simp [wordAt, hF]; congr 1
              rw [ew] at cw
              have c0 := (hb.cell (p := ⟨w.heap.size, 0, none⟩) (by simpa using hsz0)).trans HB.out
              have hdk := HD.out j k hlt hlt3
              have hsz := hb.size
              have hsw := all_range_succ (soundW zs n (pAt ps j)) k
              have hfa : soundW zs n (pAt ps j) k = false → treeTo zs n ps ps.length = false := fun h => treeTo_false zs n ps j _ hlt (by
                rw [soundP, all_range_false _ k 16 hlt3 h, Bool.and_false])
              have hsk : soundW zs n (pAt ps j) k = !(decide (dKind (pAt ps j).lv (wordAt zs (pAt ps j).fr k) = 4) || (decide (dKind (pAt ps j).lv (wordAt zs (pAt ps j).fr k) = 1) && decide (n ≤ dOut (pAt ps j).lv (wordAt zs (pAt ps j).fr k)))) := rfl
              rw [hF] at k1
              rw [hall, Bool.true_and] at hsw
              have HSW : Hid _ := hsw
              have HFA : Hid _ := hfa
              have HBk : Hid (Below _ _ _) := hb
              have dO := dOut_lo (pAt ps j).lv (wordAt zs (pAt ps j).fr k)
              clear ew hsw hfa hall hr1 hgr hb hrw hpa hF
              generalize wordAt zs (pAt ps j).fr k = X at *
              generalize dKind (pAt ps j).lv X = K at *
              generalize dOut (pAt ps j).lv X = O at *
              generalize dPerm (pAt ps j).lv X = M at *
              generalize (pAt ps j).lv = L at *
              have HSK : Hid _ := hsk
              clear hsk
              have L1 : (0 : Int) ≤ (F : Int) * 16 + (k : Int) := by omega
              have L2 : (F : Int) * 16 + (k : Int) < (zs.length : Int) := by omega
              have W1 : IntKind.i64.wrap ((F : Int) * 16) = (F : Int) * 16 := by rw [IntKind.wrap_i64]; omega
              have W2 : IntKind.i64.wrap ((F : Int) * 16 + (k : Int)) = (F : Int) * 16 + (k : Int) := by rw [IntKind.wrap_i64]; omega
              have T1 : ((F : Int) * 16 + (k : Int)).toNat = F * 16 + k := by omega
              go_upto_region 16 with fail
              go_cut [9] (fun d9 wx => ∃ D, d9 = .pointer (some ⟨D, 0, none⟩) ∧ wx.cell? ⟨D, 0, none⟩ = some (.int .i64 K) ∧ wx.cell? ⟨D, 1, none⟩ = some (.int .i64 O) ∧ Below wr.heap.size wr wx)
              case first =>
                have HK : Hid (∀ wX, Below wr.heap.size wr wX → wX.cell? ⟨gp, j * 3, none⟩ = some (.int .i64 F) ∧ wX.cell? ⟨gp, j * 3 + 1, none⟩ = some (.int .i64 L) ∧ wX.cell? ⟨w.heap.size, 0, none⟩ = some (.slice (some ⟨g, 0, none⟩) zs.length c) ∧ wX.cell? ⟨g, F * 16 + k, none⟩ = some (.int .u64 X)) :=
                  fun wX h => ⟨(h.cell (by simpa using hgp)).trans k1, (h.cell (by simpa using hgp)).trans k2, (h.cell (by simp; omega)).trans c0, (h.cell (by simpa using hgl)).trans cw⟩
                go_region_held3 (fun w' => w'.cell? ⟨gp, j * 3, none⟩ = some (.int .i64 F) ∧ w'.cell? ⟨gp, j * 3 + 1, none⟩ = some (.int .i64 L) ∧ w'.cell? ⟨w.heap.size, 0, none⟩ = some (.slice (some ⟨g, 0, none⟩) zs.length c) ∧ w'.cell? ⟨g, F * 16 + k, none⟩ = some (.int .u64 X))
                  ((refine HK.out _ ?_; repeat (first | exact Below.refl _ _ | with_reducible refine Below.drew ?_ | with_reducible refine Below.setCell ?_ (by first | omega | (simp <;> omega)) _ | with_reducible refine Below.alloc ?_ (by first | omega | (simp <;> omega)) _ | refine Below.trans ?_ (hb1.mono (by first | omega | (simp <;> omega))))))
                  (first | (go_at_call 52; refine (hdk _).mono ?_; rintro e w1 ⟨rfl, hb1⟩; obtain ⟨hc1, hf1⟩ := bcell hb1; have hz1 := hb1.size; simp at hz1))
                all_goals
                  go_wp2_with fail
                  go_meet
                  case rel =>
                    refine ⟨_, rfl, ?_, ?_, ?_⟩
                    · simp [go_sem, hc1]
                    · simp [go_sem, hc1]
                    · repeat (first | exact Below.refl _ _ | with_reducible refine Below.drew ?_ | with_reducible refine Below.setCell ?_ (by first | omega | (simp <;> omega)) _ | with_reducible refine Below.alloc ?_ (by first | omega | (simp <;> omega)) _ | refine Below.trans ?_ (hb1.mono (by first | omega | (simp <;> omega))))
              case rest =>
                obtain ⟨D, rfl, d0, d1, hbx⟩ := hcut
                have hbxx : Below w3.heap.size w3 wc := HBk.out.trans (hbx.mono hsz)
                have HBXX : Hid (Below _ _ _) := hbxx
                clear k1 k2 c0 cw hdk W1 W2 T1 L1 L2 hbx hbxx
                by_cases hK4 : K = 4
                · subst hK4
                  have HFA2 : Hid (treeTo zs n ps ps.length = false) := HFA.out (by rw [HSK.out]; simp)
                  clear HFA HSW HSK
                  go_wp2_with fail
                  go_ret2
                  exact ⟨some ⟨gp, 0, none⟩, c3, by rw [HFA2.out]; rfl, HROW.out.below HBXX.out, HBASE.out.trans (HBXX.out.mono (by omega))⟩
                · by_cases hK1 : K = 1
                  · subst hK1
                    by_cases hO : n ≤ O
                    · have hO' : decide (n ≤ O) = true := by simpa using hO
                      have HFA2 : Hid (treeTo zs n ps ps.length = false) := HFA.out (by rw [HSK.out]; simp [hO])
                      clear HFA HSW HSK
                      go_wp2_with fail
                      go_ret2
                      exact ⟨some ⟨gp, 0, none⟩, c3, by rw [HFA2.out]; rfl, HROW.out.below HBXX.out, HBASE.out.trans (HBXX.out.mono (by omega))⟩
                    · have hO' : decide (n ≤ O) = false := by simpa using hO
                      have HST : Hid ((List.range (k + 1)).all (soundW zs n (pAt ps j)) = true) := by
                        exact (show _ = true by rw [HSW.out, HSK.out]; simp [hO])
                      clear HFA HSW HSK
                      go_wp2_with fail
                      go_roundw
                      case rel => exact ⟨k + 1, by omega, by go_num, HST.out, HBXX.out⟩
                      case measure => simp [intOf]; omega
                  · have hK4' : (K == 4) = false := by simpa using hK4
                    have hK1' : (K == 1) = false := by simpa using hK1
                    have HST : Hid ((List.range (k + 1)).all (soundW zs n (pAt ps j)) = true) := by
                      exact (show _ = true by rw [HSW.out, HSK.out]; simp [hK4, hK1])
                    clear HFA HSW HSK
                    go_wp2_with fail
                    go_roundw
                    case rel => exact ⟨k + 1, by omega, by go_num, HST.out, HBXX.out⟩
                    case measure => simp [intOf]; omega
            · have e : k = 16 := by omega
              subst e
              have hT : treeTo zs n ps (j + 1) = true := by rw [HSU.out]; exact hall
              have HT : Hid _ := hT
              clear hT hall
              go_wp2_with fail
              go_roundw
              case rel => exact ⟨j + 1, by omega, by go_num, HT.out, hb⟩
              case measure => simp [intOf]; omega
    · have e : i = ps.length := by omega
      subst e
      have HT : Hid _ := htr
      clear htr
      go_wp2_with fail
      go_ret2
      exact ⟨some ⟨gp, 0, none⟩, c3, by rw [HT.out]; rfl, HROW.out.below hb, HBASE.out.trans (hb.mono (by omega))⟩
end Go.Proofs.Ytnmhkgmmpkjjeab
