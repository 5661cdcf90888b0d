import Derived.Test.YtnmhkgmmpkjjeabIAddB
import Derived.Test.YtnmhkgmmpkjjeabSPlcC
namespace Go.Proofs.Ytnmhkgmmpkjjeab
open Go.ChangeShapes Go.WideShapes Go.ChangeAt Go.RowKit
set_option linter.unusedVariables false
attribute [local go_sem ↓] Go.wp_at_zero Go.wp_at_succ

set_option maxHeartbeats 1000000 in
theorem sound_any (g : Nat) (zs : List Int) (c : Nat) (p : P3) (F : Nat) (hF : p.fr = F) (hF2 : F * 16 + 16 ≤ zs.length) (hlen : zs.length ≤ 8192) (hcc : zs.length ≤ c) (n : Int) (hn : n * 16 = zs.length)
    (hd : ∀ i, i < 16 → ∀ w, Calls Try.prog 121 #[.int .i64 p.lv, .int .u64 (wordAt zs p.fr i)] w fun e w' => e = .returned (.agg #[.int .i64 (dKind p.lv (wordAt zs p.fr i)), .int .i64 (dOut p.lv (wordAt zs p.fr i)), .int .i64 (dPerm p.lv (wordAt zs p.fr i))]) ∧ Below w.heap.size w w')
    (w : World) (hg : CRow w g zs) :
    Calls Try.prog 118 #[.agg #[.slice (some ⟨g, 0, none⟩) zs.length c], .agg #[.int .i64 p.fr, .int .i64 p.lv, .int .i64 p.pg]] w fun e w' => e = .returned (.bool (soundP zs n p)) ∧ Below w.heap.size w w' := by
  obtain ⟨w2, hw2⟩ : ∃ w2, w2 = (w.alloc (.cells #[.slice (some ⟨g, 0, none⟩) zs.length c] 29)).alloc (.cells #[.int .i64 p.fr, .int .i64 p.lv, .int .i64 p.pg] 80) := ⟨_, rfl⟩
  have hz2 : w2.heap.size = w.heap.size + 2 := by rw [hw2]; simp
  have hb2 : Below w.heap.size w w2 := by rw [hw2]; exact ((Below.refl _ _).alloc (Nat.le_refl _) _).alloc (by simp) _
  have q0 : w2.cell? ⟨w.heap.size, 0, none⟩ = some (.slice (some ⟨g, 0, none⟩) zs.length c) := by rw [hw2]; simp [go_sem]
  have q2 : w2.cell? ⟨w.heap.size + 1, 1, none⟩ = some (.int .i64 p.lv) := by rw [hw2]; simp [go_sem]
  have htab := tableAt_any g zs c F hF2 hlen hcc w2 (hg.below hb2 hg.lt)
  rw [hw2, ← hF] at htab
  have HQ : Hid (w2.cell? ⟨w.heap.size, 0, none⟩ = some (.slice (some ⟨g, 0, none⟩) zs.length c) ∧ w2.cell? ⟨w.heap.size + 1, 1, none⟩ = some (.int .i64 p.lv)) := ⟨q0, q2⟩
  have HZ : Hid (w2.heap.size = w.heap.size + 2) := hz2
  have HW2 : Hid (w2 = _) := hw2
  have HB2 : Hid (Below _ _ _) := hb2
  have HD : Hid _ := hd
  have HF : Hid (p.fr = F) := hF
  clear hz2 hw2 hb2 q0 q2 hd hF hg
  go_enter Try.func118, Try.ntmps118
  go_wp2_with fail
  refine htab.mono ?_
  rintro e wt ⟨⟨T, rfl, hTs, hT⟩, hbt⟩
  have hbt2 : Below w2.heap.size w2 wt := by rw [HW2.out]; exact hbt
  have HT : Hid _ := hT
  clear htab hT hTs hbt
  go_wp2_with fail
  go_loopw [12] (fun iv wr => ∃ k : Nat, k ≤ 16 ∧ iv = .int .i64 k ∧ (List.range k).all (soundW zs n p) = true ∧ Below w2.heap.size w2 wr) (fun iv _ => 16 - (intOf iv).toNat)
  case atStart => exact ⟨0, by omega, rfl, rfl, hbt2⟩
  case round =>
    obtain ⟨k, hk, rfl, hall, hb⟩ := hrel
    have hsz := hb.size
    have hz := HZ.out
    by_cases hlt : k < 16
    · obtain ⟨q0, q2⟩ := HQ.out
      have c0 := (hb.cell (p := ⟨w.heap.size, 0, none⟩) (by simp; omega)).trans q0
      have c2 := (hb.cell (p := ⟨w.heap.size + 1, 1, none⟩) (by simp; omega)).trans q2
      have hTk := HT.out k hlt
      have ew : zs.getD (F * 16 + k) 0 = wordAt zs p.fr k := by simp [wordAt, HF.out]; congr 1
      rw [ew] at hTk
      have hdk := HD.out k hlt
      have dO := dOut_lo p.lv (wordAt zs p.fr k)
      have hsw := all_range_succ (soundW zs n p) k
      rw [hall, Bool.true_and] at hsw
      have hfa : soundW zs n p k = false → soundP zs n p = false := fun h => by rw [soundP, all_range_false _ k 16 hlt h]
      have hsk : soundW zs n p k = !(decide (dKind p.lv (wordAt zs p.fr k) = 4) || (decide (dKind p.lv (wordAt zs p.fr k) = 1) && decide (n ≤ dOut p.lv (wordAt zs p.fr k)))) := rfl
      have HSW : Hid _ := hsw
      have HFA : Hid _ := hfa
      have HBk : Hid (Below _ _ _) := hb
      have N0 : w.heap.size + 2 ≤ wr.heap.size := by omega
      clear ew hsw hfa hall hb q0 q2 hz hsz hbt2
      generalize wordAt zs p.fr k = X at *
      generalize dKind p.lv X = K at *
      generalize dOut p.lv X = O at *
      generalize dPerm p.lv X = M at *
      have HSK : Hid _ := hsk
      have hix := run_index_tab T k hlt X hTk
      have hfr := hasFrame_any (some ⟨g, 0, none⟩) zs.length c O n hn dO.1 hlen
      have L1 : (0 : Int) ≤ (k : Int) := by omega
      have L2 : (k : Int) < 16 := by omega
      clear hsk hTk
      go_wp2_with fail
      refine (hdk wr).mono ?_
      rintro e w1 ⟨rfl, hb1⟩
      have hs1 := hb1.size
      have e0 := (hb1.cell (p := ⟨w.heap.size, 0, none⟩) (by simp; omega)).trans c0
      have N1 : w.heap.size < w1.heap.size := by omega
      have hbw : Below w2.heap.size w2 (w1.alloc (.cells #[.int .i64 K, .int .i64 O, .int .i64 M] 82)) := (HBk.out.trans (hb1.mono HBk.out.size)).alloc (by have := HBk.out.size; omega) _
      have HBW : Hid (Below _ _ _) := hbw
      clear c0 c2 hdk hix hb1 hbw
      by_cases hK4 : K = 4
      · subst hK4
        have HFA2 : Hid (soundP zs n p = false) := HFA.out (by rw [HSK.out]; simp)
        clear HFA HSW HSK
        go_wp2_with fail
        go_ret
        exact ⟨by rw [HFA2.out]; rfl, HB2.out.trans (HBW.out.mono (by have := HZ.out; omega))⟩
      · by_cases hK1 : K = 1
        · subst hK1
          by_cases hO : O < n
          · have hO' : decide (O < n) = true := by simpa using hO
            rw [hO'] at hfr
            have HST : Hid ((List.range (k + 1)).all (soundW zs n p) = true) := by
              exact (show _ = true by rw [HSW.out, HSK.out]; simp; omega)
            clear HFA HSW HSK
            go_wp2_with (go_at_call 125; refine (hfr _).mono ?_; rintro e w4 ⟨rfl, hb4⟩)
            go_roundw
            case rel => exact ⟨k + 1, by omega, by go_num, HST.out, HBW.out.trans (hb4.mono (by have := HBW.out.size; omega))⟩
            case measure => simp [intOf]; omega
          · have hO' : decide (O < n) = false := by simpa using hO
            rw [hO'] at hfr
            have HFA2 : Hid (soundP zs n p = false) := HFA.out (by rw [HSK.out]; simp; omega)
            clear HFA HSW HSK
            go_wp2_with (go_at_call 125; refine (hfr _).mono ?_; rintro e w4 ⟨rfl, hb4⟩)
            go_ret
            exact ⟨by rw [HFA2.out]; rfl, HB2.out.trans ((HBW.out.trans (hb4.mono (by have := HBW.out.size; omega))).mono (by have := HZ.out; omega))⟩
        · have hK4' : (K == 4) = false := by simpa using hK4
          have hK1' : (K == 1) = false := by simpa using hK1
          have HST : Hid ((List.range (k + 1)).all (soundW zs n p) = true) := by
            exact (show _ = true by rw [HSW.out, HSK.out]; simp [hK4, hK1])
          clear HFA HSW HSK
          go_wp2_with fail
          go_roundw
          case rel => exact ⟨k + 1, by omega, by go_num, HST.out, HBW.out⟩
          case measure => simp [intOf]; omega
    · have e : k = 16 := by omega
      subst e
      have hS : soundP zs n p = true := hall
      have HS : Hid _ := hS
      clear hS hall
      go_wp2_with fail
      go_ret
      exact ⟨by rw [HS.out]; rfl, HB2.out.trans (hb.mono (by omega))⟩

theorem zero512 : Try.zeroCells164 = Array.replicate 512 (.bool false) := by kernel_rfl
/-- Has one of the first i places the frame f? -/
def seen (ps : List P3) (i : Nat) (f : Nat) : Bool := (List.range i).any fun j => decide ((pAt ps j).fr = (f : Int))
theorem seen_succ (ps : List P3) (i f : Nat) : seen ps (i + 1) f = (seen ps i f || decide ((pAt ps i).fr = (f : Int))) := by
  simp [seen, List.range_succ, List.any_append]
theorem seen_fresh (ps : List P3) (i F : Nat) (h : (pAt ps i).fr = F) : freshP ps i = !seen ps i F := by
  simp only [freshP, seen, h, List.not_any_eq_all_not]
  congr 1
  funext j
  by_cases e : (F : Int) = (pAt ps j).fr
  · simp [e]
  · simp [e]
    exact fun h => e h.symm

set_option maxHeartbeats 1000000 in
set_option maxRecDepth 100000 in
theorem isTree_any (g : Nat) (zs : List Int) (c : Nat) (ps : List P3) (hps : PsOk zs ps) (hlen : zs.length ≤ 8192) (hcc : zs.length ≤ c) (n : Int) (hn : n * 16 = zs.length)
    (hsd : ∀ i w, i < ps.length → CRow w g zs → Calls Try.prog 118 #[.agg #[.slice (some ⟨g, 0, none⟩) zs.length c], .agg #[.int .i64 (pAt ps i).fr, .int .i64 (pAt ps i).lv, .int .i64 (pAt ps i).pg]] w fun e w' => e = .returned (.bool (soundP zs n (pAt ps i))) ∧ Below w.heap.size w w')
    (v : Value) (bv : Nat) (w : World) (hg : CRow w g zs) (hv : PRow w bv v ps) :
    Calls Try.prog 56 #[.agg #[.slice (some ⟨g, 0, none⟩) zs.length c], v] w fun e w' => e = .returned (.bool (treeTo zs n ps ps.length)) ∧ Below w.heap.size w w' := by
  obtain ⟨a3, c3, rfl, hform⟩ := hv.form
  obtain ⟨gp, N, f, rfl, _, hrw, hN, hpa⟩ := hform hps.pos
  have hpl := hps.le
  obtain ⟨wb, hwb⟩ : ∃ wb, wb = w.alloc (.cells #[.slice (some ⟨g, 0, none⟩) zs.length c] 29) := ⟨_, rfl⟩
  have hzb : wb.heap.size = w.heap.size + 1 := by rw [hwb]; simp
  have hbb : Below w.heap.size w wb := by rw [hwb]; exact (Below.refl _ _).alloc (Nat.le_refl _) _
  have qb : wb.cell? ⟨w.heap.size, 0, none⟩ = some (.slice (some ⟨g, 0, none⟩) zs.length c) := by rw [hwb]; simp [go_sem]
  have HPR : Hid (w.rowIs gp 80 N f ∧ ps.length * 3 ≤ N ∧ ∀ i, i < ps.length → f (i * 3) = .int .i64 (pAt ps i).fr ∧ f (i * 3 + 1) = .int .i64 (pAt ps i).lv ∧ f (i * 3 + 2) = .int .i64 (pAt ps i).pg) := ⟨hrw, hN, hpa⟩
  have HG : Hid (CRow w g zs) := hg
  have HPS : Hid (PsOk zs ps) := hps
  have HSD : Hid _ := hsd
  have HWB : Hid (wb = _) := hwb
  have HZB : Hid (wb.heap.size = w.heap.size + 1) := hzb
  have HBB : Hid (Below _ _ _) := hbb
  have HQB : Hid (wb.cell? ⟨w.heap.size, 0, none⟩ = some (.slice (some ⟨g, 0, none⟩) zs.length c)) := qb
  clear hv hform hrw hN hpa hg hps hsd hwb hzb hbb qb
  go_enter Try.func56, Try.ntmps56
  go_wp2_with fail
  go_loopw [10] (fun iv wr => ∃ i : Nat, i ≤ ps.length ∧ iv = .int .i64 i ∧ treeTo zs n ps i = true ∧ wr.rowIs (w.heap.size + 1) 164 512 (fun q => .bool (seen ps i q)) ∧ Below (w.heap.size + 1) wb wr) (fun iv _ => ps.length - (intOf iv).toNat)
  case atStart =>
    refine ⟨0, Nat.zero_le _, rfl, rfl, ?_, ?_⟩
    · have h := World.rowIs_alloc wb Try.zeroCells164 164 (fun q => .bool (seen ps 0 q)) (by
        intro i hi
        rw [zero512] at hi ⊢
        rw [Array.getElem?_eq_getElem hi]
        simp [seen])
      rw [HZB.out, HWB.out] at h
      rw [zero512, Array.size_replicate] at h
      rw [zero512]
      exact h
    · rw [HWB.out]
      exact (Below.refl (w.heap.size + 1) _).alloc (by simp) _
  case round =>
    obtain ⟨i, hi, rfl, htr, hrch, hb⟩ := hrel
    by_cases hlt : i < ps.length
    · obtain ⟨hrw, hN, hpa⟩ := HPR.out
      obtain ⟨F, hF, hF2⟩ := HPS.out.ok i hlt
      have hbw : Below w.heap.size w wr := HBB.out.trans (hb.mono (by omega))
      have hr1 : wr.rowIs gp _ N f := hrw.of_block (hbw.block gp hrw.lt)
      obtain ⟨x1, x2, x3⟩ := hpa i hlt
      have k1 := hr1.cell (i := i * 3) (by omega)
      have k2 := hr1.cell (i := i * 3 + 1) (by omega)
      have k3 := hr1.cell (i := i * 3 + 2) (by omega)
      rw [x1, hF] at k1
      rw [x2] at k2
      rw [x3] at k3
      have hgr : CRow wr g zs := HG.out.below hbw HG.out.lt
      have c0 := (hb.cell (p := ⟨w.heap.size, 0, none⟩) (by simp)).trans HQB.out
      have rF := hrch.cell (i := F) (by omega)
      have fF := hrch.frozen F
      have hsd := HSD.out i
      rw [hF] at hsd
      have hfs := seen_fresh ps i F hF
      have hsu := treeTo_succ zs n ps i
      rw [htr, Bool.true_and, hfs] at hsu
      have htf : (freshP ps i && soundP zs n (pAt ps i)) = false → treeTo zs n ps ps.length = false := treeTo_false zs n ps i _ hlt
      rw [hfs] at htf
      have hss : ∀ q, seen ps (i + 1) q = (seen ps i q || decide ((F : Int) = (q : Int))) := fun q => by rw [seen_succ, hF]
      have hrl := hrch.lt
      have HRCH : Hid (wr.rowIs (w.heap.size + 1) _ 512 _) := hrch
      have HB : Hid (Below (w.heap.size + 1) wb wr) := hb
      have HSS : Hid _ := hss
      have HSU : Hid _ := hsu
      have HTF : Hid _ := htf
      have HGR : Hid (CRow _ _ _) := hgr
      have HSDI : Hid _ := hsd
      have I1 : (0 : Int) ≤ (i : Int) := by omega
      have I2 : (i : Int) < (ps.length : Int) := by omega
      have F1 : (F : Int) < 512 := by omega
      have N1 : w.heap.size < wr.heap.size := by omega
      clear hrw hpa x1 x2 x3 hr1 hgr hsd hfs hsu htf hss hrch hb hbw htr hF HPR HSD
      generalize (pAt ps i).lv = L at *
      generalize (pAt ps i).pg = G at *
      generalize soundP zs n (pAt ps i) = S at *
      cases hsn : seen ps i F
      · rw [hsn] at rF
        go_wp2_with fail
        refine (HSDI.out _ hlt ?_).mono ?_
        · exact HGR.out.of_block (Below.heap_alloc _ _ _ HGR.out.lt)
        rintro e w4 ⟨rfl, hb4⟩
        have hs4 := hb4.size
        simp at hs4
        have hrow4 : w4.rowIs (w.heap.size + 1) 164 512 (fun q => .bool (seen ps i q)) := (HRCH.out.alloc (.cells #[.int .i64 F, .int .i64 L, .int .i64 G] 80)).of_block (hb4.block _ (by simp; omega))
        have hb5 : Below (w.heap.size + 1) wb w4 := (HB.out.alloc (by omega) (.cells #[.int .i64 F, .int .i64 L, .int .i64 G] 80)).trans (hb4.mono (by simp; omega))
        have p1 : w4.cell? ⟨wr.heap.size, 0, none⟩ = some (.int .i64 F) := by rw [hb4.cell (by simp)]; simp [go_sem]
        have r1 := hrow4.cell (i := F) (by omega)
        have f1 := hrow4.frozen F
        have HR4 : Hid (w4.rowIs (w.heap.size + 1) _ 512 _) := hrow4
        have HB5 : Hid (Below _ wb w4) := hb5
        clear hrow4 hb5 hb4 k1 k2 k3 c0 rF fF
        cases S
        · have HFA2 : Hid (treeTo zs n ps ps.length = false) := HTF.out (by simp)
          go_wp2_with fail
          go_ret
          exact ⟨by rw [HFA2.out]; rfl, HBB.out.trans (HB5.out.mono (by omega))⟩
        · have HT2 : Hid (treeTo zs n ps (i + 1) = true) := by
            exact (show _ = true by rw [HSU.out, hsn]; rfl)
          clear hsn
          go_wp2_with fail
          go_roundw
          case rel =>
            refine ⟨i + 1, by omega, by go_num, HT2.out, ?_, HB5.out.setCell (by simp) _⟩
            refine (HR4.out.set F _).congr ?_
            intro q hq
            rw [HSS.out q]
            by_cases e : q = F
            · subst e; simp
            · rw [if_neg e]; simp [show ¬ (F : Int) = (q : Int) by omega]
          case measure => simp [intOf]; omega
      · rw [hsn] at rF
        have HFA2 : Hid (treeTo zs n ps ps.length = false) := HTF.out (by rw [hsn]; rfl)
        clear hsn
        go_wp2_with fail
        go_ret
        exact ⟨by rw [HFA2.out]; rfl, HBB.out.trans ((HB.out.mono (by omega)).alloc (by omega) _)⟩
    · have e : i = ps.length := by omega
      subst e
      have HT : Hid _ := htr
      clear htr
      go_wp2_with fail
      go_ret
      exact ⟨by rw [HT.out]; rfl, HBB.out.trans (hb.mono (by omega))⟩
end Go.Proofs.Ytnmhkgmmpkjjeab
