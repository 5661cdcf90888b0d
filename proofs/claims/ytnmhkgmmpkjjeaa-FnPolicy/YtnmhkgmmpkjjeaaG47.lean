import Derived.Test.YtnmhkgmmpkjjeaaG17
namespace Go.Proofs.Ytnmhkgmmpkjjeaa
open Go.ChangeShapes Go.WideShapes Go.ChangeAt Go.RowKit
set_option linter.unusedVariables false
set_option maxRecDepth 100000
attribute [local go_sem ↓] Go.wp_at_zero Go.wp_at_succ
attribute [local go_sem] bs_size bs_cAt bs_app bs_mk bs_cut bs_list

def PolPost (w : World) (r : List SpanE × Int × Int) (e : Ending) (w' : World) : Prop :=
  ∃ g c1, e = .returned (.tuple #[.slice (some ⟨g, 0, none⟩) r.1.length c1, .agg #[.int .i64 r.2.1, .int .i64 r.2.2]]) ∧ ERow eSpan w' w.heap.size (.slice (some ⟨g, 0, none⟩) r.1.length c1) r.1 ∧ Below w.heap.size w w'
theorem enAt_map (es : List Nat) (k : Nat) (h : k < es.length) : eAt eInt (es.map (fun n : Nat => (n : Int))) k = (enAt es k : Int) := by
  unfold eAt enAt
  rw [List.getD_eq_getElem?_getD, List.getD_eq_getElem?_getD, List.getElem?_map, List.getElem?_eq_getElem h]
  rfl

set_option maxHeartbeats 8000000 in
theorem specRead_any (l : Txt) (w : World) (hl : l.length ≤ 9223372036854775807) :
    Calls Try.prog 17 #[.string (bs l)] w fun e w' => PolPost w (polL l) e w' := by
  obtain ⟨i0, hi, hz0, hz1, hz2⟩ := info_parts infoInt
  obtain ⟨i1, hj, hy0, hy1, hy2⟩ := info_parts infoSt
  obtain ⟨wb, hwb⟩ : ∃ wb, wb = (w.alloc (.cells #[.int .i64 0, .int .i64 0] 49)).alloc (.cells #[] 125) := ⟨_, rfl⟩
  have hbb : Below w.heap.size w wb := by rw [hwb]; exact bal.alloc (by simp) _
  have hzb : w.heap.size + 1 < wb.heap.size := by rw [hwb]; simp
  have HQ : Hid (∀ wX, Below wb.heap.size wb wX → (wX.cell? ⟨w.heap.size, 0, none⟩ = some (.int .i64 0) ∧ wX.cell? ⟨w.heap.size, 1, none⟩ = some (.int .i64 0)) ∧ (wX.frozen? ⟨w.heap.size, 0, none⟩ = false ∧ wX.frozen? ⟨w.heap.size, 1, none⟩ = false)) := hidP fun wX hX => by
    refine ⟨⟨?_, ?_⟩, ⟨?_, ?_⟩⟩
    iterate 2 (exact (hX.cell (by simp; omega)).trans (by rw [hwb]; simp [go_sem]))
    iterate 2 (exact (hX.frozen (by simp; omega)).trans (by rw [hwb]; simp [go_sem]))
  have HN0 : Hid (ERow eSpan wb w.heap.size (.slice (some ⟨w.heap.size + 1, 0, none⟩) 0 0) []) := hidP (by
    have h := ERow.empty eSpan (w.alloc (.cells #[.int .i64 0, .int .i64 0] 49)) w.heap.size (by simp)
    rw [World.size_alloc] at h
    rw [hwb]
    exact h)
  have HEN0 : Hid (∀ c d : Int, ERow eSpan ((w.alloc (.cells #[.int .i64 c, .int .i64 d] 49)).alloc (.cells #[] 125)) w.heap.size (.slice (some ⟨w.heap.size + 1, 0, none⟩) 0 0) [] ∧ Below w.heap.size w ((w.alloc (.cells #[.int .i64 c, .int .i64 d] 49)).alloc (.cells #[] 125))) := hidP fun c d => by
    have h := ERow.empty eSpan (w.alloc (.cells #[.int .i64 c, .int .i64 d] 49)) w.heap.size (by simp)
    rw [World.size_alloc] at h
    exact ⟨h, bal.alloc (by simp) _⟩
  -- an end with nothing but a code
  have HEND : Hid (∀ (wX : World) (c d : Int), Below wb.heap.size wb wX → ERow eSpan ((wX.setCell ⟨w.heap.size, 0, none⟩ (.int .i64 c)).setCell ⟨w.heap.size, 1, none⟩ (.int .i64 d)) w.heap.size (.slice (some ⟨w.heap.size + 1, 0, none⟩) 0 0) [] ∧ Below w.heap.size w ((wX.setCell ⟨w.heap.size, 0, none⟩ (.int .i64 c)).setCell ⟨w.heap.size, 1, none⟩ (.int .i64 d))) := hidP fun wX c d hX => by
    refine ⟨?_, hbb.trans (((hX.mono (by omega)).setCell (by simp) _).setCell (by simp) _)⟩
    refine ((HN0.out.below hX).kept (eGrown_set (World.grownBy.refl _ _) 0 _) ?_).kept (eGrown_set (World.grownBy.refl _ _) 1 _) ?_
    all_goals
      intro q hq
      have : w.heap.size + 1 = q := by simpa [Value.ownBlock] using hq
      simp; omega
  have HWB : Hid (wb = _) := hwb
  have HBB : Hid (Below w.heap.size w wb) := hbb
  obtain ⟨⟨q0, q1⟩, f0, f1⟩ := HQ.out wb (Below.refl _ _)
  by_cases h1 : 20000 < l.length
  · have e : polL l = ([], 1, 0) := by unfold polL; rw [if_pos h1]
    rw [e]
    unfold PolPost
    have h1' : (20000 : Int) < (l.length : Int) := by omega
    obtain ⟨hE, hB⟩ := HEN0.out 1 0
    have HE : Hid (ERow _ _ _ _ _) := hE
    have HB : Hid (Below _ _ _) := hB
    clear h1 e hE hB hbb hwb q0 q1 f0 f1
    go_enter Try.func17, Try.ntmps17
    go_wp2_with fail
    exact bodyPost_ret (v := .tuple #[.slice (some ⟨w.heap.size + 1, 0, none⟩) 0 0, .agg #[.int .i64 1, .int .i64 0]]) (by simp [results, Try.results17, go_sem]) rfl ⟨w.heap.size + 1, 0, rfl, HE.out, HB.out⟩
  have hl2 : l.length ≤ 20000 := by omega
  have hl3 : ¬ (20000 : Int) < (l.length : Int) := by omega
  have hbl := l4Blank_any l
  have hlen := blankL_len false l
  have hbad := fun wX => l4Bad_any (blankL false l) wX (by omega)
  have htk := fun wX => l4Tokens_any (blankL false l) wX (by omega)
  have htb := tokL_bd [] (blankL false l)
  simp only [List.length_nil, Nat.zero_add] at htb
  rw [hlen] at htb
  have HPL : Hid (polL l = if 0 ≤ badL 0 (blankL false l) then ([], (2 : Int), badL 0 (blankL false l)) else polT (tokL [] (blankL false l))) := hidP (by unfold polL; rw [if_neg h1])
  generalize tokL [] (blankL false l) = ts at *
  generalize badL 0 (blankL false l) = BD at *
  generalize blankL false l = BL at *
  clear hlen h1
  by_cases h2 : 0 ≤ BD
  · have h2b : decide (0 ≤ BD) = true := by simpa using h2
    rw [HPL.out, if_pos h2]
    unfold PolPost
    obtain ⟨hE, hB⟩ := HEN0.out 2 BD
    have HE : Hid (ERow _ _ _ _ _) := hE
    have HB : Hid (Below _ _ _) := hB
    clear hE hB hbb hwb q0 q1 f0 f1 htk HPL
    go_enter Try.func17, Try.ntmps17
    go_wp2_with fail
    refine (hbl _ hl2).mono ?_
    rintro e w1 ⟨rfl, hw1⟩
    obtain rfl := hw1.symm
    go_wp2_with fail
    refine (hbad _).mono ?_
    rintro e w2 ⟨rfl, hw2⟩
    obtain rfl := hw2.symm
    go_wp2_with fail
    exact bodyPost_ret (v := .tuple #[.slice (some ⟨w.heap.size + 1, 0, none⟩) 0 0, .agg #[.int .i64 2, .int .i64 BD]]) (by simp [results, Try.results17, go_sem]) rfl ⟨w.heap.size + 1, 0, rfl, HE.out, HB.out⟩
  have h2b : decide (0 ≤ BD) = false := by simpa using h2
  rw [HPL.out, if_neg h2]
  have htk1 := htk wb
  rw [hwb] at htk1
  obtain ⟨htl, hte⟩ := htb
  have HTE : Hid (∀ t ∈ ts, t.length ≤ l.length) := hte
  clear hbb hwb q0 q1 f0 f1 htk HPL hte
  unfold PolPost
  go_enter Try.func17, Try.ntmps17
  go_wp2_with fail
  refine (hbl _ hl2).mono ?_
  rintro e w1 ⟨rfl, hw1⟩
  obtain rfl := hw1.symm
  go_wp2_with fail
  refine (hbad _).mono ?_
  rintro e w2 ⟨rfl, hw2⟩
  obtain rfl := hw2.symm
  go_wp2_with fail
  refine htk1.mono ?_
  rintro e w3 ⟨v, rfl, hls⟩
  have hls' : LS eTok wb w3 v ts := by rw [HWB.out]; exact hls
  obtain ⟨⟨gt, ct, rfl, hrt⟩, hb3⟩ := hls'
  have s3 := hb3.size
  have HB3 : Hid (Below wb.heap.size wb w3) := hb3
  have HRT : Hid (ERow eTok w3 wb.heap.size (.slice (some ⟨gt, 0, none⟩) ts.length ct) ts) := hrt
  have hct : ts.length ≤ ct := by
    rcases hrt.2 with ⟨e, _⟩ | ⟨g', cap', cur, e, _, _, hn', _⟩
    · cases e
    · simp only [Value.slice.injEq, true_and] at e
      omega
  have HE0 : Hid (ERow eInt (w3.alloc (.cells #[] 3)) w3.heap.size (.slice (some ⟨w3.heap.size, 0, none⟩) 0 0) []) := hidP (ERow.empty eInt w3 w3.heap.size (Nat.le_refl _))
  clear hls hrt hb3 htk1 hbl hbad
  go_wp2_with fail
  go_loopw [8, 9] (fun vv iv wr => ∃ (k : Nat) (E : List Int) (ge ce : Nat), k ≤ ts.length ∧ iv = .int .i64 (k : Int) ∧ vv = .slice (some ⟨ge, 0, none⟩) E.length ce ∧ Hid (E = (endsTo ts k).map (fun n : Nat => (n : Int))) ∧ Hid (ERow eInt wr w3.heap.size (.slice (some ⟨ge, 0, none⟩) E.length ce) E) ∧ Below w3.heap.size w3 wr) (fun _ iv _ => ts.length - (intOf iv).toNat)
  case atStart => exact ⟨0, [], w3.heap.size, 0, Nat.zero_le _, rfl, rfl, hidP rfl, HE0, bal⟩
  case round =>
    obtain ⟨k, E, ge, ce, hk, rfl, rfl, HEE, HRE, hb⟩ := hrel
    have sr := hb.size
    have HB : Hid (Below w3.heap.size w3 wr) := hb
    have hEl : E.length ≤ k := by rw [HEE.out, List.length_map]; exact endsTo_len ts k
    by_cases hlt : k < ts.length
    · obtain ⟨gtl, ctk⟩ := eTok_cells (HRT.out.below hb) k hlt
      have HES : Hid (endsTo ts (k + 1) = if tAt ts k == [59] then endsTo ts k ++ [k] else endsTo ts k) := hidP (endsTo_succ ts k)
      rw [show eAt eTok ts k = tAt ts k from rfl] at ctk
      generalize tAt ts k = TX at *
      have K1 : (0 : Int) ≤ (k : Int) := by omega
      have K2 : (k : Int) < (ts.length : Int) := by omega
      clear hb
      cases hx : TX == [59]
      · have HV : Hid (E = (endsTo ts (k + 1)).map (fun n : Nat => (n : Int))) := hidP (by rw [HES.out, hx, HEE.out]; rfl)
        go_wp2_with fail
        go_roundw
        case rel => exact ⟨k + 1, E, ge, ce, by omega, by go_num, rfl, HV, HRE, HB.out⟩
        case measure => first | (simp [intOf]; done) | (simp [intOf]; omega)
      · have HV : Hid (E ++ [(k : Int)] = (endsTo ts (k + 1)).map (fun n : Nat => (n : Int))) := hidP (by rw [HES.out, hx, HEE.out]; simp)
        have HRD : Hid (ERow eInt (wr.alloc (.cells #[.int .i64 (k : Int)] 3)) w3.heap.size (.slice (some ⟨ge, 0, none⟩) E.length ce) E) := hidP (HRE.out.below bal)
        have HBD : Hid (Below w3.heap.size w3 (wr.alloc (.cells #[.int .i64 (k : Int)] 3))) := hidP (HB.out.alloc sr _)
        go_wp2_with (at_builtin; refine wpList_append_lies _ rfl (.tmp 45) (.tmp 47) 107 rfl w3.heap.size 3 i0 _ 1 8 Try.underlying107 hi hz0 hz1 hz2 rfl (by omega) _ _ _ rfl HRD.out ⟨_, 0, none⟩ 1 1 [.int .i64 (k : Int)] rfl rfl ?c1 ?c2 (by omega) ?c3 ?c4 ?c5 _ rfl ?_)
        case c1 => exact World.news_of_block (heap_alloc_new _ (.cells #[.int .i64 (k : Int)] 3))
        case c2 => intro u hu; simp at hu; rcases hu with rfl; rfl
        case c3 => unfold maxLen; omega
        case c4 => omega
        case c5 => first | omega | (simp; omega)
        intro g7 c7 w7 hown hgrow hat hlt3
        obtain ⟨hr7, hb7⟩ := e_push (E := eInt) (x := (k : Int)) HBD.out HRD.out hown hgrow
        have HR7 : Hid (ERow eInt w7 w3.heap.size (.slice (some ⟨g7, 0, none⟩) (E ++ [(k : Int)]).length c7) (E ++ [(k : Int)])) := hr7
        have HB7 : Hid (Below w3.heap.size w3 w7) := hb7
        clear hown hgrow hat hlt3 hr7 hb7
        go_wp2_with fail
        go_roundw
        case rel => exact ⟨k + 1, E ++ [(k : Int)], g7, c7, by omega, by go_num, by simp, HV, HR7, HB7.out⟩
        case measure => first | (simp [intOf]; done) | (simp [intOf]; omega)
    have ek : k = ts.length := by omega
    have HEN : Hid (E = (endsTo ts ts.length).map (fun n : Nat => (n : Int))) := hidP (by rw [← ek]; exact HEE.out)
    have K2 : ¬ (k : Int) < (ts.length : Int) := by omega
    obtain ⟨es, hes⟩ : ∃ es, endsTo ts ts.length = es := ⟨_, rfl⟩
    have HES : Hid (endsTo ts ts.length = es) := hes
    rw [hes] at HEN
    have hel : E.length = es.length := by rw [HEN.out, List.length_map]
    have HPT : Hid (polT ts = if 1000 < es.length then ([], (3 : Int), (1000 : Int)) else polE ts es) := hidP (by unfold polT; rw [hes])
    have hBr : Below wb.heap.size wb wr := HB3.out.trans (HB.out.mono s3)
    clear hes ek hlt hb
    generalize wr = wq at *
    have HQB : Hid (Below wb.heap.size wb wq) := hBr
    obtain ⟨⟨q0, q1⟩, f0, f1⟩ := HQ.out wq hBr
    have hwq0 : w.heap.size < wq.heap.size := by have := hBr.size; omega
    by_cases h3 : 1000 < es.length
    · have h3' : (1000 : Int) < (E.length : Int) := by omega
      have HV : Hid (polT ts = ([], (3 : Int), (1000 : Int))) := hidP (by rw [HPT.out, if_pos h3])
      obtain ⟨hE, hB⟩ := HEND.out wq 3 1000 hBr
      have HEQ : Hid (ERow _ _ _ _ _) := hE
      have HBQ : Hid (Below _ _ _) := hB
      clear hE hB hel h3 hBr
      go_wp2_with fail
      rw [HV.out]
      exact bodyPost_ret (v := .tuple #[.slice (some ⟨w.heap.size + 1, 0, none⟩) 0 0, .agg #[.int .i64 3, .int .i64 1000]]) (by simp [results, Try.results17, go_sem, q0, q1]) rfl ⟨w.heap.size + 1, 0, rfl, HEQ.out, HBQ.out⟩
    have h3' : ¬ (1000 : Int) < (E.length : Int) := by omega
    have HPE : Hid (polT ts = polE ts es) := hidP (by rw [HPT.out, if_neg h3])
    have HTC : Hid (∀ wX, Below wq.heap.size wq wX → gt < wX.heap.size ∧ ∀ i, i < ts.length → wX.cell? ⟨gt, i, none⟩ = some (.string (bs (tAt ts i)))) := hidP fun wX hX => by
      have hx := HRT.out.below (HB.out.trans (hX.mono HB.out.size))
      refine ⟨(hx.own gt rfl).2, fun i hi => (eTok_cells hx i hi).2⟩
    have HEC : Hid (∀ wX, Below wq.heap.size wq wX → ∀ i, i < es.length → ge < wX.heap.size ∧ wX.cell? ⟨ge, i, none⟩ = some (.int .i64 (enAt es i : Int))) := hidP fun wX hX i hi => by
      obtain ⟨a, b⟩ := eInt_cells (HRE.out.below hX) i (by omega)
      refine ⟨a, ?_⟩
      rw [b, HEN.out, enAt_map es i hi]
    have HFE : Hid (∀ k, k < es.length → fromAt es k ≤ enAt es k ∧ enAt es k < ts.length) := hidP fun k hk => by rw [← HES.out] at hk ⊢; exact from_le hk
    have HFE2 : Hid (∀ k, k ≤ es.length → fromAt es k ≤ ts.length) := hidP fun k hk => by rw [← HES.out] at hk ⊢; exact from_le2 hk
    have HEL : Hid (E.length = es.length) := hel
    have hes1 : es.length ≤ 1000 := by omega
    have hE1 : E.length ≤ 1000 := by omega
    have HA0 : Hid (ERow eSt (wq.alloc (.cells #[] 112)) wq.heap.size (.slice (some ⟨wq.heap.size, 0, none⟩) 0 0) []) := hidP (ERow.empty eSt wq wq.heap.size (Nat.le_refl _))
    clear hel h3 hBr HPT hEl q0 q1 f0 f1
    go_wp2_with fail
    go_loopw [10, 11, 12] (fun av fv iv wz => ∃ (k : Nat) (L : List St) (ga ca : Nat), k ≤ es.length ∧ iv = .int .i64 (k : Int) ∧ fv = .int .i64 (fromAt es k : Int) ∧ av = .slice (some ⟨ga, 0, none⟩) L.length ca ∧ Hid (L = allTo ts es k) ∧ Hid (∀ j, j < k → codeK ts es j = 0) ∧ Hid (ERow eSt wz wq.heap.size (.slice (some ⟨ga, 0, none⟩) L.length ca) L) ∧ Below wq.heap.size wq wz) (fun _ _ iv _ => es.length - (intOf iv).toNat)
    case atStart => exact ⟨0, [], wq.heap.size, 0, Nat.zero_le _, rfl, rfl, rfl, hidP rfl, hidP fun j hj => absurd hj (by omega), HA0, bal⟩
    case round =>
      obtain ⟨k, L, ga, ca, hk, rfl, rfl, rfl, HLA, HCD, HRL, hb⟩ := hrel
      have sr := hb.size
      have HBk : Hid (Below wq.heap.size wq wr) := hb
      have hLl : L.length = k := by rw [HLA.out, allTo_len]
      have HLL : Hid (L.length = k) := hLl
      have hL1 : L.length ≤ 1000 := by omega
      by_cases hlt : k < es.length
      · obtain ⟨hF1, hF2⟩ := HFE.out k hlt
        obtain ⟨gel, cek⟩ := HEC.out wr hb k hlt
        obtain ⟨gtl, ctk⟩ := HTC.out wr hb
        have K0 : (0 : Int) ≤ (k : Int) := by omega
        have K1 : (k : Int) < (E.length : Int) := by have := HEL.out; omega
        have HCK : Hid (codeK ts es k = codeL L (stmtL (subL ts (fromAt es k) (enAt es k)))) := hidP (by rw [HLA.out]; rfl)
        have HLS : Hid (allTo ts es (k + 1) = L ++ [stmtL (subL ts (fromAt es k) (enAt es k))]) := hidP (by rw [allTo_succ, HLA.out]; rfl)
        have HFS : Hid (fromAt es (k + 1) = enAt es k + 1) := hidP rfl
        generalize fromAt es k = FR at *
        obtain ⟨EN, hENe⟩ : ∃ EN, enAt es k = EN := ⟨_, rfl⟩
        have HENk : Hid (enAt es k = EN) := hENe
        rw [hENe] at hF1 hF2 cek HCK HLS HFS
        clear hENe
        have hne : ¬ ct = FR := by omega
        have hF3 : FR ≤ ct := by omega
        have hF4 : EN ≤ ct := by omega
        have R0 : (0 : Int) ≤ (FR : Int) := by omega
        have R1 : (FR : Int) ≤ (EN : Int) := by omega
        have R2 : (EN : Int) ≤ (ct : Int) := by omega
        have HTC2 : Hid _ := hidP ctk
        clear hb hLl ctk
        have hrd := l4ReadStmt_any (some ⟨gt, FR, none⟩) (ct - FR) (subL ts FR EN) wr (by rw [subL_len (by omega) (by omega)]; omega) (fun i hi => by
          rw [subL_len (by omega) (by omega)] at hi
          rw [subL_at (by omega) hi]
          have hm : tAt ts (FR + i) ∈ ts := by
            unfold tAt
            rw [List.getD_eq_getElem?_getD, List.getElem?_eq_getElem (by omega)]
            exact List.getElem_mem _
          have := HTE.out _ hm
          omega) (fun _ => ⟨gt, FR, rfl, gtl, fun i hi => by
          rw [subL_len (by omega) (by omega)] at hi
          rw [subL_at (by omega) hi]
          exact HTC2.out (FR + i) (by omega)⟩)
        rw [subL_len (by omega) (by omega)] at hrd
        have hsk := stmtL_kind (subL ts FR EN)
        have hso := stmtL_ok (subL ts FR EN)
        have HPB : Hid (codeK ts es k ≠ 0 → polE ts es = ([], codeK ts es k, ((k : Nat) : Int))) := hidP fun h => polE_bad hlt HCD.out h
        generalize stmtL (subL ts FR EN) = SS at *
        have HCO : Hid (∀ wX, Below wr.heap.size wr wX → Calls Try.prog 61 #[.slice (some ⟨ga, 0, none⟩) L.length ca, stV SS] wX fun e w' => e = .returned (.int .i64 (codeL L SS)) ∧ Below wX.heap.size wX w') := hidP fun wX hX => l4Code_any _ ca L SS wX hL1 (fun h0 => eSt_cells (HRL.out.below hX) h0) (by rw [HLA.out]; exact allTo_ok ts es k) hso hsk
        rw [HCK.out] at HPB
        have HC0 : Hid (codeL L SS = 0 → ∀ j, j < k + 1 → codeK ts es j = 0) := hidP fun h j hj => by
          by_cases e : j = k
          · rw [e, HCK.out]; exact h
          · exact HCD.out j (by omega)
        generalize codeL L SS = CD at *
        obtain ⟨SK, SN, SA, SB, SP, SX⟩ := SS
        unfold stV at hrd HCO
        dsimp only at hrd HCO
        clear hsk hso HCK
        go_wp2_with fail
        refine hrd.mono ?_
        rintro e w5 ⟨rfl, hb5⟩
        have z5 := hb5.size
        obtain ⟨wx, hwx⟩ : ∃ wx, wx = w5.alloc (.cells #[.int .i64 SK, .string (bs SN), .int .i64 SA, .int .i64 SB, .int .i64 SP, .bool SX] 112) := ⟨_, rfl⟩
        have hbx : Below wr.heap.size wr wx := by rw [hwx]; exact hb5.alloc z5 _
        have zx : w5.heap.size < wx.heap.size := by rw [hwx]; simp
        have HXC : Hid (∀ wX, Below wx.heap.size wx wX → wX.cell? ⟨w5.heap.size, 0, none⟩ = some (.int .i64 SK) ∧ wX.cell? ⟨w5.heap.size, 1, none⟩ = some (.string (bs SN)) ∧ wX.cell? ⟨w5.heap.size, 2, none⟩ = some (.int .i64 SA) ∧ wX.cell? ⟨w5.heap.size, 3, none⟩ = some (.int .i64 SB) ∧ wX.cell? ⟨w5.heap.size, 4, none⟩ = some (.int .i64 SP) ∧ wX.cell? ⟨w5.heap.size, 5, none⟩ = some (.bool SX)) := hidP fun wX hX => by
          refine ⟨?_, ?_, ?_, ?_, ?_, ?_⟩
          iterate 6 (exact (hX.cell (by simpa using zx)).trans (by rw [hwx]; simp [go_sem]))
        have hcode := HCO.out wx hbx
        have HBX : Hid (Below wr.heap.size wr wx) := hbx
        have HWX : Hid (wx = _) := hwx
        rw [hwx] at hcode
        clear hrd hb5 hbx hwx
        go_wp2_with fail
        refine hcode.mono ?_
        rintro e w6 ⟨rfl, hb6'⟩
        have hb6 : Below wx.heap.size wx w6 := by rw [HWX.out]; exact hb6'
        have hbr6 : Below wr.heap.size wr w6 := HBX.out.trans (hb6.mono HBX.out.size)
        have hbq6 : Below wq.heap.size wq w6 := HBk.out.trans (hbr6.mono sr)
        have hbb6 : Below wb.heap.size wb w6 := HQB.out.trans (hbq6.mono HQB.out.size)
        obtain ⟨⟨q0, q1⟩, f0, f1⟩ := HQ.out w6 hbb6
        obtain ⟨y0, y1, y2, y3, y4, y5⟩ := HXC.out w6 hb6
        obtain ⟨ge6, ce6⟩ := HEC.out w6 hbq6 k hlt
        rw [HENk.out] at ce6
        have s6 := hbq6.size
        have HB6 : Hid (Below wq.heap.size wq w6) := hbq6
        have HR6 : Hid (ERow eSt w6 wq.heap.size (.slice (some ⟨ga, 0, none⟩) L.length ca) L) := hidP (HRL.out.below hbr6)
        have zq : w.heap.size < w6.heap.size := by omega
        by_cases hc : CD = 0
        · subst hc
          have HV : Hid (L ++ [(⟨SK, SN, SA, SB, SP, SX⟩ : St)] = allTo ts es (k + 1)) := hidP HLS.out.symm
          have HC1 : Hid (∀ j, j < k + 1 → codeK ts es j = 0) := hidP (HC0.out rfl)
          have HRD : Hid (ERow eSt (w6.alloc (.cells #[.int .i64 SK, .string (bs SN), .int .i64 SA, .int .i64 SB, .int .i64 SP, .bool SX] 112)) wq.heap.size (.slice (some ⟨ga, 0, none⟩) L.length ca) L) := hidP (HR6.out.below bal)
          have HBD : Hid (Below wq.heap.size wq (w6.alloc (.cells #[.int .i64 SK, .string (bs SN), .int .i64 SA, .int .i64 SB, .int .i64 SP, .bool SX] 112))) := hidP (HB6.out.alloc s6 _)
          clear hcode hb6' hb6 hbr6 hbq6 hbb6
          go_wp2_with (at_builtin; refine wpList_append_lies _ rfl (.tmp 78) (.tmp 80) 110 rfl wq.heap.size 112 i1 _ 6 56 Try.underlying110 hj hy0 hy1 hy2 rfl (by omega) _ _ _ rfl HRD.out ⟨_, 0, none⟩ 1 1 [.int .i64 SK, .string (bs SN), .int .i64 SA, .int .i64 SB, .int .i64 SP, .bool SX] rfl rfl ?c1 ?c2 (by omega) ?c3 ?c4 ?c5 _ rfl ?_)
          case c1 => exact World.news_of_block (heap_alloc_new _ (.cells #[.int .i64 SK, .string (bs SN), .int .i64 SA, .int .i64 SB, .int .i64 SP, .bool SX] 112))
          case c2 => intro u hu; simp at hu; rcases hu with rfl | rfl | rfl | rfl | rfl | rfl <;> rfl
          case c3 => unfold maxLen; omega
          case c4 => omega
          case c5 => first | omega | (simp; omega)
          intro g7 c7 w7 hown hgrow hat hlt3
          obtain ⟨hr7, hb7⟩ := e_push (E := eSt) (x := ⟨SK, SN, SA, SB, SP, SX⟩) HBD.out HRD.out hown hgrow
          have HR7 : Hid (ERow eSt w7 wq.heap.size (.slice (some ⟨g7, 0, none⟩) (L ++ [(⟨SK, SN, SA, SB, SP, SX⟩ : St)]).length c7) (L ++ [(⟨SK, SN, SA, SB, SP, SX⟩ : St)])) := hr7
          have HB7 : Hid (Below wq.heap.size wq w7) := hb7
          obtain ⟨ge7, ce7⟩ := HEC.out w7 hb7 k hlt
          rw [HENk.out] at ce7
          clear hown hgrow hat hlt3 hr7 hb7
          go_wp2_with fail
          go_roundw
          case rel => exact ⟨k + 1, L ++ [(⟨SK, SN, SA, SB, SP, SX⟩ : St)], g7, c7, by omega, by go_num, by rw [HFS.out]; first | rfl | go_num, by simp, HV, HC1, HR7, HB7.out⟩
          case measure => first | (simp [intOf]; done) | (simp [intOf]; omega)
        · have hcb : (CD != 0) = true := by simpa using hc
          have HV : Hid (polT ts = ([], CD, ((k : Nat) : Int))) := hidP (by rw [HPE.out]; exact HPB.out hc)
          obtain ⟨hE, hB⟩ := HEND.out w6 CD (k : Int) hbb6
          have HEQ : Hid (ERow _ _ _ _ _) := hE
          have HBQ : Hid (Below _ _ _) := hB
          clear hE hB hcode hb6' hb6 hbr6 hbq6 hbb6
          go_wp2_with fail
          rw [HV.out]
          exact bodyPost_ret (v := .tuple #[.slice (some ⟨w.heap.size + 1, 0, none⟩) 0 0, .agg #[.int .i64 CD, .int .i64 (k : Int)]]) (by simp [results, Try.results17, go_sem, q0, q1]) rfl ⟨w.heap.size + 1, 0, rfl, HEQ.out, HBQ.out⟩
      have ek : k = es.length := by omega
      have HPG : Hid (polT ts = if fromAt es es.length < ts.length then ([], (4 : Int), ((es.length : Nat) : Int)) else (spansTo (allTo ts es es.length) 4096, (0 : Int), (0 : Int))) := hidP (by
        rw [HPE.out]
        exact polE_good (fun j hj => HCD.out j (by omega)))
      have hbbr : Below wb.heap.size wb wr := HQB.out.trans (hb.mono HQB.out.size)
      obtain ⟨⟨q0, q1⟩, f0, f1⟩ := HQ.out wr hbbr
      have HFX : Hid (fromAt es k = fromAt es es.length) := hidP (by rw [ek])
      rw [HFX.out]
      have hfl := HFE2.out es.length (Nat.le_refl _)
      have HLE : Hid (L = allTo ts es es.length) := hidP (by rw [HLA.out, ek])
      have K2 : ¬ (k : Int) < (E.length : Int) := by have := HEL.out; omega
      have zr : w.heap.size < wr.heap.size := by omega
      obtain ⟨FR, hFR⟩ : ∃ FR, fromAt es es.length = FR := ⟨_, rfl⟩
      rw [hFR] at HPG hfl ⊢
      by_cases hf : FR < ts.length
      · have hf' : (FR : Int) < (ts.length : Int) := by omega
        have HV : Hid (polT ts = ([], (4 : Int), (E.length : Int))) := hidP (by rw [HPG.out, if_pos hf, HEL.out])
        obtain ⟨hE, hB⟩ := HEND.out wr 4 (E.length : Int) hbbr
        have HEQ : Hid (ERow _ _ _ _ _) := hE
        have HBQ : Hid (Below _ _ _) := hB
        clear hE hB hbbr hb ek hFR hlt hLl
        go_wp2_with fail
        rw [HV.out]
        exact bodyPost_ret (v := .tuple #[.slice (some ⟨w.heap.size + 1, 0, none⟩) 0 0, .agg #[.int .i64 4, .int .i64 (E.length : Int)]]) (by simp [results, Try.results17, go_sem, q0, q1]) rfl ⟨w.heap.size + 1, 0, rfl, HEQ.out, HBQ.out⟩
      · have hf' : ¬ (FR : Int) < (ts.length : Int) := by omega
        have hsp := l4Spans_any (some ⟨ga, 0, none⟩) ca L wr hL1 (by rw [HLE.out]; exact allTo_ok ts es _) (fun h0 => eSt_cells HRL.out h0)
        have HV : Hid (polT ts = (spansTo L 4096, (0 : Int), (0 : Int))) := hidP (by rw [HPG.out, if_neg hf, HLE.out])
        generalize spansTo L 4096 = SPN at *
        have HBR : Hid (Below wb.heap.size wb wr) := hbbr
        clear hbbr hb ek hFR hlt hLl q0 q1 f0 f1
        go_wp2_with fail
        refine hsp.mono ?_
        rintro e w8 ⟨g8, c8, rfl, hr8, hb8⟩
        have hbb8 : Below wb.heap.size wb w8 := HBR.out.trans (hb8.mono HBR.out.size)
        obtain ⟨⟨q0, q1⟩, f0, f1⟩ := HQ.out w8 hbb8
        have hg8 := (hr8.own g8 rfl).1
        have HR8 : Hid (ERow eSpan ((w8.setCell ⟨w.heap.size, 0, none⟩ (.int .i64 0)).setCell ⟨w.heap.size, 1, none⟩ (.int .i64 0)) w.heap.size (.slice (some ⟨g8, 0, none⟩) SPN.length c8) SPN) := hidP (by
          refine ((hr8.kept (eGrown_set (World.grownBy.refl _ _) 0 _) ?_).kept (eGrown_set (World.grownBy.refl _ _) 1 _) ?_).rebase (by omega)
          all_goals
            intro q hq
            have : g8 = q := by simpa [Value.ownBlock] using hq
            simp; omega)
        have HB8 : Hid (Below w.heap.size w ((w8.setCell ⟨w.heap.size, 0, none⟩ (.int .i64 0)).setCell ⟨w.heap.size, 1, none⟩ (.int .i64 0))) := hidP (HBB.out.trans (((hbb8.mono (by omega)).setCell (by simp) _).setCell (by simp) _))
        have z8 : w.heap.size < w8.heap.size := by have := hb8.size; omega
        clear hsp hr8 hb8 hbb8
        go_wp2_with fail
        rw [HV.out]
        exact bodyPost_ret (v := .tuple #[.slice (some ⟨g8, 0, none⟩) SPN.length c8, .agg #[.int .i64 0, .int .i64 0]]) (by simp [results, Try.results17, go_sem, q0, q1]) rfl ⟨g8, c8, rfl, HR8.out, HB8.out⟩
end Go.Proofs.Ytnmhkgmmpkjjeaa
