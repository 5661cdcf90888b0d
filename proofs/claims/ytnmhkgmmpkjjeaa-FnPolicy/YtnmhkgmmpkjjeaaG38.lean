import Derived.Test.YtnmhkgmmpkjjeaaG37
namespace Go.Proofs.Ytnmhkgmmpkjjeaa
open Go.ChangeShapes Go.WideShapes Go.ChangeAt Go.RowKit
set_option linter.unusedVariables false
set_option linter.unusedSimpArgs false
set_option maxRecDepth 100000
attribute [local go_sem ↓] Go.wp_at_zero Go.wp_at_succ

/-! joinSpans: the regions sorted, and joined. -/
theorem erow_count_set {w : World} {b g c m : Nat} {xs : List SpanE} {P C C0 O R : Int} {G : Bool} (h : ERow eSpan w b (.slice (some ⟨g, 0, none⟩) xs.length c) xs) (hm : m < xs.length) (he : eAt eSpan xs m = ⟨P, C0, O, R, G⟩) :
    ERow eSpan (w.setCell ⟨g, m * 5 + 1, none⟩ (.int .i64 C)) b (.slice (some ⟨g, 0, none⟩) xs.length c) (xs.set m ⟨P, C, O, R, G⟩) := by
  rcases h.2 with ⟨e, h0⟩ | ⟨g', cap, cur, e, hb, hg, hn, hmx, hs, ht⟩
  · cases e
  · simp only [Value.slice.injEq, Option.some.injEq, Addr.mk.injEq, and_true, true_and] at e
    obtain ⟨rfl, rfl⟩ := e
    have hr : w.rowIs g 125 cur.size (fun i => cur.getD i (.bool false)) := ⟨cur, hg, rfl, fun i hi => by simp [hi]⟩
    have hs' : cur.size = c * eSpan.sz := hs
    refine ERow.of_row (cap := c) (by simp) hb (hr.set (m * 5 + 1) _) hs' (by simpa using hn) hmx ?_
    intro i hi j hj
    have hj5 : j < 5 := hj
    have e5 : i * eSpan.sz + j = i * 5 + j := rfl
    rw [e5]
    have hold : cur.getD (i * 5 + j) (.bool false) = eCell eSpan xs i j := by
      have hu := ecells_at eSpan xs i (by simpa using hi) j hj
      rw [← ht, List.getElem?_take, if_pos (cell_lt (by simpa using hi) hj)] at hu
      simp only [Array.getElem?_toList] at hu
      have e6 : i * eSpan.sz + j = i * 5 + j := rfl
      rw [e6] at hu
      simp [Array.getD_eq_getD_getElem?, hu, eCell]
    by_cases e : i = m
    · subst e
      unfold eCell
      rw [eat_set (by simpa using hi), if_pos rfl]
      rcases (show j = 0 ∨ j = 1 ∨ j = 2 ∨ j = 3 ∨ j = 4 by omega) with rfl | rfl | rfl | rfl | rfl
      · rw [if_neg (by omega), hold]; unfold eCell; rw [he]; rfl
      · rw [if_pos (by omega)]; rfl
      · rw [if_neg (by omega), hold]; unfold eCell; rw [he]; rfl
      · rw [if_neg (by omega), hold]; unfold eCell; rw [he]; rfl
      · rw [if_neg (by omega), hold]; unfold eCell; rw [he]; rfl
    · rw [if_neg (by omega), hold]
      unfold eCell
      rw [eat_set (by simpa using hi), if_neg e]
theorem joinStep_ok {out : List SpanE} {r : SpanE} (ho : ∀ e ∈ out, spanOk e = true) (hr : spanOk r = true) : ∀ e ∈ joinStep out r, spanOk e = true := by
  intro e he
  unfold joinStep at he
  split at he
  · rename_i hj
    rcases List.mem_or_eq_of_mem_set he with he | he
    · exact ho e he
    · have hl : lastS out ∈ out := by
        unfold lastS eAt
        rw [List.getD_eq_getElem?_getD, List.getElem?_eq_getElem (by omega)]
        exact List.getElem_mem _
      have h1 := ho _ hl
      have h2 := hj.2
      rw [spanOk_iff] at h1 hr
      unfold joinsB at h2
      simp at h2
      rw [he, spanOk_iff]
      unfold addTo
      dsimp only
      omega
  · rcases List.mem_append.1 he with he | he
    · exact ho e he
    · rw [List.mem_singleton.1 he]; exact hr
theorem joinTo_ok (rs : List SpanE) (h : ∀ r ∈ rs, spanOk r = true) : ∀ k, (∀ e ∈ joinL (rs.take k), spanOk e = true) ∧ (joinL (rs.take k)).length ≤ k
  | 0 => ⟨fun e he => (by cases he), Nat.le_refl _⟩
  | k + 1 => by
    obtain ⟨h1, h2⟩ := joinTo_ok rs h k
    by_cases hk : k < rs.length
    · have e : joinL (rs.take (k + 1)) = joinStep (joinL (rs.take k)) (eAt eSpan rs k) := by
        rw [take_snocE eSpan rs k hk]
        unfold joinL
        rw [List.foldl_append]
        rfl
      have hm : eAt eSpan rs k ∈ rs := by
        unfold eAt
        rw [List.getD_eq_getElem?_getD, List.getElem?_eq_getElem hk]
        exact List.getElem_mem _
      rw [e]
      refine ⟨joinStep_ok h1 (h _ hm), ?_⟩
      unfold joinStep
      split
      · rw [List.length_set]; omega
      · simp; omega
    · rw [List.take_of_length_le (by omega)] at h1 h2 ⊢
      exact ⟨h1, by omega⟩
theorem joinL_succ (rs : List SpanE) (k : Nat) (hk : k < rs.length) : joinL (rs.take (k + 1)) = joinStep (joinL (rs.take k)) (eAt eSpan rs k) := by
  rw [take_snocE eSpan rs k hk]
  unfold joinL
  rw [List.foldl_append]
  rfl
def JsPost (a : Option Addr) (rs : List SpanE) (w : World) (e : Ending) (w' : World) : Prop := ∃ (rs' : List SpanE) (a' : Option Addr) (c' : Nat), rs'.Perm rs ∧ rs'.Pairwise (fun x y => x.page ≤ y.page) ∧ e = .returned (.slice a' (joinL rs').length c') ∧ ERow eSpan w' w.heap.size (.slice a' (joinL rs').length c') (joinL rs') ∧ Touch (fun k => oP a = some k) w w'
set_option maxHeartbeats 8000000 in
theorem joinSpans_any (a : Option Addr) (cap B : Nat) (rs : List SpanE) (w : World) (h : ERow eSpan w B (.slice a rs.length cap) rs) (hl : rs.length ≤ 1000) (hok : ∀ r ∈ rs, spanOk r = true) :
    Calls Try.prog 64 #[.slice a rs.length cap] w (JsPost a rs w) := by
  obtain ⟨iA, hiA, hz0, hz1, hz2⟩ := info_parts infoSpan
  have t1 := hidP (sortSpans_any a cap B rs w h hl)
  have HOK : Hid (∀ r ∈ rs, spanOk r = true) := hok
  clear h hok
  go_enter Try.func64, Try.ntmps64
  go_wp2_with fail
  refine t1.out.mono ?_
  rintro e w1 ⟨rfl, rs', hlen, hperm, hsort, hrow, htch⟩
  have HRS : Hid (ERow eSpan w1 B (.slice a rs'.length cap) rs') := hidP (by rw [hlen]; exact hrow)
  have HPM : Hid (rs'.Perm rs) := hperm
  have HSO : Hid (rs'.Pairwise (fun x y => x.page ≤ y.page)) := hsort
  have HTC : Hid (Touch (fun k => oP a = some k) w w1) := htch
  have HO : Hid (∀ r ∈ rs', spanOk r = true) := hidP (fun r hr => HOK.out r (hperm.mem_iff.1 hr))
  have HLN : Hid (rs'.length = rs.length) := hlen
  clear hperm hsort hrow htch t1 hlen
  go_wp2_with fail
  go_loopw [3, 11] (fun vv iv wr => ∃ (k : Nat) (av : Option Addr) (cv : Nat) (L : List SpanE), k ≤ rs.length ∧ iv = .int .i64 (k : Int) ∧ vv = .slice av L.length cv ∧ Hid (joinL (rs'.take k) = L) ∧ Hid (ERow eSpan wr w1.heap.size (.slice av L.length cv) L) ∧ Below w1.heap.size w1 wr) (fun _ iv _ => rs.length - (intOf iv).toNat)
  case atStart => exact ⟨0, none, 0, [], by omega, rfl, rfl, hidP rfl, hidP ⟨by simp [ecells], .inl ⟨rfl, rfl⟩⟩, Below.refl _ _⟩
  case round =>
    obtain ⟨k, av, cv, L, hk, rfl, rfl, HLL, HRW, hbr⟩ := hrel
    have HBR : Hid (Below w1.heap.size w1 wr) := hbr
    obtain ⟨hLo, hLn⟩ := joinTo_ok rs' HO.out k
    rw [HLL.out] at hLo hLn
    have HLO : Hid (∀ e ∈ L, spanOk e = true) := hLo
    have hsr := hbr.size
    clear hbr hLo
    by_cases hlt : k < rs.length
    · have K0 : (0 : Int) ≤ (k : Int) := by omega
      have K1 : (k : Int) < (rs.length : Int) := by omega
      have hlt' : k < rs'.length := by rw [HLN.out]; exact hlt
      obtain ⟨gr, hgr, hcr⟩ := spCells HRS.out
      obtain ⟨rfl, hgl⟩ := hgr (by omega)
      obtain ⟨⟨B0, B1, B2, B3, B4⟩, hBB⟩ : ∃ S, eAt eSpan rs' k = S := ⟨_, rfl⟩
      obtain ⟨y0, y1, y2, y3, y4⟩ := hcr k B0 B1 B2 B3 B4 hlt' hBB wr HBR.out
      have HST : Hid (joinL (rs'.take (k + 1)) = joinStep L ⟨B0, B1, B2, B3, B4⟩) := hidP (by rw [joinL_succ rs' k hlt', HLL.out, hBB])
      have hBok := HO.out _ (show eAt eSpan rs' k ∈ rs' by
        unfold eAt
        rw [List.getD_eq_getElem?_getD, List.getElem?_eq_getElem hlt']
        exact List.getElem_mem _)
      rw [hBB, spanOk_iff] at hBok
      dsimp only at hBok
      obtain ⟨wq, hwq⟩ : ∃ wq, wq = wr.alloc (.cells #[.int .i64 B0, .int .i64 B1, .int .i64 B2, .int .i64 B3, .bool B4] 125) := ⟨_, rfl⟩
      have hbq : Below wr.heap.size wr wq := by rw [hwq]; exact bal
      have HWQ : Hid (wq = _) := hwq
      have hzq : wr.heap.size < wq.heap.size := by rw [hwq]; simp
      have HRWq : Hid (ERow eSpan wq w1.heap.size (.slice av L.length cv) L) := hidP (HRW.out.below hbq)
      have HBq : Hid (Below w1.heap.size w1 wq) := hidP (HBR.out.trans (hbq.mono hsr))
      have HXq : Hid (wq.cell? ⟨wr.heap.size, 0, none⟩ = some (.int .i64 B0) ∧ wq.cell? ⟨wr.heap.size, 1, none⟩ = some (.int .i64 B1) ∧ wq.cell? ⟨wr.heap.size, 2, none⟩ = some (.int .i64 B2) ∧ wq.cell? ⟨wr.heap.size, 3, none⟩ = some (.int .i64 B3) ∧ wq.cell? ⟨wr.heap.size, 4, none⟩ = some (.bool B4)) := hidP (by rw [hwq]; refine ⟨?_, ?_, ?_, ?_, ?_⟩ <;> simp [go_sem])
      have HSB : Hid (∀ wX, Below wq.heap.size wq wX → wX.cell? ⟨wr.heap.size, 0, none⟩ = some (.int .i64 B0) ∧ wX.cell? ⟨wr.heap.size, 1, none⟩ = some (.int .i64 B1) ∧ wX.cell? ⟨wr.heap.size, 2, none⟩ = some (.int .i64 B2) ∧ wX.cell? ⟨wr.heap.size, 3, none⟩ = some (.int .i64 B3) ∧ wX.cell? ⟨wr.heap.size, 4, none⟩ = some (.bool B4)) := hidP (fun wX hX => by
        obtain ⟨z0, z1, z2, z3, z4⟩ := HXq.out
        exact ⟨(hX.cell (p := ⟨wr.heap.size, 0, none⟩) hzq).trans z0, (hX.cell (p := ⟨wr.heap.size, 1, none⟩) hzq).trans z1, (hX.cell (p := ⟨wr.heap.size, 2, none⟩) hzq).trans z2, (hX.cell (p := ⟨wr.heap.size, 3, none⟩) hzq).trans z3, (hX.cell (p := ⟨wr.heap.size, 4, none⟩) hzq).trans z4⟩)
      clear hwq hbq hcr hgr hBB hlt'
      by_cases hn : L.length = 0
      · obtain rfl : L = [] := List.length_eq_zero_iff.1 hn
        have HV : Hid (joinL (rs'.take (k + 1)) = ([] : List SpanE) ++ [⟨B0, B1, B2, B3, B4⟩]) := hidP (by rw [HST.out]; unfold joinStep; rw [if_neg (by simp)])
        clear hn
        go_upto_region 7 with fail
        rw [← HWQ.out]
        clear y0 y1 y2 y3 y4
        refine wp_region_held_drew (S := fun wX => wX.cell? ⟨wr.heap.size, 0, none⟩ = some (.int .i64 B0) ∧ wX.cell? ⟨wr.heap.size, 1, none⟩ = some (.int .i64 B1) ∧ wX.cell? ⟨wr.heap.size, 2, none⟩ = some (.int .i64 B2) ∧ wX.cell? ⟨wr.heap.size, 3, none⟩ = some (.int .i64 B3) ∧ wX.cell? ⟨wr.heap.size, 4, none⟩ = some (.bool B4)) (by kernel_rfl) (HSB.out _ (Below.refl _ _).drew) (fun hHeld => ?_)
        refine tk 0 ?_
        refine tk 1 ?_
        refine tk 2 ?_
        refine sk 3 ?_
        refine sk 4 ?_
        refine sk 5 ?_
        refine sk 6 ?_
        refine sk 7 ?_
        refine sk 8 ?_
        refine tk 9 ?_
        refine wpAnyH_done (by kernel_rfl) ?_ _
        clear hHeld
        obtain ⟨wd, hwd⟩ : ∃ wd, wd = wq.drew := ⟨_, rfl⟩
        have hbd : Below wq.heap.size wq wd := by rw [hwd]; exact (Below.refl _ _).drew
        have HRWd : Hid (ERow eSpan wd w1.heap.size (.slice av ([] : List SpanE).length cv) []) := hidP (HRWq.out.below hbd)
        have HBd : Hid (Below w1.heap.size w1 wd) := hidP (HBq.out.trans (hbd.mono HBq.out.size))
        have HXd : Hid (wd.cell? ⟨wr.heap.size, 0, none⟩ = some (.int .i64 B0) ∧ wd.cell? ⟨wr.heap.size, 1, none⟩ = some (.int .i64 B1) ∧ wd.cell? ⟨wr.heap.size, 2, none⟩ = some (.int .i64 B2) ∧ wd.cell? ⟨wr.heap.size, 3, none⟩ = some (.int .i64 B3) ∧ wd.cell? ⟨wr.heap.size, 4, none⟩ = some (.bool B4)) := hidP (HSB.out wd hbd)
        rw [← hwd]
        clear hwd hbd
        have HRD : Hid (ERow eSpan (wd.alloc (.cells #[.int .i64 B0, .int .i64 B1, .int .i64 B2, .int .i64 B3, .bool B4] 125)) w1.heap.size (.slice av ([] : List SpanE).length cv) []) := hidP (HRWd.out.below bal)
        have HNW : Hid (∀ j u, ([.int .i64 B0, .int .i64 B1, .int .i64 B2, .int .i64 B3, .bool B4] : List Value)[j]? = some u → (wd.alloc (.cells #[.int .i64 B0, .int .i64 B1, .int .i64 B2, .int .i64 B3, .bool B4] 125)).cell? ((⟨wd.heap.size, 0, none⟩ : Addr).add j) = some u) := hidP (World.news_of_block (cs := #[.int .i64 B0, .int .i64 B1, .int .i64 B2, .int .i64 B3, .bool B4]) (heap_alloc_new wd _))
        have hswd : w1.heap.size ≤ wd.heap.size := HBd.out.size
        obtain ⟨x0, x1, x2, x3, x4⟩ := HXd.out
        go_wp2_with (at_builtin; refine wpList_append_lies _ rfl (.tmp 38) (.tmp 40) 47 rfl w1.heap.size 125 iA _ 5 40 Try.underlying47 hiA hz0 hz1 hz2 rfl (by omega) (.slice av ([] : List SpanE).length cv) ([] : List SpanE).length (ecells eSpan []) rfl HRD.out ⟨wd.heap.size, 0, none⟩ 1 1 [.int .i64 B0, .int .i64 B1, .int .i64 B2, .int .i64 B3, .bool B4] rfl rfl HNW.out ?c2 (by omega) ?c3 ?c4 ?c5 (wd.heap.size + 1) (by simp) ?_)
        case c2 => intro u hu; simp at hu; rcases hu with rfl | rfl | rfl | rfl | rfl <;> rfl
        case c3 => unfold maxLen; omega
        case c4 => omega
        case c5 => simp; omega
        intro g7 c7 w7 hown hgrow hat hlt7
        have HR7 : Hid (ERow eSpan w7 w1.heap.size (.slice (some ⟨g7, 0, none⟩) (([] : List SpanE) ++ [(⟨B0, B1, B2, B3, B4⟩ : SpanE)]).length c7) (([] : List SpanE) ++ [⟨B0, B1, B2, B3, B4⟩])) := hidP (by rw [List.length_append, List.length_singleton]; exact erow_push (E := eSpan) (x := ⟨B0, B1, B2, B3, B4⟩) rfl hown)
        have HB7 : Hid (Below w1.heap.size w1 w7) := hidP ((HBd.out.alloc hswd _).grown hgrow (by simp; omega) (fun q hq => (HRD.out.own q hq).1))
        clear hown hgrow hat hlt7
        go_wp2_with fail
        go_roundw
        case rel => exact ⟨k + 1, some ⟨g7, 0, none⟩, c7, ([] : List SpanE) ++ [⟨B0, B1, B2, B3, B4⟩], by omega, by go_num, by simp, HV, HR7, HB7.out⟩
        case measure => first | (simp [intOf]; done) | (simp [intOf]; omega)
      · obtain ⟨M, hM⟩ : ∃ M, L.length = M + 1 := ⟨L.length - 1, by omega⟩
        have HM : Hid (L.length = M + 1) := hM
        have EM : (L.length : Int) - 1 = (M : Int) := by omega
        have M0 : (0 : Int) ≤ (M : Int) := by omega
        have M1 : (M : Int) < (L.length : Int) := by omega
        have WM : IntKind.i64.wrap (M : Int) = (M : Int) := by rw [IntKind.wrap_i64]; omega
        obtain ⟨⟨L0, L1, L2, L3, L4⟩, hLL⟩ : ∃ S, lastS L = S := ⟨_, rfl⟩
        have hLM : eAt eSpan L M = ⟨L0, L1, L2, L3, L4⟩ := by rw [← hLL]; unfold lastS; rw [hM]; rfl
        have hLok := HLO.out _ (show eAt eSpan L M ∈ L by
          unfold eAt
          rw [List.getD_eq_getElem?_getD, List.getElem?_eq_getElem (by omega)]
          exact List.getElem_mem _)
        rw [hLM] at hLok
        obtain ⟨gv, hgv, hcv⟩ := spCells HRWq.out
        obtain ⟨rfl, hgvl⟩ := hgv (by omega)
        have HGB : Hid (w1.heap.size ≤ gv ∧ gv < wr.heap.size) := hidP (HRW.out.own gv rfl)
        have HCV : Hid (∀ wX, Below wq.heap.size wq wX → wX.cell? ⟨gv, M * 5, none⟩ = some (.int .i64 L0) ∧ wX.cell? ⟨gv, M * 5 + 1, none⟩ = some (.int .i64 L1) ∧ wX.cell? ⟨gv, M * 5 + 2, none⟩ = some (.int .i64 L2) ∧ wX.cell? ⟨gv, M * 5 + 3, none⟩ = some (.int .i64 L3) ∧ wX.cell? ⟨gv, M * 5 + 4, none⟩ = some (.bool L4)) := hidP (fun wX hX => hcv M L0 L1 L2 L3 L4 (by omega) hLM wX hX)
        have hjn := hidP (fun wX => joins_any L0 L1 L2 L3 L4 B0 B1 B2 B3 B4 wX hLok)
        have HSA : Hid (∀ wX, Below wq.heap.size wq wX → (wX.cell? ⟨wr.heap.size, 0, none⟩ = some (.int .i64 B0) ∧ wX.cell? ⟨wr.heap.size, 1, none⟩ = some (.int .i64 B1) ∧ wX.cell? ⟨wr.heap.size, 2, none⟩ = some (.int .i64 B2) ∧ wX.cell? ⟨wr.heap.size, 3, none⟩ = some (.int .i64 B3) ∧ wX.cell? ⟨wr.heap.size, 4, none⟩ = some (.bool B4)) ∧ wX.cell? ⟨gv, M * 5, none⟩ = some (.int .i64 L0) ∧ wX.cell? ⟨gv, M * 5 + 1, none⟩ = some (.int .i64 L1) ∧ wX.cell? ⟨gv, M * 5 + 2, none⟩ = some (.int .i64 L2) ∧ wX.cell? ⟨gv, M * 5 + 3, none⟩ = some (.int .i64 L3) ∧ wX.cell? ⟨gv, M * 5 + 4, none⟩ = some (.bool L4)) := hidP (fun wX hX => ⟨HSB.out wX hX, HCV.out wX hX⟩)
        have HVV : Hid (joinL (rs'.take (k + 1)) = if joinsB ⟨L0, L1, L2, L3, L4⟩ ⟨B0, B1, B2, B3, B4⟩ = true then L.set M ⟨L0, L1 + B1, L2, L3, L4⟩ else L ++ [⟨B0, B1, B2, B3, B4⟩]) := hidP (by
          rw [HST.out]
          unfold joinStep
          rw [hLL, show L.length - 1 = M by omega]
          by_cases hj : joinsB ⟨L0, L1, L2, L3, L4⟩ ⟨B0, B1, B2, B3, B4⟩ = true
          · rw [if_pos ⟨by omega, hj⟩, if_pos hj]; rfl
          · rw [if_neg (fun h => hj h.2), if_neg hj])
        have HLM : Hid (eAt eSpan L M = ⟨L0, L1, L2, L3, L4⟩) := hLM
        rw [spanOk_iff] at hLok
        dsimp only at hLok
        have WC : IntKind.i64.wrap (L1 + B1) = L1 + B1 := by rw [IntKind.wrap_i64]; omega
        clear hLL hLM hM hn hcv hgv
        go_upto_region 7 with fail
        rw [← HWQ.out]
        clear y0 y1 y2 y3 y4
        refine wp_region_held_drew (S := fun wX => (wX.cell? ⟨wr.heap.size, 0, none⟩ = some (.int .i64 B0) ∧ wX.cell? ⟨wr.heap.size, 1, none⟩ = some (.int .i64 B1) ∧ wX.cell? ⟨wr.heap.size, 2, none⟩ = some (.int .i64 B2) ∧ wX.cell? ⟨wr.heap.size, 3, none⟩ = some (.int .i64 B3) ∧ wX.cell? ⟨wr.heap.size, 4, none⟩ = some (.bool B4)) ∧ wX.cell? ⟨gv, M * 5, none⟩ = some (.int .i64 L0) ∧ wX.cell? ⟨gv, M * 5 + 1, none⟩ = some (.int .i64 L1) ∧ wX.cell? ⟨gv, M * 5 + 2, none⟩ = some (.int .i64 L2) ∧ wX.cell? ⟨gv, M * 5 + 3, none⟩ = some (.int .i64 L3) ∧ wX.cell? ⟨gv, M * 5 + 4, none⟩ = some (.bool L4)) (by kernel_rfl) (HSA.out _ (Below.refl _ _).drew) (fun hHeld => ?_)
        refine tk 0 ?_
        refine tk 1 ?_
        refine tk 2 ?_
        refine tk 3 ?_
        refine tk 4 ?_
        refine tk 5 ?_
        refine tk 6 ?_
        refine tk 7 ?_
        refine wpAnyH_ready (rs := [8]) (by kernel_rfl) (by simp) ?_
        refine AllReadyH.cons rfl (fun K hK => ?_) AllReadyH.nil
        go_simp
        refine (hjn.out _).mono ?_
        rintro e wd ⟨rfl, hbd'⟩
        have hbd : Below wq.heap.size wq wd := (Below.refl _ _).drew.trans hbd'
        refine hK.out _ _ (HSA.out _ hbd) (fun hHeld2 => ?_)
        clear hK K hbd' hHeld
        have HRWd : Hid (ERow eSpan wd w1.heap.size (.slice (some ⟨gv, 0, none⟩) L.length cv) L) := hidP (HRWq.out.below hbd)
        have HBd : Hid (Below w1.heap.size w1 wd) := hidP (HBq.out.trans (hbd.mono HBq.out.size))
        have HXd : Hid (wd.cell? ⟨wr.heap.size, 0, none⟩ = some (.int .i64 B0) ∧ wd.cell? ⟨wr.heap.size, 1, none⟩ = some (.int .i64 B1) ∧ wd.cell? ⟨wr.heap.size, 2, none⟩ = some (.int .i64 B2) ∧ wd.cell? ⟨wr.heap.size, 3, none⟩ = some (.int .i64 B3) ∧ wd.cell? ⟨wr.heap.size, 4, none⟩ = some (.bool B4)) := hidP (HSB.out wd hbd)
        have HSD : Hid (∀ wX, Below wd.heap.size wd wX → (wX.cell? ⟨wr.heap.size, 0, none⟩ = some (.int .i64 B0) ∧ wX.cell? ⟨wr.heap.size, 1, none⟩ = some (.int .i64 B1) ∧ wX.cell? ⟨wr.heap.size, 2, none⟩ = some (.int .i64 B2) ∧ wX.cell? ⟨wr.heap.size, 3, none⟩ = some (.int .i64 B3) ∧ wX.cell? ⟨wr.heap.size, 4, none⟩ = some (.bool B4)) ∧ wX.cell? ⟨gv, M * 5, none⟩ = some (.int .i64 L0) ∧ wX.cell? ⟨gv, M * 5 + 1, none⟩ = some (.int .i64 L1) ∧ wX.cell? ⟨gv, M * 5 + 2, none⟩ = some (.int .i64 L2) ∧ wX.cell? ⟨gv, M * 5 + 3, none⟩ = some (.int .i64 L3) ∧ wX.cell? ⟨gv, M * 5 + 4, none⟩ = some (.bool L4)) := hidP (fun wX hX => HSA.out wX (hbd.trans (hX.mono hbd.size)))
        have HFZ : Hid (wd.frozen? ⟨gv, M * 5 + 1, none⟩ = false) := hidP (by
          rcases HRWd.out.2 with ⟨e, _⟩ | ⟨g', cap', cur, e, hb', hg', _⟩
          · cases e
          · simp only [Value.slice.injEq, Option.some.injEq, Addr.mk.injEq, and_true] at e
            obtain ⟨rfl, _⟩ := e
            have hr' : wd.rowIs gv 125 cur.size (fun i => cur.getD i (.bool false)) := ⟨cur, hg', rfl, fun i hi => by simp [hi]⟩
            exact hr'.frozen _)
        have hgd : gv < wd.heap.size := Nat.lt_of_lt_of_le hgvl hbd.size
        have hqd : wr.heap.size < wd.heap.size := Nat.lt_of_lt_of_le hzq hbd.size
        clear hbd
        cases hj : joinsB ⟨L0, L1, L2, L3, L4⟩ ⟨B0, B1, B2, B3, B4⟩ with
        | true =>
          have HV : Hid (joinL (rs'.take (k + 1)) = L.set M ⟨L0, L1 + B1, L2, L3, L4⟩) := hidP (by rw [HVV.out, hj]; rfl)
          clear hj
          refine tk 9 ?_
          refine wpAnyH_done (by kernel_rfl) ?_ _
          clear hHeld2
          have f1 := HFZ.out
          obtain ⟨-, l1, -⟩ := (HSD.out wd (Below.refl _ _)).2
          have HE : Hid (∀ u, (wd.drew.setCell ⟨gv, M * 5 + 1, none⟩ u).cell? ⟨wr.heap.size, 1, none⟩ = some (.int .i64 B1)) := hidP (fun u => (World.cell?_setCell_other _ _ _ _ (fun e => by simp only [Addr.mk.injEq] at e; have := HGB.out.2; omega)).trans HXd.out.2.1)
          have HX1 : Hid (∀ wX, Below wd.heap.size wd wX → wX.cell? ⟨wr.heap.size, 1, none⟩ = some (.int .i64 B1)) := hidP (fun wX hX => (HSD.out wX hX).1.2.1)
          have HR9 : Hid (ERow eSpan (wd.drew.setCell ⟨gv, M * 5 + 1, none⟩ (.int .i64 (L1 + B1))) w1.heap.size (.slice (some ⟨gv, 0, none⟩) (L.set M ⟨L0, L1 + B1, L2, L3, L4⟩).length cv) (L.set M ⟨L0, L1 + B1, L2, L3, L4⟩)) := hidP (by
            rw [List.length_set]
            exact erow_count_set (HRWd.out.below (Below.refl _ _).drew) (by have := HM.out; omega) HLM.out)
          have HB9 : Hid (Below w1.heap.size w1 (wd.drew.setCell ⟨gv, M * 5 + 1, none⟩ (.int .i64 (L1 + B1)))) := hidP (HBd.out.drew.setCell HGB.out.1 _)
          go_wp2_with fail
          refine wp_region_held_drew (S := fun wX => wX.cell? ⟨wr.heap.size, 1, none⟩ = some (.int .i64 B1)) (by kernel_rfl) (HX1.out _ (Below.refl _ _).drew) (fun hHeld => ?_)
          refine tk 0 ?_
          refine tk 1 ?_
          refine tk 2 ?_
          refine tk 3 ?_
          refine tk 5 ?_
          refine tk 6 ?_
          refine wpAnyH_ready (rs := [4]) (by kernel_rfl) (by simp) ?_
          refine AllReadyH.cons rfl (fun K hK => ?_) AllReadyH.nil
          go_simp
          refine hK.out _ _ (HX1.out _ (Below.refl _ _).drew) (fun hHeld2 => ?_)
          clear hK K
          refine tk 7 ?_
          refine tk 8 ?_
          refine tk 9 ?_
          refine wpAnyH_ready (rs := [10]) (by kernel_rfl) (by simp) ?_
          refine AllReadyH.cons rfl (fun K hK => ?_) AllReadyH.nil
          go_simp
          refine hK.out _ _ (HE.out _) (fun hHeld3 => ?_)
          clear hK K hHeld hHeld2 hHeld3
          refine wpAnyH_done (by kernel_rfl) ?_ _
          go_wp2_with fail
          go_roundw
          case rel => exact ⟨k + 1, some ⟨gv, 0, none⟩, cv, L.set M ⟨L0, L1 + B1, L2, L3, L4⟩, by omega, by go_num, by simp, HV, HR9, HB9.out⟩
          case measure => first | (simp [intOf]; done) | (simp [intOf]; omega)
        | false =>
          have HV : Hid (joinL (rs'.take (k + 1)) = L ++ [⟨B0, B1, B2, B3, B4⟩]) := hidP (by rw [HVV.out, hj]; rfl)
          clear hj
          refine tk 9 ?_
          refine wpAnyH_done (by kernel_rfl) ?_ _
          clear hHeld2
          have HRD : Hid (ERow eSpan (wd.alloc (.cells #[.int .i64 B0, .int .i64 B1, .int .i64 B2, .int .i64 B3, .bool B4] 125)) w1.heap.size (.slice (some ⟨gv, 0, none⟩) L.length cv) L) := hidP (HRWd.out.below bal)
          have HNW : Hid (∀ j u, ([.int .i64 B0, .int .i64 B1, .int .i64 B2, .int .i64 B3, .bool B4] : List Value)[j]? = some u → (wd.alloc (.cells #[.int .i64 B0, .int .i64 B1, .int .i64 B2, .int .i64 B3, .bool B4] 125)).cell? ((⟨wd.heap.size, 0, none⟩ : Addr).add j) = some u) := hidP (World.news_of_block (cs := #[.int .i64 B0, .int .i64 B1, .int .i64 B2, .int .i64 B3, .bool B4]) (heap_alloc_new wd _))
          have hswd : w1.heap.size ≤ wd.heap.size := HBd.out.size
          obtain ⟨x0, x1, x2, x3, x4⟩ := HXd.out
          go_wp2_with (at_builtin; refine wpList_append_lies _ rfl (.tmp 38) (.tmp 40) 47 rfl w1.heap.size 125 iA _ 5 40 Try.underlying47 hiA hz0 hz1 hz2 rfl (by omega) (.slice (some ⟨gv, 0, none⟩) L.length cv) L.length (ecells eSpan L) rfl HRD.out ⟨wd.heap.size, 0, none⟩ 1 1 [.int .i64 B0, .int .i64 B1, .int .i64 B2, .int .i64 B3, .bool B4] rfl rfl HNW.out ?c2 (by omega) ?c3 ?c4 ?c5 (wd.heap.size + 1) (by simp) ?_)
          case c2 => intro u hu; simp at hu; rcases hu with rfl | rfl | rfl | rfl | rfl <;> rfl
          case c3 => unfold maxLen; omega
          case c4 => omega
          case c5 => simp; omega
          intro g7 c7 w7 hown hgrow hat hlt7
          have HR7 : Hid (ERow eSpan w7 w1.heap.size (.slice (some ⟨g7, 0, none⟩) (L ++ [(⟨B0, B1, B2, B3, B4⟩ : SpanE)]).length c7) (L ++ [⟨B0, B1, B2, B3, B4⟩])) := hidP (by rw [List.length_append, List.length_singleton]; exact erow_push (E := eSpan) (x := ⟨B0, B1, B2, B3, B4⟩) rfl hown)
          have HB7 : Hid (Below w1.heap.size w1 w7) := hidP ((HBd.out.alloc hswd _).grown hgrow (by simp; omega) (fun q hq => (HRD.out.own q hq).1))
          clear hown hgrow hat hlt7
          go_wp2_with fail
          go_roundw
          case rel => exact ⟨k + 1, some ⟨g7, 0, none⟩, c7, L ++ [⟨B0, B1, B2, B3, B4⟩], by omega, by go_num, by simp, HV, HR7, HB7.out⟩
          case measure => first | (simp [intOf]; done) | (simp [intOf]; omega)
    · obtain rfl : k = rs.length := by omega
      have K2 : ¬ (rs.length : Int) < (rs.length : Int) := by omega
      have HV : Hid (joinL rs' = L) := hidP (by rw [← HLL.out, List.take_of_length_le (by rw [HLN.out]; omega)])
      go_wp2_with fail
      refine bodyPost_ret (v := .slice av L.length cv) (by simp [results, Try.results64, go_sem]) rfl ⟨rs', av, cv, HPM.out, HSO.out, by rw [HV.out], ?_, ?_⟩
      · rw [HV.out]
        exact HRW.out.rebase HTC.out.size
      · exact HTC.out.trans (Touch.of_below HBR.out)
end Go.Proofs.Ytnmhkgmmpkjjeaa
