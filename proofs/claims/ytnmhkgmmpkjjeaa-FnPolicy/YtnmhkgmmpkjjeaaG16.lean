import Derived.Test.YtnmhkgmmpkjjeaaG15
namespace Go.Proofs.Ytnmhkgmmpkjjeaa
open Go.ChangeShapes Go.WideShapes Go.ChangeAt Go.RowKit
set_option linter.unusedVariables false
set_option maxRecDepth 100000
attribute [local go_sem ↓] Go.wp_at_zero Go.wp_at_succ

theorem span_push {w wq wn : World} {g c g1 c1 : Nat} {l : List SpanE} {x : SpanE} (hbel : Below w.heap.size w wq) (hr : ERow eSpan wq w.heap.size (.slice (some ⟨g, 0, none⟩) l.length c) l) (hown : wn.ownsRow w.heap.size eSpan.T eSpan.sz (.slice (some ⟨g1, 0, none⟩) (l.length + 1) c1) (l.length + 1) (ecells eSpan l ++ eSpan.enc x)) (hgrow : wq.grownBy wn (Value.ownBlock (.slice (some ⟨g, 0, none⟩) l.length c))) :
    ERow eSpan wn w.heap.size (.slice (some ⟨g1, 0, none⟩) (l ++ [x]).length c1) (l ++ [x]) ∧ Below w.heap.size w wn := by
  refine ⟨?_, hbel.grown hgrow hbel.size (fun q hq => (hr.own q hq).1)⟩
  have := erow_push rfl hown
  rw [List.length_append, List.length_singleton]
  exact this

set_option maxHeartbeats 4000000 in
theorem l4Spans_any (a : Option Addr) (c : Nat) (all : List St) (w : World) (hle : all.length ≤ 1000) (hok : ∀ s ∈ all, StOk s) (hr : StR w a all) :
    Calls Try.prog 62 #[.slice a all.length c] w fun e w' => ∃ g c1, e = .returned (.slice (some ⟨g, 0, none⟩) (spansTo all 4096).length c1) ∧ ERow eSpan w' w.heap.size (.slice (some ⟨g, 0, none⟩) (spansTo all 4096).length c1) (spansTo all 4096) ∧ Below w.heap.size w w' := by
  obtain ⟨i0, hi, hz0, hz1, hz2⟩ := info_parts infoSpan
  have HP : Hid (∀ (k : Nat) wX, k < 4096 → Below w.heap.size w wX → Calls Try.prog 124 #[.slice a all.length c, .int .i64 (k : Int)] wX fun e w' => e = .returned (spanV (pieceL all (k : Nat))) ∧ Below wX.heap.size wX w') := hidP fun k wX hk hX => l4Piece_any a c all (k : Nat) wX hle hok (by omega) (by omega) (hr.below hX)
  have HW : Hid (∀ k, k ≤ 4096 → (spansTo all k).length ≤ k ∧ ∀ e ∈ spansTo all k, SpW k e) := hidP fun k hk => spans_w hok k hk
  have HS0 : Hid (ERow eSpan (w.alloc (.cells #[] 125)) w.heap.size (.slice (some ⟨w.heap.size, 0, none⟩) 0 0) []) := hidP (ERow.empty eSpan w w.heap.size (Nat.le_refl _))
  clear hr hok
  go_enter Try.func62, Try.ntmps62
  go_wp2_with fail
  go_loopw [3, 4] (fun vv pv wr => ∃ (k : Nat) (L : List SpanE) (gv cv : Nat), k ≤ 4096 ∧ pv = .int .i64 (k : Int) ∧ vv = .slice (some ⟨gv, 0, none⟩) L.length cv ∧ Hid (spansTo all k = L) ∧ Hid (ERow eSpan wr w.heap.size (.slice (some ⟨gv, 0, none⟩) L.length cv) L) ∧ Below w.heap.size w wr) (fun _ pv _ => 4096 - (intOf pv).toNat)
  case atStart => exact ⟨0, [], w.heap.size, 0, by omega, rfl, rfl, hidP rfl, HS0, bal⟩
  case round =>
    obtain ⟨k, L, gv, cv, hk, rfl, rfl, HL, HRW, hb⟩ := hrel
    have sr := hb.size
    have HB : Hid (Below _ w wr) := hb
    by_cases hlt : k < 4096
    · have K1 : (k : Int) < 4096 := by omega
      have hp := HP.out k wr hlt hb
      have HST : Hid (spansTo all (k + 1) = spanStep L (pieceL all (k : Nat))) := hidP (by rw [← HL.out]; rfl)
      have hLw := HW.out k (by omega)
      rw [HL.out] at hLw
      obtain ⟨hLl, hLe⟩ := hLw
      have HLE : Hid _ := hLe
      unfold spanV at hp
      generalize pieceL all (k : Nat) = SS at *
      obtain ⟨B0, B1, B2, B3, B4⟩ := SS
      dsimp only at hp
      clear hb hLe
      go_wp2_with fail
      refine hp.mono ?_
      rintro e w1 ⟨rfl, hb1'⟩
      have hb1 : Below w.heap.size w w1 := HB.out.trans (hb1'.mono sr)
      have s1 := hb1.size
      have hgv := (HRW.out.own gv rfl).2
      have z1 := hb1'.size
      by_cases h1 : B1 = 1
      · subst h1
        obtain ⟨wb, hwb⟩ : ∃ wb, wb = w1.alloc (.cells #[.int .i64 B0, .int .i64 1, .int .i64 B2, .int .i64 B3, .bool B4] 125) := ⟨_, rfl⟩
        have hbb : Below w.heap.size w wb := by rw [hwb]; exact hb1.alloc s1 _
        have zb : w1.heap.size < wb.heap.size := by rw [hwb]; simp
        have hrwb : ERow eSpan wb w.heap.size (.slice (some ⟨gv, 0, none⟩) L.length cv) L := by rw [hwb]; exact (HRW.out.below hb1').below bal
        have HSB : Hid (∀ wX, Below wb.heap.size wb wX → wX.cell? ⟨w1.heap.size, 0, none⟩ = some (.int .i64 B0) ∧ wX.cell? ⟨w1.heap.size, 1, none⟩ = some (.int .i64 1) ∧ wX.cell? ⟨w1.heap.size, 2, none⟩ = some (.int .i64 B2) ∧ wX.cell? ⟨w1.heap.size, 3, none⟩ = some (.int .i64 B3) ∧ wX.cell? ⟨w1.heap.size, 4, none⟩ = some (.bool B4)) := hidP fun wX hX => by
          refine ⟨?_, ?_, ?_, ?_, ?_⟩
          iterate 5 (exact (hX.cell (by simpa using zb)).trans (by rw [hwb]; simp [go_sem]))
        have HRB : Hid (ERow _ _ _ _ _) := hrwb
        have HBB : Hid (Below _ w wb) := hbb
        have HWB : Hid (wb = _) := hwb
        have HSS : Hid (spanStep L ⟨B0, 1, B2, B3, B4⟩ = if 0 < L.length ∧ joinsB (lastS L) ⟨B0, 1, B2, B3, B4⟩ = true then L.set (L.length - 1) (more (lastS L)) else L ++ [⟨B0, 1, B2, B3, B4⟩]) := hidP (by unfold spanStep; rw [if_pos rfl])
        have gb : gv < wb.heap.size := by omega
        obtain ⟨x0, x1, x2, x3, x4⟩ := HSB.out wb (Below.refl _ _)
        clear hb1' hb1 hwb hbb hrwb hp
        by_cases hn : L.length = 0
        · obtain rfl : L = [] := List.length_eq_zero_iff.1 hn
          have HV : Hid (spansTo all (k + 1) = ([] : List SpanE) ++ [⟨B0, 1, B2, B3, B4⟩]) := hidP (by rw [HST.out, HSS.out, if_neg (by simp)])
          clear HST HSS hn hLl
          dsimp only [List.length_nil] at HRB
          go_upto_region 8 with fail
          rw [← HWB.out]
          refine wp_region_held_drew (S := (fun wX => wX.cell? ⟨w1.heap.size, 0, none⟩ = some (.int .i64 B0) ∧ wX.cell? ⟨w1.heap.size, 1, none⟩ = some (.int .i64 1) ∧ wX.cell? ⟨w1.heap.size, 2, none⟩ = some (.int .i64 B2) ∧ wX.cell? ⟨w1.heap.size, 3, none⟩ = some (.int .i64 B3) ∧ wX.cell? ⟨w1.heap.size, 4, none⟩ = some (.bool B4))) (by kernel_rfl) (HSB.out _ (Below.refl _ _).drew) (fun hHeld => ?_)
          refine tk 0 ?_
          refine tk 1 ?_
          refine tk 2 ?_
          refine sk 3 ?_
          refine sk 4 ?_
          refine sk 5 ?_
          refine sk 6 ?_
          refine sk 7 ?_
          refine sk 8 ?_
          refine sk 9 ?_
          refine tk 10 ?_
          refine wpAnyH_done (by kernel_rfl) ?_ _
          clear hHeld
          have HRD : Hid (ERow eSpan (wb.alloc (.cells #[.int .i64 B0, .int .i64 1, .int .i64 B2, .int .i64 B3, .bool B4] 125)).drew w.heap.size (.slice (some ⟨gv, 0, none⟩) 0 cv) []) := hidP (HRB.out.below bal.drew)
          have HBD : Hid (Below w.heap.size w (wb.alloc (.cells #[.int .i64 B0, .int .i64 1, .int .i64 B2, .int .i64 B3, .bool B4] 125)).drew) := hidP (HBB.out.alloc HBB.out.size _).drew
          go_wp2_with (at_builtin; refine wpList_append_lies _ rfl (.tmp 46) (.tmp 48) 47 rfl w.heap.size 125 i0 _ 5 40 Try.underlying47 hi hz0 hz1 hz2 rfl (by omega) _ _ _ rfl HRD.out ⟨_, 0, none⟩ 1 1 [.int .i64 B0, .int .i64 1, .int .i64 B2, .int .i64 B3, .bool B4] rfl rfl ?c1 ?c2 (by omega) ?c3 ?c4 ?c5 _ rfl ?_)
          case c1 => exact World.news_of_block (show (wb.alloc (.cells #[.int .i64 B0, .int .i64 1, .int .i64 B2, .int .i64 B3, .bool B4] 125)).drew.heap[wb.heap.size]? = _ from heap_alloc_new wb _)
          case c2 => intro u hu; simp at hu; rcases hu with rfl | rfl | rfl | rfl | rfl <;> rfl
          case c3 => unfold maxLen; first | omega | (simp; done) | (simp; omega)
          case c4 => first | omega | (simp; done) | (simp; omega)
          case c5 => first | omega | (simp; omega)
          intro g7 c7 w7 hown hgrow hat hlt3
          obtain ⟨hr7, hb7⟩ := span_push (x := ⟨B0, 1, B2, B3, B4⟩) HBD.out HRD.out hown hgrow
          have HR7 : Hid (ERow eSpan w7 w.heap.size (.slice (some ⟨g7, 0, none⟩) (([] : List SpanE) ++ [(⟨B0, 1, B2, B3, B4⟩ : SpanE)]).length c7) (([] : List SpanE) ++ [(⟨B0, 1, B2, B3, B4⟩ : SpanE)])) := hr7
          have HB7 : Hid (Below w.heap.size w w7) := hb7
          clear hown hgrow hat hlt3 hr7 hb7
          go_wp2_with fail
          go_roundw
          case rel => exact ⟨k + 1, ([] : List SpanE) ++ [(⟨B0, 1, B2, B3, B4⟩ : SpanE)], g7, c7, by omega, by go_num, by simp, HV, HR7, HB7.out⟩
          case measure => first | (simp [intOf]; done) | (simp [intOf]; omega)
        · obtain ⟨M, hM⟩ : ∃ M, L.length = M + 1 := ⟨L.length - 1, by omega⟩
          have HM : Hid (L.length = M + 1) := hM
          have EM : (L.length : Int) - 1 = (M : Int) := by omega
          have M0 : (0 : Int) ≤ (M : Int) := by omega
          have M1 : (M : Int) < (L.length : Int) := by omega
          have WM : IntKind.i64.wrap (M : Int) = (M : Int) := by rw [IntKind.wrap_i64]; omega
          have hnb : decide ((0 : Int) < (L.length : Int)) = true := decide_eq_true (by omega)
          have hnp : 0 < L.length := by omega
          obtain ⟨⟨L0, L1, L2, L3, L4⟩, hLL⟩ : ∃ S, lastS L = S := ⟨_, rfl⟩
          have hLM : eAt eSpan L M = ⟨L0, L1, L2, L3, L4⟩ := by rw [← hLL]; unfold lastS; rw [hM]; rfl
          have hLw2 := HLE.out _ (show eAt eSpan L M ∈ L by
            unfold eAt
            rw [List.getD_eq_getElem?_getD, List.getElem?_eq_getElem (by omega)]
            exact List.getElem_mem _)
          rw [hLM] at hLw2
          obtain ⟨v1, v2, v3, v4, v5, v6⟩ := hLw2
          dsimp only at v1 v2 v3 v4 v5 v6
          obtain ⟨gq, hgq, hcq⟩ := spCells HRB.out
          obtain ⟨eg, _⟩ := hgq hnp
          simp only [Option.some.injEq, Addr.mk.injEq, and_true] at eg
          subst eg
          have HCL : Hid (∀ wX, Below wb.heap.size wb wX → wX.cell? ⟨gv, M * 5, none⟩ = some (.int .i64 L0) ∧ wX.cell? ⟨gv, M * 5 + 1, none⟩ = some (.int .i64 L1) ∧ wX.cell? ⟨gv, M * 5 + 2, none⟩ = some (.int .i64 L2) ∧ wX.cell? ⟨gv, M * 5 + 3, none⟩ = some (.int .i64 L3) ∧ wX.cell? ⟨gv, M * 5 + 4, none⟩ = some (.bool L4)) := hidP fun wX hX => hcq M L0 L1 L2 L3 L4 (by omega) hLM wX hX
          have hjn := fun wX => l4JoinsW_any L0 L1 L2 L3 L4 B0 1 B2 B3 B4 wX v1 (by omega) v3 (by omega) (by omega) (by omega)
          have HSS2 : Hid (spanStep L ⟨B0, 1, B2, B3, B4⟩ = if joinsB ⟨L0, L1, L2, L3, L4⟩ ⟨B0, 1, B2, B3, B4⟩ = true then L.set M ⟨L0, L1 + 1, L2, L3, L4⟩ else L ++ [⟨B0, 1, B2, B3, B4⟩]) := hidP (by
            rw [HSS.out, hLL]
            have e : L.length - 1 = M := by omega
            rw [e]
            unfold more
            by_cases hj : joinsB ⟨L0, L1, L2, L3, L4⟩ ⟨B0, 1, B2, B3, B4⟩ = true
            · rw [if_pos ⟨hnp, hj⟩, if_pos hj]
            · rw [if_neg (fun h => hj h.2), if_neg hj])
          have HSA : Hid (∀ wX, Below wb.heap.size wb wX → (wX.cell? ⟨w1.heap.size, 0, none⟩ = some (.int .i64 B0) ∧ wX.cell? ⟨w1.heap.size, 1, none⟩ = some (.int .i64 1) ∧ wX.cell? ⟨w1.heap.size, 2, none⟩ = some (.int .i64 B2) ∧ wX.cell? ⟨w1.heap.size, 3, none⟩ = some (.int .i64 B3) ∧ wX.cell? ⟨w1.heap.size, 4, none⟩ = some (.bool B4)) ∧ wX.cell? ⟨gv, M * 5, none⟩ = some (.int .i64 L0) ∧ wX.cell? ⟨gv, M * 5 + 1, none⟩ = some (.int .i64 L1) ∧ wX.cell? ⟨gv, M * 5 + 2, none⟩ = some (.int .i64 L2) ∧ wX.cell? ⟨gv, M * 5 + 3, none⟩ = some (.int .i64 L3) ∧ wX.cell? ⟨gv, M * 5 + 4, none⟩ = some (.bool L4)) := hidP fun wX hX => ⟨HSB.out wX hX, HCL.out wX hX⟩
          generalize joinsB ⟨L0, L1, L2, L3, L4⟩ ⟨B0, 1, B2, B3, B4⟩ = J at *
          clear hn hM hLM hLL hcq hgq HSS
          go_upto_region 8 with fail
          rw [← HWB.out]
          refine wp_region_held_drew (S := (fun wX => (wX.cell? ⟨w1.heap.size, 0, none⟩ = some (.int .i64 B0) ∧ wX.cell? ⟨w1.heap.size, 1, none⟩ = some (.int .i64 1) ∧ wX.cell? ⟨w1.heap.size, 2, none⟩ = some (.int .i64 B2) ∧ wX.cell? ⟨w1.heap.size, 3, none⟩ = some (.int .i64 B3) ∧ wX.cell? ⟨w1.heap.size, 4, none⟩ = some (.bool B4)) ∧ wX.cell? ⟨gv, M * 5, none⟩ = some (.int .i64 L0) ∧ wX.cell? ⟨gv, M * 5 + 1, none⟩ = some (.int .i64 L1) ∧ wX.cell? ⟨gv, M * 5 + 2, none⟩ = some (.int .i64 L2) ∧ wX.cell? ⟨gv, M * 5 + 3, none⟩ = some (.int .i64 L3) ∧ wX.cell? ⟨gv, M * 5 + 4, none⟩ = some (.bool L4))) (by kernel_rfl) (HSA.out _ (Below.refl _ _).drew) (fun hHeld => ?_)
          refine tk 0 ?_
          refine tk 1 ?_
          refine tk 2 ?_
          refine tk 3 ?_
          refine tk 4 ?_
          refine tk 5 ?_
          refine tk 6 ?_
          refine tk 7 ?_
          refine tk 8 ?_
          refine wpAnyH_ready (rs := [9]) (by kernel_rfl) (by simp) ?_
          refine AllReadyH.cons rfl (fun K hK => ?_) AllReadyH.nil
          go_simp
          go_at_call 125
          refine (hjn _).mono ?_
          rintro e w2 ⟨rfl, hb2⟩
          have hB2 : Below wb.heap.size wb w2 := (Below.refl _ _).drew.trans (hb2.mono (by simp))
          go_wp2_with fail
          refine hK.out _ _ (HSA.out _ hB2) (fun hHeld2 => ?_)
          clear hK K
          refine tk 10 ?_
          refine wpAnyH_done (by kernel_rfl) ?_ _
          have HR2 : Hid (ERow eSpan w2 w.heap.size (.slice (some ⟨gv, 0, none⟩) L.length cv) L) := hidP (HRB.out.below hB2)
          have HB2 : Hid (Below w.heap.size w w2) := hidP (HBB.out.trans (hB2.mono HBB.out.size))
          obtain ⟨⟨y0, y1, y2, y3, y4⟩, u0, u1, u2, u3, u4⟩ := HSA.out w2 hB2
          have s2 := HB2.out.size
          clear hHeld hHeld2 hb2 hB2 x0 x1 x2 x3 x4
          cases J
          · have HV : Hid (spansTo all (k + 1) = L ++ [⟨B0, 1, B2, B3, B4⟩]) := hidP (by rw [HST.out, HSS2.out]; rfl)
            clear HST HSS2
            have HRD : Hid (ERow eSpan (w2.alloc (.cells #[.int .i64 B0, .int .i64 1, .int .i64 B2, .int .i64 B3, .bool B4] 125)) w.heap.size (.slice (some ⟨gv, 0, none⟩) L.length cv) L) := hidP (HR2.out.below bal)
            have HBD : Hid (Below w.heap.size w (w2.alloc (.cells #[.int .i64 B0, .int .i64 1, .int .i64 B2, .int .i64 B3, .bool B4] 125))) := hidP (HB2.out.alloc s2 _)
            go_wp2_with (at_builtin; refine wpList_append_lies _ rfl (.tmp 46) (.tmp 48) 47 rfl w.heap.size 125 i0 _ 5 40 Try.underlying47 hi hz0 hz1 hz2 rfl (by omega) _ _ _ rfl HRD.out ⟨_, 0, none⟩ 1 1 [.int .i64 B0, .int .i64 1, .int .i64 B2, .int .i64 B3, .bool B4] rfl rfl ?c1 ?c2 (by omega) ?c3 ?c4 ?c5 _ rfl ?_)
            case c1 => exact World.news_of_block (heap_alloc_new _ (.cells #[.int .i64 B0, .int .i64 1, .int .i64 B2, .int .i64 B3, .bool B4] 125))
            case c2 => intro u hu; simp at hu; rcases hu with rfl | rfl | rfl | rfl | rfl <;> rfl
            case c3 => unfold maxLen; first | omega | (simp; done) | (simp; omega)
            case c4 => first | omega | (simp; done) | (simp; omega)
            case c5 => first | omega | (simp; omega)
            intro g7 c7 w7 hown hgrow hat hlt3
            obtain ⟨hr7, hb7⟩ := span_push (x := ⟨B0, 1, B2, B3, B4⟩) HBD.out HRD.out hown hgrow
            have HR7 : Hid (ERow eSpan w7 w.heap.size (.slice (some ⟨g7, 0, none⟩) (L ++ [(⟨B0, 1, B2, B3, B4⟩ : SpanE)]).length c7) (L ++ [(⟨B0, 1, B2, B3, B4⟩ : SpanE)])) := hr7
            have HB7 : Hid (Below w.heap.size w w7) := hb7
            clear hown hgrow hat hlt3 hr7 hb7
            go_wp2_with fail
            go_roundw
            case rel => exact ⟨k + 1, L ++ [(⟨B0, 1, B2, B3, B4⟩ : SpanE)], g7, c7, by omega, by go_num, by simp, HV, HR7, HB7.out⟩
            case measure => first | (simp [intOf]; done) | (simp [intOf]; omega)
          · have HV : Hid (spansTo all (k + 1) = L.set M ⟨L0, L1 + 1, L2, L3, L4⟩) := hidP (by rw [HST.out, HSS2.out]; rfl)
            clear HST HSS2
            have HFZ : Hid (∀ j, w2.frozen? ⟨gv, j, none⟩ = false) := hidP fun j => by
              obtain ⟨aa, cc, ee, hf⟩ := HR2.out.form
              obtain ⟨g', N, f, e2, _, hrr, _⟩ := hf hnp
              simp only [Value.slice.injEq] at ee
              rw [e2] at ee
              simp only [Option.some.injEq, Addr.mk.injEq, and_true] at ee
              rw [ee.1]
              exact hrr.frozen j
            have z0 := HFZ.out (M * 5); have zz1 := HFZ.out (M * 5 + 1); have z2 := HFZ.out (M * 5 + 2); have z3 := HFZ.out (M * 5 + 3); have z4 := HFZ.out (M * 5 + 4)
            have g2 := (HR2.out.own gv rfl).2
            have gz2 := (HR2.out.own gv rfl).1
            have HF : Hid (ERow eSpan ((((((w2.setCell ⟨gv, M * 5, none⟩ (.int .i64 L0)).setCell ⟨gv, M * 5 + 1, none⟩ (.int .i64 (L1 + 1))).setCell ⟨gv, M * 5 + 2, none⟩ (.int .i64 L2)).setCell ⟨gv, M * 5 + 3, none⟩ (.int .i64 L3)).setCell ⟨gv, M * 5 + 4, none⟩ (.bool L4)).alloc (.cells #[.int .i64 L0, .int .i64 (L1 + 1), .int .i64 L2, .int .i64 L3, .bool L4] 125)) w.heap.size (.slice (some ⟨gv, 0, none⟩) (L.set M ⟨L0, L1 + 1, L2, L3, L4⟩).length cv) (L.set M ⟨L0, L1 + 1, L2, L3, L4⟩)) := hidP (by
              rw [List.length_set]
              exact (erow_span_set HR2.out (by omega)).below bal)
            have HFB : Hid (Below w.heap.size w ((((((w2.setCell ⟨gv, M * 5, none⟩ (.int .i64 L0)).setCell ⟨gv, M * 5 + 1, none⟩ (.int .i64 (L1 + 1))).setCell ⟨gv, M * 5 + 2, none⟩ (.int .i64 L2)).setCell ⟨gv, M * 5 + 3, none⟩ (.int .i64 L3)).setCell ⟨gv, M * 5 + 4, none⟩ (.bool L4)).alloc (.cells #[.int .i64 L0, .int .i64 (L1 + 1), .int .i64 L2, .int .i64 L3, .bool L4] 125))) := hidP ((((((HB2.out.setCell gz2 _).setCell gz2 _).setCell gz2 _).setCell gz2 _).setCell gz2 _).alloc (by simp; omega) _)
            go_wp2_with fail
            go_roundw
            case rel => exact ⟨k + 1, L.set M ⟨L0, L1 + 1, L2, L3, L4⟩, gv, cv, by omega, by go_num, by simp, HV, HF, HFB.out⟩
            case measure => first | (simp [intOf]; done) | (simp [intOf]; omega)
      · have h1b : (B1 == 1) = false := by simpa using h1
        have HV : Hid (spansTo all (k + 1) = L) := hidP (by rw [HST.out]; unfold spanStep; rw [if_neg h1])
        have HB1 : Hid (Below w.heap.size w (w1.alloc (.cells #[.int .i64 B0, .int .i64 B1, .int .i64 B2, .int .i64 B3, .bool B4] 125))) := hidP (hb1.alloc s1 _)
        have HR1 : Hid (ERow eSpan (w1.alloc (.cells #[.int .i64 B0, .int .i64 B1, .int .i64 B2, .int .i64 B3, .bool B4] 125)) w.heap.size (.slice (some ⟨gv, 0, none⟩) L.length cv) L) := hidP ((HRW.out.below hb1').below bal)
        clear hb1' hb1 hp
        go_wp2_with fail
        go_roundw
        case rel => exact ⟨k + 1, L, gv, cv, by omega, by go_num, rfl, HV, HR1, HB1.out⟩
        case measure => first | (simp [intOf]; done) | (simp [intOf]; omega)
    · have ek : k = 4096 := by omega
      have HV : Hid (spansTo all 4096 = L) := hidP (by rw [← ek]; exact HL.out)
      have K1 : ¬ (k : Int) < 4096 := by omega
      clear hb ek
      go_wp2_with fail
      rw [HV.out]
      go_ret
      exact ⟨gv, cv, rfl, HRW.out, HB.out⟩
end Go.Proofs.Ytnmhkgmmpkjjeaa
