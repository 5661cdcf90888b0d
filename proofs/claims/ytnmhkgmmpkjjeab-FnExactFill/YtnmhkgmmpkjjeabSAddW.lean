import Derived.Test.YtnmhkgmmpkjjeabSAddB
namespace Go.Proofs.Ytnmhkgmmpkjjeab
open Go.ChangeShapes Go.WideShapes Go.ChangeAt Go.RowKit
set_option linter.unusedVariables false
attribute [local go_sem ↓] Go.wp_at_zero Go.wp_at_succ

set_option maxRecDepth 100000 in
set_option maxHeartbeats 4000000 in
theorem addWc_any (s : SV) (M : Mach) (b : Nat) (e : WcE) (w : World) (hs : M.Small) (h : MRow w b (s.mv M) M) :
    Calls Try.prog 184 #[.agg #[.slice s.a1 M.mem.length s.c1, .slice s.a2 M.pend.length s.c2, .slice s.a3 M.tlb.length s.c3, .slice s.a4 M.wc.length s.c4], .agg #[.int .i64 e.level, .int .i64 e.page, .int .i64 e.table, .bool e.doom]] w fun r w' => ∃ s' : SV, r = .returned (.agg #[.slice s'.a1 (addWcM M e).mem.length s'.c1, .slice s'.a2 (addWcM M e).pend.length s'.c2, .slice s'.a3 (addWcM M e).tlb.length s'.c3, .slice s'.a4 (addWcM M e).wc.length s'.c4]) ∧ MRow w' w.heap.size (s'.mv (addWcM M e)) (addWcM M e) ∧ Below w.heap.size w w' := by
  have y1 := hs.w
  have y2 := hs.p
  have y3 := hs.t
  have y4 := hs.c
  obtain ⟨iE, hiE, hz0, hz1, hz2⟩ := info_parts infoWc
  obtain ⟨wb, hwb⟩ : ∃ wb, wb = ((w.alloc (.cells #[.slice s.a1 M.mem.length s.c1, .slice s.a2 M.pend.length s.c2, .slice s.a3 M.tlb.length s.c3, .slice s.a4 M.wc.length s.c4] 51)).alloc (.cells #[.int .i64 e.level, .int .i64 e.page, .int .i64 e.table, .bool e.doom] 120)).alloc (.cells #[.slice none 0 0, .slice none 0 0, .slice none 0 0, .slice none 0 0] 51) := ⟨_, rfl⟩
  have hbb : Below w.heap.size w wb := by rw [hwb]; exact (((Below.refl _ _).alloc (Nat.le_refl _) _).alloc (by simp) _).alloc (by simp <;> omega) _
  have hzb : wb.heap.size = w.heap.size + 3 := by rw [hwb]; simp
  have HBOX : Hid (∀ wX, Below wb.heap.size wb wX → wX.cell? ⟨w.heap.size, 0, none⟩ = some (.slice s.a1 M.mem.length s.c1) ∧ wX.cell? ⟨w.heap.size, 1, none⟩ = some (.slice s.a2 M.pend.length s.c2) ∧ wX.cell? ⟨w.heap.size, 2, none⟩ = some (.slice s.a3 M.tlb.length s.c3) ∧ wX.cell? ⟨w.heap.size, 3, none⟩ = some (.slice s.a4 M.wc.length s.c4)) := fun wX hX => by
    refine ⟨?_, ?_, ?_, ?_⟩
    iterate 4 (exact (hX.cell (by simp; omega)).trans (by rw [hwb]; simp [go_sem]))
  have HEB : Hid (∀ wX, Below wb.heap.size wb wX → wX.cell? ⟨w.heap.size + 1, 0, none⟩ = some (.int .i64 e.level) ∧ wX.cell? ⟨w.heap.size + 1, 1, none⟩ = some (.int .i64 e.page) ∧ wX.cell? ⟨w.heap.size + 1, 2, none⟩ = some (.int .i64 e.table) ∧ wX.cell? ⟨w.heap.size + 1, 3, none⟩ = some (.bool e.doom)) := fun wX hX => by
    refine ⟨?_, ?_, ?_, ?_⟩
    iterate 4 (exact (hX.cell (by simp; omega)).trans (by rw [hwb]; simp [go_sem]))
  have HRB : Hid (∀ wX, Below wb.heap.size wb wX → (wX.cell? ⟨w.heap.size + 2, 0, none⟩ = some (.slice none 0 0) ∧ wX.cell? ⟨w.heap.size + 2, 1, none⟩ = some (.slice none 0 0) ∧ wX.cell? ⟨w.heap.size + 2, 2, none⟩ = some (.slice none 0 0) ∧ wX.cell? ⟨w.heap.size + 2, 3, none⟩ = some (.slice none 0 0)) ∧ wX.frozen? ⟨w.heap.size + 2, 0, none⟩ = false ∧ wX.frozen? ⟨w.heap.size + 2, 1, none⟩ = false ∧ wX.frozen? ⟨w.heap.size + 2, 2, none⟩ = false ∧ wX.frozen? ⟨w.heap.size + 2, 3, none⟩ = false) := fun wX hX => by
    refine ⟨⟨?_, ?_, ?_, ?_⟩, ?_, ?_, ?_, ?_⟩
    iterate 4 (exact (hX.cell (by simp; omega)).trans (by rw [hwb]; simp [go_sem]))
    iterate 4 (exact (hX.frozen (by simp; omega)).trans (by rw [hwb]; simp [go_sem]))
  have hcp := copyM_any s M b wb hs (h.below hbb)
  have HM : Hid (MRow w b (s.mv M) M) := h
  have HWB : Hid (wb = _) := hwb
  have HBB : Hid (Below _ w wb) := hbb
  have HZ : Hid (wb.heap.size = w.heap.size + 3) := hzb
  rw [hwb] at hcp
  have hyes : ∀ k, k < M.wc.length → wcEq (eAt eWc M.wc k) e = true → addWcM M e = M := fun k hk hx => by
    have h1 : hasWc M e = true := anyR_true (fun i => wcEq (eAt eWc M.wc i) e) k _ hk hx
    unfold addWcM
    rw [h1]
    rfl
  have hfull : ¬ M.wc.length < 256 → addWcM M e = M := fun hf => by
    unfold addWcM
    rw [if_pos (by simp; right; omega)]
  have hadd : anyR (fun i => wcEq (eAt eWc M.wc i) e) M.wc.length = false → M.wc.length < 256 → addWcM M e = ⟨M.mem, M.pend, M.tlb, M.wc ++ [e]⟩ := fun hx hl => by
    have h1 : hasWc M e = false := hx
    unfold addWcM
    rw [h1, if_neg (by simp; omega)]
  have HYES : Hid _ := hyes
  have HFULL : Hid _ := hfull
  have HADD : Hid _ := hadd
  clear hwb hbb hzb h hyes hfull hadd
  go_enter Try.func184, Try.ntmps184
  go_wp2_with fail
  refine hcp.mono ?_
  rintro r w1 ⟨s1, rfl, hr1', hap1, hb1'⟩
  have hb1 : Below wb.heap.size wb w1 := by rw [HWB.out]; exact hb1'
  have hr1 : MRow w1 wb.heap.size (s1.mv M) M := by rw [HWB.out]; exact hr1'
  have sz1 := hb1.size
  obtain ⟨wO, hwO⟩ : ∃ wO, wO = w1.alloc (.cells #[.slice s1.a1 M.mem.length s1.c1, .slice s1.a2 M.pend.length s1.c2, .slice s1.a3 M.tlb.length s1.c3, .slice s1.a4 M.wc.length s1.c4] 51) := ⟨_, rfl⟩
  have hzO : wO.heap.size = w1.heap.size + 1 := by rw [hwO]; simp
  have bO : Below wb.heap.size wb wO := by rw [hwO]; exact hb1.alloc (by omega) _
  have rO : MRow wO wb.heap.size (s1.mv M) M := by rw [hwO]; exact hr1.below ((Below.refl _ _).alloc (Nat.le_refl _) _)
  have hown := hr1.own
  have HOB : Hid (∀ wX, Below wO.heap.size wO wX → (wX.cell? ⟨w1.heap.size, 0, none⟩ = some (.slice s1.a1 M.mem.length s1.c1) ∧ wX.cell? ⟨w1.heap.size, 1, none⟩ = some (.slice s1.a2 M.pend.length s1.c2) ∧ wX.cell? ⟨w1.heap.size, 2, none⟩ = some (.slice s1.a3 M.tlb.length s1.c3) ∧ wX.cell? ⟨w1.heap.size, 3, none⟩ = some (.slice s1.a4 M.wc.length s1.c4)) ∧ wX.frozen? ⟨w1.heap.size, 0, none⟩ = false ∧ wX.frozen? ⟨w1.heap.size, 1, none⟩ = false ∧ wX.frozen? ⟨w1.heap.size, 2, none⟩ = false ∧ wX.frozen? ⟨w1.heap.size, 3, none⟩ = false) := fun wX hX => by
    refine ⟨⟨?_, ?_, ?_, ?_⟩, ?_, ?_, ?_, ?_⟩
    iterate 4 (exact (hX.cell (by simp; omega)).trans (by rw [hwO]; simp [go_sem]))
    iterate 4 (exact (hX.frozen (by simp; omega)).trans (by rw [hwO]; simp [go_sem]))
  have HWO : Hid (wO = _) := hwO
  have HBO : Hid (Below wb.heap.size wb wO) := bO
  have HRO : Hid _ := rO
  have HOWN : Hid (∀ k, (s1.mv M).owns k → wb.heap.size ≤ k ∧ k < w1.heap.size) := hown
  have HAP : Hid _ := hap1
  have hz := HZ.out
  -- the answer where nothing is added
  have HSAME : Hid (∀ wX, Below wO.heap.size wO wX → addWcM M e = M → ∀ wY, Touch (fun k => k = w.heap.size + 1 + 1) wX wY → ∃ s' : SV, Ending.returned (.agg #[.slice s1.a1 M.mem.length s1.c1, .slice s1.a2 M.pend.length s1.c2, .slice s1.a3 M.tlb.length s1.c3, .slice s1.a4 M.wc.length s1.c4]) = .returned (.agg #[.slice s'.a1 (addWcM M e).mem.length s'.c1, .slice s'.a2 (addWcM M e).pend.length s'.c2, .slice s'.a3 (addWcM M e).tlb.length s'.c3, .slice s'.a4 (addWcM M e).wc.length s'.c4]) ∧ MRow wY w.heap.size (s'.mv (addWcM M e)) (addWcM M e) ∧ Below w.heap.size w wY) := by
    intro wX hX he wY hY
    rw [he]
    refine ⟨s1, rfl, ?_, ?_⟩
    · refine ((HRO.out.below hX).touch hY (fun k hk e' => ?_)).rebase (by omega)
      have := HOWN.out k hk
      have : k = w.heap.size + 1 + 1 := e'
      omega
    · exact Touch.below (HBB.out.trans ((HBO.out.trans (hX.mono (by omega))).mono (by omega))) hY (by have := hX.size; omega) (fun k hk => by omega)
  clear hcp hr1' hb1' hb1 hr1 hap1 bO rO hown hwO
  go_wp2_with fail
  go_loopw [6] (fun iv wr => ∃ k : Nat, k ≤ M.wc.length ∧ iv = .int .i64 k ∧ anyR (fun i => wcEq (eAt eWc M.wc i) e) k = false ∧ Below wO.heap.size wO wr) (fun iv _ => M.wc.length - (intOf iv).toNat)
  case atStart => exact ⟨0, Nat.zero_le _, rfl, rfl, by rw [HWO.out]; exact Below.refl _ _⟩
  case round =>
    obtain ⟨k, hk, rfl, hany, hb⟩ := hrel
    have hsz := hb.size
    have bW : Below wb.heap.size wb wr := HBO.out.trans (hb.mono (by omega))
    obtain ⟨q0, q1, q2, q3⟩ := HBOX.out wr bW
    obtain ⟨e0, e1, e2, e3⟩ := HEB.out wr bW
    obtain ⟨⟨r0, r1, r2, r3⟩, g0, g1, g2, g3⟩ := HRB.out wr bW
    obtain ⟨⟨o0, o1, o2, o3⟩, p0, p1, p2, p3⟩ := HOB.out wr hb
    have N0 : w.heap.size + 3 ≤ wr.heap.size := by omega
    have N1 : w1.heap.size < wr.heap.size := by omega
    have N3 : w.heap.size < wr.heap.size := by omega
    have N4 : w.heap.size + 1 < wr.heap.size := by omega
    have N5 : w.heap.size + 1 + 1 < wr.heap.size := by omega
    have N2 : w.heap.size + 1 + 1 < w1.heap.size := by omega
    by_cases hlt : k < M.wc.length
    · obtain ⟨ga, ca, hae, haf⟩ := HM.out.c.form
      obtain ⟨g, N, f, hag, _, hr, hN, hf⟩ := haf (by omega)
      have hga : s.a4 = some ⟨g, 0, none⟩ := by
        have h2 : Value.slice s.a4 M.wc.length s.c4 = .slice ga M.wc.length ca := hae
        simp only [Value.slice.injEq] at h2
        exact h2.1.trans hag
      have hN' : M.wc.length * 4 ≤ N := hN
      have hrr : wr.rowIs g 120 N f := hr.of_block ((HBB.out.trans (bW.mono (by omega))).block g hr.lt)
      rw [hga] at q3
      have k0 := hrr.cell (i := k * 4) (by omega)
      rw [show f (k * 4) = .int .i64 (eAt eWc M.wc k).level from hf k hlt 0 (by decide)] at k0
      have k1 := hrr.cell (i := k * 4 + 1) (by omega)
      rw [show f (k * 4 + 1) = .int .i64 (eAt eWc M.wc k).page from hf k hlt 1 (by decide)] at k1
      have k2 := hrr.cell (i := k * 4 + 2) (by omega)
      rw [show f (k * 4 + 2) = .int .i64 (eAt eWc M.wc k).table from hf k hlt 2 (by decide)] at k2
      have k3 := hrr.cell (i := k * 4 + 3) (by omega)
      rw [show f (k * 4 + 3) = .bool (eAt eWc M.wc k).doom from hf k hlt 3 (by decide)] at k3
      have hrl := hrr.lt
      have hsu : anyR (fun i => wcEq (eAt eWc M.wc i) e) (k + 1) = wcEq (eAt eWc M.wc k) e := by rw [anyR_succ, hany, Bool.false_or]
      have hy := HYES.out k hlt
      have L1 : (0 : Int) ≤ (k : Int) := by omega
      have L2 : (k : Int) < (M.wc.length : Int) := by omega
      have HSU : Hid _ := hsu
      have HY : Hid _ := hy
      have HB : Hid (Below wO.heap.size wO wr) := hb
      clear hae haf hr hf hN hga hag hrr hsu hy hb hany bW
      generalize (eAt eWc M.wc k) = x at *
      by_cases h0 : x.level = e.level
      · have h0' : (x.level == e.level) = true := by simpa using h0
        by_cases h1 : x.page = e.page
        · have h1' : (x.page == e.page) = true := by simpa using h1
          by_cases h2 : x.table = e.table
          · have h2' : (x.table == e.table) = true := by simpa using h2
            by_cases h3 : x.doom = e.doom
            · have h3' : (x.doom == e.doom) = true := by simpa using h3
              have HV : Hid _ := HY.out (by simp [wcEq, h0, h1, h2, h3])
              clear h0 h1 h2 h3
              go_wp2_with fail
              refine bodyPost_ret (v := .agg #[.slice s1.a1 M.mem.length s1.c1, .slice s1.a2 M.pend.length s1.c2, .slice s1.a3 M.tlb.length s1.c3, .slice s1.a4 M.wc.length s1.c4]) (by simp [results, Try.results184, go_sem, r0, r1, r2, r3, N5]) rfl (HSAME.out wr HB.out HV.out _ ⟨rfl, rfl, rfl, by simp, fun k' hk' hn' => ?_⟩)
              have n2 : k' ≠ w.heap.size + 1 + 1 := hn'
              rw [heap_alloc_old _ _ (by simpa using hk'), Below.heap_setCell _ _ _ _ (by exact n2), Below.heap_setCell _ _ _ _ (by exact n2), Below.heap_setCell _ _ _ _ (by exact n2), Below.heap_setCell _ _ _ _ (by exact n2)]
            · have h3' : (x.doom == e.doom) = false := by simpa using h3
              have HV : Hid (wcEq x e = false) := by (show wcEq x e = false); simp [wcEq, h3]
              clear h0 h1 h2 h3
              go_wp2_with fail
              go_roundw
              case rel => exact ⟨k + 1, by omega, by go_num, by rw [HSU.out, HV.out], HB.out.alloc (by omega) _⟩
              case measure => simp [intOf]; omega
          · have h2' : (x.table == e.table) = false := by simpa using h2
            have HV : Hid (wcEq x e = false) := by (show wcEq x e = false); simp [wcEq, h2]
            clear h0 h1 h2
            go_wp2_with fail
            go_roundw
            case rel => exact ⟨k + 1, by omega, by go_num, by rw [HSU.out, HV.out], HB.out.alloc (by omega) _⟩
            case measure => simp [intOf]; omega
        · have h1' : (x.page == e.page) = false := by simpa using h1
          have HV : Hid (wcEq x e = false) := by (show wcEq x e = false); simp [wcEq, h1]
          clear h0 h1
          go_wp2_with fail
          go_roundw
          case rel => exact ⟨k + 1, by omega, by go_num, by rw [HSU.out, HV.out], HB.out.alloc (by omega) _⟩
          case measure => simp [intOf]; omega
      · have h0' : (x.level == e.level) = false := by simpa using h0
        have HV : Hid (wcEq x e = false) := by (show wcEq x e = false); simp [wcEq, h0]
        clear h0
        go_wp2_with fail
        go_roundw
        case rel => exact ⟨k + 1, by omega, by go_num, by rw [HSU.out, HV.out], HB.out.alloc (by omega) _⟩
        case measure => simp [intOf]; omega
    · have e0 : k = M.wc.length := by omega
      subst e0
      have L2 : ¬ (M.wc.length : Int) < (M.wc.length : Int) := by omega
      have HB : Hid (Below wO.heap.size wO wr) := hb
      have HANY : Hid _ := hany
      clear hany hb bW
      by_cases hfl : M.wc.length < 256
      · have hfl' : decide ((M.wc.length : Int) < 256) = true := by simp; omega
        have hro : ERow eWc wr wb.heap.size (.slice s1.a4 M.wc.length s1.c4) M.wc := (HRO.out.below HB.out).c
        have hown : wr.ownsRow wb.heap.size 120 4 (.slice s1.a4 M.wc.length s1.c4) M.wc.length (ecells eWc M.wc) := hro
        have HO2 : Hid _ := hown
        have HRW : Hid (MRow wr wb.heap.size (s1.mv M) M) := HRO.out.below HB.out
        have HEC : Hid (eWc.enc e = [.int .i64 e.level, .int .i64 e.page, .int .i64 e.table, .bool e.doom]) := rfl
        have HE := HADD.out HANY.out hfl
        have HEH : Hid (addWcM M e = ⟨M.mem, M.pend, M.tlb, M.wc ++ [e]⟩) := HE
        clear hro hown HE
        go_wp2_with (at_builtin; refine wpList_append_lies _ rfl (.tmp 54) (.tmp 56) 49 rfl wb.heap.size 120 iE _ 4 32 Try.underlying49 hiE hz0 hz1 hz2 rfl (by omega) _ _ _ rfl (World.ownsRow.alloc HO2.out _) ⟨wr.heap.size, 0, none⟩ 1 1 [.int .i64 e.level, .int .i64 e.page, .int .i64 e.table, .bool e.doom] rfl rfl (World.news_of_block (heap_alloc_new wr (.cells #[.int .i64 e.level, .int .i64 e.page, .int .i64 e.table, .bool e.doom] 120))) (by intro u hu; simp at hu; rcases hu with rfl | rfl | rfl | rfl <;> rfl) (by omega) (by unfold maxLen; omega) (by omega) (by simp; omega) (wr.heap.size + 1) (by simp) ?_)
        intro gn capn wn hown hgrow hat hlt3
        rw [own_blk] at hgrow hat
        have hsz2 := hgrow.size
        simp at hsz2
        have hnew : ERow eWc wn wb.heap.size (.slice (some ⟨gn, 0, none⟩) (M.wc ++ [e]).length capn) (M.wc ++ [e]) := by
          have h2 : ecells eWc (M.wc ++ [e]) = ecells eWc M.wc ++ eWc.enc e := by rw [ecells_append]; simp [ecells]
          unfold ERow
          rw [h2, HEC.out, List.length_append, hz]
          exact hown
        have bA : Below wr.heap.size wr (wr.alloc (.cells #[.int .i64 e.level, .int .i64 e.page, .int .i64 e.table, .bool e.doom] 120)) := (Below.refl _ _).alloc (Nat.le_refl _) _
        have hkeep : ∀ k', k' < wr.heap.size → oBlk s1.a4 ≠ some k' → wn.heap[k']? = wr.heap[k']? := fun k' h1 h2 => (hgrow.block k' (by simp; omega) (fun e' => h2 e'.symm)).trans (bA.block k' h1)
        have nO : oBlk s1.a4 ≠ some w1.heap.size := fun e' => by have := HOWN.out w1.heap.size ((.inr ∘ .inr ∘ .inr) ((own_blk _ _ _).trans e')); omega
        have nR : oBlk s1.a4 ≠ some (w.heap.size + 2) := fun e' => by have := HOWN.out (w.heap.size + 2) ((.inr ∘ .inr ∘ .inr) ((own_blk _ _ _).trans e')); omega
        have kO := hkeep w1.heap.size N1 nO
        have kR := hkeep (w.heap.size + 2) (by omega) nR
        have a0 := (World.cell?_of_block (a := ⟨w1.heap.size, 0, none⟩) kO).trans o0
        have af0 := (World.frozen?_of_block (a := ⟨w1.heap.size, 0, none⟩) kO).trans p0
        have b0 := (World.cell?_of_block (a := ⟨w.heap.size + 2, 0, none⟩) kR).trans r0
        have bf0 := (World.frozen?_of_block (a := ⟨w.heap.size + 2, 0, none⟩) kR).trans g0
        have a1 := (World.cell?_of_block (a := ⟨w1.heap.size, 1, none⟩) kO).trans o1
        have af1 := (World.frozen?_of_block (a := ⟨w1.heap.size, 1, none⟩) kO).trans p1
        have b1 := (World.cell?_of_block (a := ⟨w.heap.size + 2, 1, none⟩) kR).trans r1
        have bf1 := (World.frozen?_of_block (a := ⟨w.heap.size + 2, 1, none⟩) kR).trans g1
        have a2 := (World.cell?_of_block (a := ⟨w1.heap.size, 2, none⟩) kO).trans o2
        have af2 := (World.frozen?_of_block (a := ⟨w1.heap.size, 2, none⟩) kO).trans p2
        have b2 := (World.cell?_of_block (a := ⟨w.heap.size + 2, 2, none⟩) kR).trans r2
        have bf2 := (World.frozen?_of_block (a := ⟨w.heap.size + 2, 2, none⟩) kR).trans g2
        have a3 := (World.cell?_of_block (a := ⟨w1.heap.size, 3, none⟩) kO).trans o3
        have af3 := (World.frozen?_of_block (a := ⟨w1.heap.size, 3, none⟩) kO).trans p3
        have b3 := (World.cell?_of_block (a := ⟨w.heap.size + 2, 3, none⟩) kR).trans r3
        have bf3 := (World.frozen?_of_block (a := ⟨w.heap.size + 2, 3, none⟩) kR).trans g3
        have HNEW : Hid (ERow eWc wn wb.heap.size (.slice (some ⟨gn, 0, none⟩) (M.wc ++ [e]).length capn) (M.wc ++ [e])) := hnew
        have HKEEP : Hid (∀ k', k' < wr.heap.size → oBlk s1.a4 ≠ some k' → wn.heap[k']? = wr.heap[k']?) := hkeep
        have HT : Hid (Touch (fun k' => oBlk s1.a4 = some k') wr wn) := ⟨hgrow.os.trans bA.os, hgrow.tape.trans bA.tape, hgrow.output.trans bA.output, by omega, fun k' h1 h2 => hkeep k' h1 h2⟩
        have HGN : Hid (oBlk s1.a4 = some gn ∨ gn = wr.heap.size + 1) := hat
        clear hown hgrow hat hnew bA hkeep kO kR o0 o1 o2 o3 p0 p1 p2 p3 r0 r1 r2 r3 g0 g1 g2 g3
        go_wp2_with fail
        refine bodyPost_ret (v := .agg #[.slice s1.a1 M.mem.length s1.c1, .slice s1.a2 M.pend.length s1.c2, .slice s1.a3 M.tlb.length s1.c3, .slice (some ⟨gn, 0, none⟩) (M.wc.length + 1) capn]) (by simp [results, Try.results184, go_sem, b0, b1, b2, b3]) rfl ?_
        rw [HEH.out]
        refine ⟨⟨s1.a1, s1.c1, s1.a2, s1.c2, s1.a3, s1.c3, some ⟨gn, 0, none⟩, capn⟩, ?_, ?_, ?_⟩
        · simp
        · have hT2 : Touch (fun k' => k' = w1.heap.size ∨ k' = w.heap.size + 1 + 1) wn (((((wn.setCell ⟨w1.heap.size, 3, none⟩ (.slice (some ⟨gn, 0, none⟩) (M.wc.length + 1) capn)).setCell ⟨w.heap.size + 1 + 1, 0, none⟩ (.slice s1.a1 M.mem.length s1.c1)).setCell ⟨w.heap.size + 1 + 1, 1, none⟩ (.slice s1.a2 M.pend.length s1.c2)).setCell ⟨w.heap.size + 1 + 1, 2, none⟩ (.slice s1.a3 M.tlb.length s1.c3)).setCell ⟨w.heap.size + 1 + 1, 3, none⟩ (.slice (some ⟨gn, 0, none⟩) (M.wc.length + 1) capn)) := by
            refine ⟨rfl, rfl, rfl, by simp, fun k' hk' hn' => ?_⟩
            have n1 : k' ≠ w1.heap.size := fun e' => hn' (.inl e')
            have n2 : k' ≠ w.heap.size + 1 + 1 := fun e' => hn' (.inr e')
            rw [Below.heap_setCell _ _ _ _ (by exact n2), Below.heap_setCell _ _ _ _ (by exact n2), Below.heap_setCell _ _ _ _ (by exact n2), Below.heap_setCell _ _ _ _ (by exact n2), Below.heap_setCell _ _ _ _ (by exact n1)]
          have far : ∀ k', (s1.mv M).owns k' → ¬ (k' = w1.heap.size ∨ k' = w.heap.size + 1 + 1) := fun k' hk' hh => by
            have := HOWN.out k' hk'
            omega
          refine MRow.rebase (base := wb.heap.size) ⟨?_, ?_, ?_, ?_⟩ (by omega)
          · exact (HRW.out.w.touch HT.out (fun k' hk' hh => ((HAP.out k').1 hk').2.2 ((own_blk _ _ _).trans hh))).touch hT2 (fun k' hk' => far k' (.inl hk'))
          · exact (HRW.out.p.touch HT.out (fun k' hk' hh => ((HAP.out k').2.1 hk').2 ((own_blk _ _ _).trans hh))).touch hT2 (fun k' hk' => far k' ((.inr ∘ .inl) hk'))
          · exact (HRW.out.t.touch HT.out (fun k' hk' hh => (HAP.out k').2.2 hk' ((own_blk _ _ _).trans hh))).touch hT2 (fun k' hk' => far k' ((.inr ∘ .inr ∘ .inl) hk'))
          · refine ERow.touch (E := eWc) HNEW.out hT2 (fun k' hk' hh => ?_)
            have hk2 : gn = k' := by simpa [SV.mv, Value.ownBlock] using hk'
            subst hk2
            rcases HGN.out with h' | h'
            · exact far gn ((.inr ∘ .inr ∘ .inr) ((own_blk _ _ _).trans h')) hh
            · omega
        · have h0 : Below w.heap.size w wr := HBB.out.trans ((HBO.out.trans (HB.out.mono (by omega))).mono (by omega))
          have h1 : Below w.heap.size w wn := Touch.below h0 HT.out (by omega) (fun k' hk' => by have := HOWN.out k' ((.inr ∘ .inr ∘ .inr) ((own_blk _ _ _).trans hk')); omega)
          exact ((((h1.setCell (by show w.heap.size ≤ w1.heap.size; omega) _).setCell (by simp <;> omega) _).setCell (by simp <;> omega) _).setCell (by simp <;> omega) _).setCell (by simp <;> omega) _
      · have hfl' : decide ((M.wc.length : Int) < 256) = false := by simp; omega
        have HE : Hid _ := HFULL.out hfl
        clear hfl
        go_wp2_with fail
        refine bodyPost_ret (v := .agg #[.slice s1.a1 M.mem.length s1.c1, .slice s1.a2 M.pend.length s1.c2, .slice s1.a3 M.tlb.length s1.c3, .slice s1.a4 M.wc.length s1.c4]) (by simp [results, Try.results184, go_sem, r0, r1, r2, r3]) rfl (HSAME.out wr HB.out HE.out _ ⟨rfl, rfl, rfl, by simp, fun k' hk' hn' => ?_⟩)
        have n2 : k' ≠ w.heap.size + 1 + 1 := hn'
        rw [Below.heap_setCell _ _ _ _ (by exact n2), Below.heap_setCell _ _ _ _ (by exact n2), Below.heap_setCell _ _ _ _ (by exact n2), Below.heap_setCell _ _ _ _ (by exact n2)]
end Go.Proofs.Ytnmhkgmmpkjjeab
