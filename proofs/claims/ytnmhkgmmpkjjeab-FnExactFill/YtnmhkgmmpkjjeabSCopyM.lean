import Derived.Test.YtnmhkgmmpkjjeabSCopy
namespace Go.Proofs.Ytnmhkgmmpkjjeab
open Go.ChangeShapes Go.WideShapes Go.ChangeAt Go.RowKit
set_option linter.unusedVariables false

set_option maxHeartbeats 4000000 in
theorem copyM_any (s : SV) (M : Mach) (b : Nat) (w : World) (hs : M.Small) (h : MRow w b (s.mv M) M) :
    Calls Try.prog 70 #[.agg #[.slice s.a1 M.mem.length s.c1, .slice s.a2 M.pend.length s.c2, .slice s.a3 M.tlb.length s.c3, .slice s.a4 M.wc.length s.c4]] w fun e w' => ∃ s' : SV, e = .returned (.agg #[.slice s'.a1 M.mem.length s'.c1, .slice s'.a2 M.pend.length s'.c2, .slice s'.a3 M.tlb.length s'.c3, .slice s'.a4 M.wc.length s'.c4]) ∧ MRow w' w.heap.size (s'.mv M) M ∧ (s'.mv M).apart ∧ Below w.heap.size w w' := by
  have y1 := hs.w
  have y2 := hs.p
  have y3 := hs.t
  have y4 := hs.c
  obtain ⟨iW, hiW, hzW0, hzW1, hzW2⟩ := info_parts infoWrite
  obtain ⟨iT, hiT, hzT0, hzT1, hzT2⟩ := info_parts infoTlb
  obtain ⟨iC, hiC, hzC0, hzC1, hzC2⟩ := info_parts infoWc
  obtain ⟨wb, hwb⟩ : ∃ wb, wb = (w.alloc (.cells #[.slice s.a1 M.mem.length s.c1, .slice s.a2 M.pend.length s.c2, .slice s.a3 M.tlb.length s.c3, .slice s.a4 M.wc.length s.c4] 51)).alloc (.cells #[.slice none 0 0, .slice none 0 0, .slice none 0 0, .slice none 0 0] 51) := ⟨_, rfl⟩
  have hbb : Below w.heap.size w wb := by rw [hwb]; exact ((Below.refl _ _).alloc (Nat.le_refl _) _).alloc (by simp) _
  have hzb : wb.heap.size = w.heap.size + 2 := by rw [hwb]; simp
  have qb : wb.cell? ⟨w.heap.size, 0, none⟩ = some (.slice s.a1 M.mem.length s.c1) ∧ wb.cell? ⟨w.heap.size, 1, none⟩ = some (.slice s.a2 M.pend.length s.c2) ∧ wb.cell? ⟨w.heap.size, 2, none⟩ = some (.slice s.a3 M.tlb.length s.c3) ∧ wb.cell? ⟨w.heap.size, 3, none⟩ = some (.slice s.a4 M.wc.length s.c4) := by rw [hwb]; simp [go_sem]
  have rb : wb.cell? ⟨w.heap.size + 1, 0, none⟩ = some (.slice none 0 0) ∧ wb.frozen? ⟨w.heap.size + 1, 0, none⟩ = false ∧ wb.cell? ⟨w.heap.size + 1, 1, none⟩ = some (.slice none 0 0) ∧ wb.frozen? ⟨w.heap.size + 1, 1, none⟩ = false ∧ wb.cell? ⟨w.heap.size + 1, 2, none⟩ = some (.slice none 0 0) ∧ wb.frozen? ⟨w.heap.size + 1, 2, none⟩ = false ∧ wb.cell? ⟨w.heap.size + 1, 3, none⟩ = some (.slice none 0 0) ∧ wb.frozen? ⟨w.heap.size + 1, 3, none⟩ = false := by rw [hwb]; simp [go_sem]
  have he := ERow.empty eWrite wb (w.heap.size + 2) (by omega)
  have HBOX : Hid (∀ wX, Below (w.heap.size + 2) wb wX → wX.cell? ⟨w.heap.size, 0, none⟩ = some (.slice s.a1 M.mem.length s.c1) ∧ wX.cell? ⟨w.heap.size, 1, none⟩ = some (.slice s.a2 M.pend.length s.c2) ∧ wX.cell? ⟨w.heap.size, 2, none⟩ = some (.slice s.a3 M.tlb.length s.c3) ∧ wX.cell? ⟨w.heap.size, 3, none⟩ = some (.slice s.a4 M.wc.length s.c4)) :=
    fun wX hX => ⟨(hX.cell (by simp)).trans qb.1, (hX.cell (by simp)).trans qb.2.1, (hX.cell (by simp)).trans qb.2.2.1, (hX.cell (by simp)).trans qb.2.2.2⟩
  have HRES : Hid (∀ wX, Below (w.heap.size + 2) wb wX → wX.cell? ⟨w.heap.size + 1, 0, none⟩ = some (.slice none 0 0) ∧ wX.frozen? ⟨w.heap.size + 1, 0, none⟩ = false ∧ wX.cell? ⟨w.heap.size + 1, 1, none⟩ = some (.slice none 0 0) ∧ wX.frozen? ⟨w.heap.size + 1, 1, none⟩ = false ∧ wX.cell? ⟨w.heap.size + 1, 2, none⟩ = some (.slice none 0 0) ∧ wX.frozen? ⟨w.heap.size + 1, 2, none⟩ = false ∧ wX.cell? ⟨w.heap.size + 1, 3, none⟩ = some (.slice none 0 0) ∧ wX.frozen? ⟨w.heap.size + 1, 3, none⟩ = false) := fun wX hX => by
    obtain ⟨a, b, c, d, e, f, g, h⟩ := rb
    exact ⟨(hX.cell (by simp)).trans a, (hX.frozen (by simp)).trans b, (hX.cell (by simp)).trans c, (hX.frozen (by simp)).trans d, (hX.cell (by simp)).trans e, (hX.frozen (by simp)).trans f, (hX.cell (by simp)).trans g, (hX.frozen (by simp)).trans h⟩
  have HM : Hid (MRow w b (s.mv M) M) := h
  have HWB : Hid (wb = _) := hwb
  have HBB : Hid (Below _ w wb) := hbb
  have HE : Hid (ERow _ _ _ _ _) := he
  have HZ : Hid (wb.heap.size = w.heap.size + 2) := hzb
  clear hwb hbb qb rb he hzb h
  go_enter Try.func70, Try.ntmps70
  go_wp2_with fail
  have BW1 : Below (w.heap.size + 2) wb wb := Below.refl _ _
  go_loopw [3, 4] (fun vv iv wr => ∃ t gv cv : Nat, t ≤ M.pend.length ∧ iv = .int .i64 t ∧ vv = .slice (some ⟨gv, 0, none⟩) t cv ∧ ERow eWrite wr (w.heap.size + 2) (.slice (some ⟨gv, 0, none⟩) t cv) (M.pend.take t) ∧ Below (w.heap.size + 2) wb wr) (fun _ iv _ => M.pend.length - (intOf iv).toNat)
  case atStart =>
    refine ⟨0, w.heap.size + 1 + 1, 0, Nat.zero_le _, rfl, rfl, ?_, ?_⟩
    · have h := HE.out
      rw [HZ.out, HWB.out] at h
      exact h
    · rw [HWB.out]
      exact (Below.refl (w.heap.size + 2) _).alloc (by simp) _
  case round =>
    obtain ⟨t, gv, cv, ht, rfl, rfl, hrow, hb⟩ := hrel
    have hbb2 : Below (w.heap.size + 2) wb wr := BW1.trans (hb.mono (by omega))
    have hsz := hb.size
    have hzz := HZ.out
    obtain ⟨q0, q1, q2, q3⟩ := HBOX.out wr hbb2
    by_cases hlt : t < M.pend.length
    · obtain ⟨ga, ca, hae, haf⟩ := HM.out.p.form
      obtain ⟨g, N, f, hag, _, hr, hN, hf⟩ := haf (by omega)
      have hga : s.a2 = some ⟨g, 0, none⟩ := by
        have h2 : Value.slice s.a2 M.pend.length s.c2 = .slice ga M.pend.length ca := hae
        simp only [Value.slice.injEq] at h2
        exact h2.1.trans hag
      have hN' : M.pend.length * 2 ≤ N := hN
      have hb2 : Below w.heap.size w wr := HBB.out.trans (hbb2.mono (by omega))
      have hr1 : wr.rowIs g 178 N f := hr.of_block (hb2.block g hr.lt)
      rw [hga] at q1
      have k0 := hr1.cell (i := t * 2) (by omega)
      rw [show f (t * 2) = .int .i64 (eAt eWrite M.pend t).addr from hf t hlt 0 (by decide)] at k0
      have k1 := hr1.cell (i := t * 2 + 1) (by omega)
      rw [show f (t * 2 + 1) = .int .u64 (eAt eWrite M.pend t).word from hf t hlt 1 (by decide)] at k1
      have hec : eWrite.enc (eAt eWrite M.pend t) = [.int .i64 (eAt eWrite M.pend t).addr, .int .u64 (eAt eWrite M.pend t).word] := rfl
      generalize (eAt eWrite M.pend t).addr = A at *
      generalize (eAt eWrite M.pend t).word = B at *
      have hgl := hr1.lt
      have L1 : (0 : Int) ≤ (t : Int) := by omega
      have L2 : (t : Int) < (M.pend.length : Int) := by omega
      have HROW : Hid (ERow _ wr _ _ _) := hrow
      have HB : Hid (Below _ wb wr) := hb
      have HEC : Hid _ := hec
      have htl : (M.pend.take t).length = t := by rw [List.length_take]; omega
      have hown : wr.ownsRow (w.heap.size + 2) 178 2 (.slice (some ⟨gv, 0, none⟩) t cv) t (ecells eWrite (M.pend.take t)) := by
        have h := hrow
        unfold ERow at h
        rw [htl] at h
        exact h
      have HOWN : Hid _ := hown
      clear hrow hb hb2 hbb2 hr1 hr hf hec htl hown hae haf hga hN
      go_wp2_with (at_builtin; refine wpList_append_lies _ rfl (.tmp 17) (.tmp 23) 47 rfl (w.heap.size + 2) 178 iW _ 2 16 Try.underlying47 hiW hzW0 hzW1 hzW2 rfl (by omega) _ _ _ rfl (World.ownsRow.alloc HOWN.out _) ⟨wr.heap.size, 0, none⟩ 1 1 [.int .i64 A, .int .u64 B] rfl rfl ?c1 ?c2 (by omega) ?c3 ?c4 ?c5 (wr.heap.size + 1) ?c6 ?_)
      case c1 => exact World.news_of_block (heap_alloc_new wr (.cells #[.int .i64 A, .int .u64 B] 178))
      case c2 => intro u hu; simp at hu; rcases hu with rfl | rfl <;> rfl
      case c3 => unfold maxLen; omega
      case c4 => omega
      case c5 => simp; omega
      case c6 => simp
      intro g1 cap1 wn hown hgrow hat hlt3
      have hnew : ERow eWrite wn (w.heap.size + 2) (.slice (some ⟨g1, 0, none⟩) (t + 1) cap1) (M.pend.take (t + 1)) := ERow.snoc (m := t + 1) hlt rfl (by rw [HEC.out]; exact hown)
      have hbn : Below (w.heap.size + 2) wb wn := ((HB.out.alloc (by omega) _).grown hgrow (by simp; omega) (fun q hq => (HROW.out.own q hq).1))
      clear hown hgrow hat k0 k1 q0 q1 q2 q3
      go_wp2_with fail
      go_roundw
      case rel => exact ⟨t + 1, g1, cap1, by omega, by go_num, rfl, hnew, hbn⟩
      case measure => simp [intOf]; omega
    · have e : t = M.pend.length := by omega
      subst e
      rw [List.take_length] at hrow
      obtain ⟨w1, rfl⟩ : ∃ w1 : World, w1 = wr := ⟨_, rfl⟩
      obtain ⟨g1, rfl⟩ : ∃ g1 : Nat, g1 = gv := ⟨_, rfl⟩
      obtain ⟨cc1, rfl⟩ : ∃ cc1 : Nat, cc1 = cv := ⟨_, rfl⟩
      have own1 := hrow.own g1 rfl
      have HROW1 : Hid (ERow eWrite w1 (w.heap.size + 2) _ _) := hrow
      have HB1 : Hid (Below (w.heap.size + 2) wb w1) := hb
      have BW2 : Below (w.heap.size + 2) wb w1 := hbb2
      have S1 : w.heap.size + 2 ≤ w1.heap.size := by omega
      clear hrow hb hbb2
      go_wp2_with fail
      clear q0 q1 q2 q3
      go_loopw [5, 6] (fun vv iv wr => ∃ t gv cv : Nat, t ≤ M.tlb.length ∧ iv = .int .i64 t ∧ vv = .slice (some ⟨gv, 0, none⟩) t cv ∧ ERow eTlb wr (w1.heap.size) (.slice (some ⟨gv, 0, none⟩) t cv) (M.tlb.take t) ∧ Below (w1.heap.size) w1 wr) (fun _ iv _ => M.tlb.length - (intOf iv).toNat)
      case atStart =>
        exact ⟨0, w1.heap.size, 0, Nat.zero_le _, rfl, rfl, ERow.empty eTlb w1 w1.heap.size (Nat.le_refl _), (Below.refl w1.heap.size w1).alloc (Nat.le_refl _) _⟩
      case round =>
        obtain ⟨t, gv, cv, ht, rfl, rfl, hrow, hb⟩ := hrel
        have hbb2 : Below (w.heap.size + 2) wb wr := BW2.trans (hb.mono (by omega))
        have hsz := hb.size
        have hzz := HZ.out
        obtain ⟨q0, q1, q2, q3⟩ := HBOX.out wr hbb2
        by_cases hlt : t < M.tlb.length
        · obtain ⟨ga, ca, hae, haf⟩ := HM.out.t.form
          obtain ⟨g, N, f, hag, _, hr, hN, hf⟩ := haf (by omega)
          have hga : s.a3 = some ⟨g, 0, none⟩ := by
            have h2 : Value.slice s.a3 M.tlb.length s.c3 = .slice ga M.tlb.length ca := hae
            simp only [Value.slice.injEq] at h2
            exact h2.1.trans hag
          have hN' : M.tlb.length * 5 ≤ N := hN
          have hb2 : Below w.heap.size w wr := HBB.out.trans (hbb2.mono (by omega))
          have hr1 : wr.rowIs g 118 N f := hr.of_block (hb2.block g hr.lt)
          rw [hga] at q2
          have k0 := hr1.cell (i := t * 5) (by omega)
          rw [show f (t * 5) = .int .i64 (eAt eTlb M.tlb t).page from hf t hlt 0 (by decide)] at k0
          have k1 := hr1.cell (i := t * 5 + 1) (by omega)
          rw [show f (t * 5 + 1) = .int .i64 (eAt eTlb M.tlb t).size from hf t hlt 1 (by decide)] at k1
          have k2 := hr1.cell (i := t * 5 + 2) (by omega)
          rw [show f (t * 5 + 2) = .int .i64 (eAt eTlb M.tlb t).out from hf t hlt 2 (by decide)] at k2
          have k3 := hr1.cell (i := t * 5 + 3) (by omega)
          rw [show f (t * 5 + 3) = .int .i64 (eAt eTlb M.tlb t).perm from hf t hlt 3 (by decide)] at k3
          have k4 := hr1.cell (i := t * 5 + 4) (by omega)
          rw [show f (t * 5 + 4) = .bool (eAt eTlb M.tlb t).doom from hf t hlt 4 (by decide)] at k4
          have hec : eTlb.enc (eAt eTlb M.tlb t) = [.int .i64 (eAt eTlb M.tlb t).page, .int .i64 (eAt eTlb M.tlb t).size, .int .i64 (eAt eTlb M.tlb t).out, .int .i64 (eAt eTlb M.tlb t).perm, .bool (eAt eTlb M.tlb t).doom] := rfl
          generalize (eAt eTlb M.tlb t).page = A at *
          generalize (eAt eTlb M.tlb t).size = B at *
          generalize (eAt eTlb M.tlb t).out = C at *
          generalize (eAt eTlb M.tlb t).perm = D at *
          generalize (eAt eTlb M.tlb t).doom = G at *
          have hgl := hr1.lt
          have L1 : (0 : Int) ≤ (t : Int) := by omega
          have L2 : (t : Int) < (M.tlb.length : Int) := by omega
          have HROW : Hid (ERow _ wr _ _ _) := hrow
          have HB : Hid (Below _ w1 wr) := hb
          have HEC : Hid _ := hec
          have htl : (M.tlb.take t).length = t := by rw [List.length_take]; omega
          have hown : wr.ownsRow (w1.heap.size) 118 5 (.slice (some ⟨gv, 0, none⟩) t cv) t (ecells eTlb (M.tlb.take t)) := by
            have h := hrow
            unfold ERow at h
            rw [htl] at h
            exact h
          have HOWN : Hid _ := hown
          clear hrow hb hb2 hbb2 hr1 hr hf hec htl hown hae haf hga hN
          go_wp2_with (at_builtin; refine wpList_append_lies _ rfl (.tmp 33) (.tmp 39) 48 rfl (w1.heap.size) 118 iT _ 5 40 Try.underlying48 hiT hzT0 hzT1 hzT2 rfl (by omega) _ _ _ rfl (World.ownsRow.alloc HOWN.out _) ⟨wr.heap.size, 0, none⟩ 1 1 [.int .i64 A, .int .i64 B, .int .i64 C, .int .i64 D, .bool G] rfl rfl ?c1 ?c2 (by omega) ?c3 ?c4 ?c5 (wr.heap.size + 1) ?c6 ?_)
          case c1 => exact World.news_of_block (heap_alloc_new wr (.cells #[.int .i64 A, .int .i64 B, .int .i64 C, .int .i64 D, .bool G] 118))
          case c2 => intro u hu; simp at hu; rcases hu with rfl | rfl | rfl | rfl | rfl <;> rfl
          case c3 => unfold maxLen; omega
          case c4 => omega
          case c5 => simp; omega
          case c6 => simp
          intro g1 cap1 wn hown hgrow hat hlt3
          have hnew : ERow eTlb wn (w1.heap.size) (.slice (some ⟨g1, 0, none⟩) (t + 1) cap1) (M.tlb.take (t + 1)) := ERow.snoc (m := t + 1) hlt rfl (by rw [HEC.out]; exact hown)
          have hbn : Below (w1.heap.size) w1 wn := ((HB.out.alloc (by omega) _).grown hgrow (by simp; omega) (fun q hq => (HROW.out.own q hq).1))
          clear hown hgrow hat k0 k1 k2 k3 k4 q0 q1 q2 q3
          go_wp2_with fail
          go_roundw
          case rel => exact ⟨t + 1, g1, cap1, by omega, by go_num, rfl, hnew, hbn⟩
          case measure => simp [intOf]; omega
        · have e : t = M.tlb.length := by omega
          subst e
          rw [List.take_length] at hrow
          obtain ⟨w2, rfl⟩ : ∃ w2 : World, w2 = wr := ⟨_, rfl⟩
          obtain ⟨g2, rfl⟩ : ∃ g2 : Nat, g2 = gv := ⟨_, rfl⟩
          obtain ⟨cc2, rfl⟩ : ∃ cc2 : Nat, cc2 = cv := ⟨_, rfl⟩
          have own2 := hrow.own g2 rfl
          have HROW2 : Hid (ERow eTlb w2 (w1.heap.size) _ _) := hrow
          have HB2 : Hid (Below (w1.heap.size) w1 w2) := hb
          have BW3 : Below (w.heap.size + 2) wb w2 := hbb2
          have S2 : w.heap.size + 2 ≤ w2.heap.size := by omega
          clear hrow hb hbb2
          go_wp2_with fail
          clear q0 q1 q2 q3
          go_loopw [7, 8] (fun vv iv wr => ∃ t gv cv : Nat, t ≤ M.wc.length ∧ iv = .int .i64 t ∧ vv = .slice (some ⟨gv, 0, none⟩) t cv ∧ ERow eWc wr (w2.heap.size) (.slice (some ⟨gv, 0, none⟩) t cv) (M.wc.take t) ∧ Below (w2.heap.size) w2 wr) (fun _ iv _ => M.wc.length - (intOf iv).toNat)
          case atStart =>
            exact ⟨0, w2.heap.size, 0, Nat.zero_le _, rfl, rfl, ERow.empty eWc w2 w2.heap.size (Nat.le_refl _), (Below.refl w2.heap.size w2).alloc (Nat.le_refl _) _⟩
          case round =>
            obtain ⟨t, gv, cv, ht, rfl, rfl, hrow, hb⟩ := hrel
            have hbb2 : Below (w.heap.size + 2) wb wr := BW3.trans (hb.mono (by omega))
            have hsz := hb.size
            have hzz := HZ.out
            obtain ⟨q0, q1, q2, q3⟩ := HBOX.out wr hbb2
            by_cases hlt : t < M.wc.length
            · obtain ⟨ga, ca, hae, haf⟩ := HM.out.c.form
              obtain ⟨g, N, f, hag, _, hr, hN, hf⟩ := haf (by omega)
              have hga : s.a4 = some ⟨g, 0, none⟩ := by
                have h2 : Value.slice s.a4 M.wc.length s.c4 = .slice ga M.wc.length ca := hae
                simp only [Value.slice.injEq] at h2
                exact h2.1.trans hag
              have hN' : M.wc.length * 4 ≤ N := hN
              have hb2 : Below w.heap.size w wr := HBB.out.trans (hbb2.mono (by omega))
              have hr1 : wr.rowIs g 120 N f := hr.of_block (hb2.block g hr.lt)
              rw [hga] at q3
              have k0 := hr1.cell (i := t * 4) (by omega)
              rw [show f (t * 4) = .int .i64 (eAt eWc M.wc t).level from hf t hlt 0 (by decide)] at k0
              have k1 := hr1.cell (i := t * 4 + 1) (by omega)
              rw [show f (t * 4 + 1) = .int .i64 (eAt eWc M.wc t).page from hf t hlt 1 (by decide)] at k1
              have k2 := hr1.cell (i := t * 4 + 2) (by omega)
              rw [show f (t * 4 + 2) = .int .i64 (eAt eWc M.wc t).table from hf t hlt 2 (by decide)] at k2
              have k3 := hr1.cell (i := t * 4 + 3) (by omega)
              rw [show f (t * 4 + 3) = .bool (eAt eWc M.wc t).doom from hf t hlt 3 (by decide)] at k3
              have hec : eWc.enc (eAt eWc M.wc t) = [.int .i64 (eAt eWc M.wc t).level, .int .i64 (eAt eWc M.wc t).page, .int .i64 (eAt eWc M.wc t).table, .bool (eAt eWc M.wc t).doom] := rfl
              generalize (eAt eWc M.wc t).level = A at *
              generalize (eAt eWc M.wc t).page = B at *
              generalize (eAt eWc M.wc t).table = C at *
              generalize (eAt eWc M.wc t).doom = D at *
              have hgl := hr1.lt
              have L1 : (0 : Int) ≤ (t : Int) := by omega
              have L2 : (t : Int) < (M.wc.length : Int) := by omega
              have HROW : Hid (ERow _ wr _ _ _) := hrow
              have HB : Hid (Below _ w2 wr) := hb
              have HEC : Hid _ := hec
              have htl : (M.wc.take t).length = t := by rw [List.length_take]; omega
              have hown : wr.ownsRow (w2.heap.size) 120 4 (.slice (some ⟨gv, 0, none⟩) t cv) t (ecells eWc (M.wc.take t)) := by
                have h := hrow
                unfold ERow at h
                rw [htl] at h
                exact h
              have HOWN : Hid _ := hown
              clear hrow hb hb2 hbb2 hr1 hr hf hec htl hown hae haf hga hN
              go_wp2_with (at_builtin; refine wpList_append_lies _ rfl (.tmp 49) (.tmp 55) 49 rfl (w2.heap.size) 120 iC _ 4 32 Try.underlying49 hiC hzC0 hzC1 hzC2 rfl (by omega) _ _ _ rfl (World.ownsRow.alloc HOWN.out _) ⟨wr.heap.size, 0, none⟩ 1 1 [.int .i64 A, .int .i64 B, .int .i64 C, .bool D] rfl rfl ?c1 ?c2 (by omega) ?c3 ?c4 ?c5 (wr.heap.size + 1) ?c6 ?_)
              case c1 => exact World.news_of_block (heap_alloc_new wr (.cells #[.int .i64 A, .int .i64 B, .int .i64 C, .bool D] 120))
              case c2 => intro u hu; simp at hu; rcases hu with rfl | rfl | rfl | rfl <;> rfl
              case c3 => unfold maxLen; omega
              case c4 => omega
              case c5 => simp; omega
              case c6 => simp
              intro g1 cap1 wn hown hgrow hat hlt3
              have hnew : ERow eWc wn (w2.heap.size) (.slice (some ⟨g1, 0, none⟩) (t + 1) cap1) (M.wc.take (t + 1)) := ERow.snoc (m := t + 1) hlt rfl (by rw [HEC.out]; exact hown)
              have hbn : Below (w2.heap.size) w2 wn := ((HB.out.alloc (by omega) _).grown hgrow (by simp; omega) (fun q hq => (HROW.out.own q hq).1))
              clear hown hgrow hat k0 k1 k2 k3 q0 q1 q2 q3
              go_wp2_with fail
              go_roundw
              case rel => exact ⟨t + 1, g1, cap1, by omega, by go_num, rfl, hnew, hbn⟩
              case measure => simp [intOf]; omega
            · have e : t = M.wc.length := by omega
              subst e
              rw [List.take_length] at hrow
              obtain ⟨w3, rfl⟩ : ∃ w3 : World, w3 = wr := ⟨_, rfl⟩
              obtain ⟨g3, rfl⟩ : ∃ g3 : Nat, g3 = gv := ⟨_, rfl⟩
              obtain ⟨cc3, rfl⟩ : ∃ cc3 : Nat, cc3 = cv := ⟨_, rfl⟩
              have own3 := hrow.own g3 rfl
              have HROW3 : Hid (ERow eWc w3 (w2.heap.size) _ _) := hrow
              have HB3 : Hid (Below (w2.heap.size) w2 w3) := hb
              have BW4 : Below (w.heap.size + 2) wb w3 := hbb2
              have S3 : w.heap.size + 2 ≤ w3.heap.size := by omega
              clear hrow hb hbb2
              go_wp2_with fail
              clear q0 q1 q2 q3
              have b03 : Below w.heap.size w w3 := HBB.out.trans (BW4.mono (by omega))
              have hcm := copyMem_any (.slice s.a1 M.mem.length s.c1) M.mem b w3 hs.w (HM.out.w.below b03)
              refine hcm.mono ?_
              rintro e w4 ⟨g4, cc4, rfl, hr4, hb4⟩
              have s4 := hb4.size
              have own4 := hr4.own g4 rfl
              have BW5 : Below (w.heap.size + 2) wb w4 := BW4.trans (hb4.mono (by omega))
              obtain ⟨r0, f0, r1, f1, r2, f2, r3, f3⟩ := HRES.out w4 BW5
              have B24 : Below w2.heap.size w2 w4 := HB3.out.trans (hb4.mono (by omega))
              have B14 : Below w1.heap.size w1 w4 := HB2.out.trans (B24.mono (by omega))
              have R1 : ERow eWrite w4 (w.heap.size + 2) (.slice (some ⟨g1, 0, none⟩) M.pend.length cc1) M.pend := HROW1.out.below B14
              have R2 : ERow eTlb w4 w1.heap.size (.slice (some ⟨g2, 0, none⟩) M.tlb.length cc2) M.tlb := HROW2.out.below B24
              have R3 : ERow eWc w4 w2.heap.size (.slice (some ⟨g3, 0, none⟩) M.wc.length cc3) M.wc := HROW3.out.below hb4
              have HR4 : Hid (MRow w4 w.heap.size ⟨.slice (some ⟨g4, 0, none⟩) M.mem.length cc4, .slice (some ⟨g1, 0, none⟩) M.pend.length cc1, .slice (some ⟨g2, 0, none⟩) M.tlb.length cc2, .slice (some ⟨g3, 0, none⟩) M.wc.length cc3⟩ M) := ⟨hr4.rebase (by omega), R1.rebase (by omega), R2.rebase (by omega), R3.rebase (by omega)⟩
              have HB4 : Hid (Below _ w w4) := HBB.out.trans (BW5.mono (by omega))
              clear hcm hr4 hb4 BW5 B24 B14 R1 R2 R3 b03
              go_wp2_with fail
              refine bodyPost_ret (v := .agg #[.slice (some ⟨g4, 0, none⟩) M.mem.length cc4, .slice (some ⟨g1, 0, none⟩) M.pend.length cc1, .slice (some ⟨g2, 0, none⟩) M.tlb.length cc2, .slice (some ⟨g3, 0, none⟩) M.wc.length cc3])
                (by simp [results, Try.results70, go_sem, r0, r1, r2, r3]) rfl ⟨⟨some ⟨g4, 0, none⟩, cc4, some ⟨g1, 0, none⟩, cc1, some ⟨g2, 0, none⟩, cc2, some ⟨g3, 0, none⟩, cc3⟩, rfl, ?_, ?_, ?_⟩
              · refine MRow.touch (S := fun k => k = w.heap.size + 1) HR4.out ⟨rfl, rfl, rfl, by simp, fun k hk hn => ?_⟩ ?_
                · have n2 : k ≠ w.heap.size + 1 := hn
                  rw [Below.heap_setCell _ _ _ _ (by exact n2), Below.heap_setCell _ _ _ _ (by exact n2), Below.heap_setCell _ _ _ _ (by exact n2), Below.heap_setCell _ _ _ _ (by exact n2)]
                · rintro k (hk | hk | hk | hk) hx <;> simp [SV.mv, Value.ownBlock] at hk <;> (have hx' : k = w.heap.size + 1 := hx; omega)
              · intro k
                simp only [SV.mv, Value.ownBlock, Option.some.injEq, ne_eq]
                omega
              · exact (((HB4.out.setCell (by simp) _).setCell (by simp) _).setCell (by simp) _).setCell (by simp) _
end Go.Proofs.Ytnmhkgmmpkjjeab
