import Derived.Test.YtnmhkgmmpkjjeabUState
namespace Go.Proofs.Ytnmhkgmmpkjjeab
open Go.ChangeShapes Go.WideShapes Go.ChangeAt Go.RowKit
set_option linter.unusedVariables false
attribute [local go_sem ↓] Go.wp_at_zero Go.wp_at_succ

/-- The block of the machine that is handed out, while its lists are made. -/
structure CBox (W : World) (Z : Nat) (v0 v1 v2 v3 : Value) : Prop where
  lt : Z < W.heap.size
  c0 : W.cell? ⟨Z, 0, none⟩ = some v0
  c1 : W.cell? ⟨Z, 1, none⟩ = some v1
  c2 : W.cell? ⟨Z, 2, none⟩ = some v2
  c3 : W.cell? ⟨Z, 3, none⟩ = some v3
  f2 : W.frozen? ⟨Z, 2, none⟩ = false
  f3 : W.frozen? ⟨Z, 3, none⟩ = false
theorem CBox.of_block {W W' : World} {Z : Nat} {v0 v1 v2 v3 : Value} (h : CBox W Z v0 v1 v2 v3) (hb : W'.heap[Z]? = W.heap[Z]?) (hs : W.heap.size ≤ W'.heap.size) : CBox W' Z v0 v1 v2 v3 :=
  ⟨by have := h.lt; omega, (World.cell?_of_block hb).trans h.c0, (World.cell?_of_block hb).trans h.c1, (World.cell?_of_block hb).trans h.c2, (World.cell?_of_block hb).trans h.c3, (World.frozen?_of_block hb).trans h.f2, (World.frozen?_of_block hb).trans h.f3⟩
theorem CBox.below {W W' : World} {Z : Nat} {v0 v1 v2 v3 : Value} (h : CBox W Z v0 v1 v2 v3) (hb : Below W.heap.size W W') : CBox W' Z v0 v1 v2 v3 := h.of_block (hb.block _ h.lt) hb.size
theorem CBox.set2 {W : World} {Z : Nat} {v0 v1 v2 v3 : Value} (h : CBox W Z v0 v1 v2 v3) (x : Value) : CBox (W.setCell ⟨Z, 2, none⟩ x) Z v0 v1 x v3 :=
  ⟨by simpa using h.lt, (World.cell?_setCell_other _ _ _ _ (by simp)).trans h.c0, (World.cell?_setCell_other _ _ _ _ (by simp)).trans h.c1, World.cell?_setCell_same _ _ _ h.c2, (World.cell?_setCell_other _ _ _ _ (by simp)).trans h.c3, by simpa using h.f2, by simpa using h.f3⟩
theorem CBox.set3 {W : World} {Z : Nat} {v0 v1 v2 v3 : Value} (h : CBox W Z v0 v1 v2 v3) (x : Value) : CBox (W.setCell ⟨Z, 3, none⟩ x) Z v0 v1 v2 x :=
  ⟨by simpa using h.lt, (World.cell?_setCell_other _ _ _ _ (by simp)).trans h.c0, (World.cell?_setCell_other _ _ _ _ (by simp)).trans h.c1, (World.cell?_setCell_other _ _ _ _ (by simp)).trans h.c2, World.cell?_setCell_same _ _ _ h.c3, by simpa using h.f2, by simpa using h.f3⟩

set_option maxRecDepth 100000 in
set_option maxHeartbeats 8000000 in
theorem close_any (gu b0 B : Nat) (L : Bool) (u : UV) (M : Mach) (w : World) (hs : M.Small) (h : UM w gu b0 B L u M) :
    Calls Try.prog 77 #[.pointer (some ⟨gu, 0, none⟩)] w fun r w' => ∃ a3 c3 a4 c4, r = .returned (.agg #[.slice u.a1 M.mem.length u.c1, .slice u.a3 M.pend.length u.c3, .slice a3 M.tlb.length c3, .slice a4 M.wc.length c4]) ∧ ERow eTlb w' w.heap.size (.slice a3 M.tlb.length c3) M.tlb ∧ ERow eWc w' w.heap.size (.slice a4 M.wc.length c4) M.wc ∧ (∀ k, oOf a3 = some k → oOf a4 ≠ some k) ∧ Below w.heap.size w w' := by
  have y1 := hs.w
  have y2 := hs.p
  have y3 := hs.t
  have y4 := hs.c
  obtain ⟨iT, hiT, hzT0, hzT1, hzT2⟩ := info_parts infoTlb
  obtain ⟨iC, hiC, hzC0, hzC1, hzC2⟩ := info_parts infoWc
  obtain ⟨wb, hwb⟩ : ∃ wb, wb = w.alloc (.cells #[.slice none 0 0, .slice none 0 0, .slice none 0 0, .slice none 0 0] 51) := ⟨_, rfl⟩
  have hbb : Below w.heap.size w wb := by rw [hwb]; exact (Below.refl _ _).alloc (Nat.le_refl _) _
  have hzb : wb.heap.size = w.heap.size + 1 := by rw [hwb]; simp
  have HRB : Hid (∀ wX, Below wb.heap.size wb wX → (wX.cell? ⟨w.heap.size, 0, none⟩ = some (.slice none 0 0) ∧ wX.cell? ⟨w.heap.size, 1, none⟩ = some (.slice none 0 0) ∧ wX.cell? ⟨w.heap.size, 2, none⟩ = some (.slice none 0 0) ∧ wX.cell? ⟨w.heap.size, 3, none⟩ = some (.slice none 0 0)) ∧ wX.frozen? ⟨w.heap.size, 0, none⟩ = false ∧ wX.frozen? ⟨w.heap.size, 1, none⟩ = false ∧ wX.frozen? ⟨w.heap.size, 2, none⟩ = false ∧ wX.frozen? ⟨w.heap.size, 3, none⟩ = false) := fun wX hX => by
    refine ⟨⟨?_, ?_, ?_, ?_⟩, ?_, ?_, ?_, ?_⟩
    iterate 4 (exact (hX.cell (by simp; omega)).trans (by rw [hwb]; simp [go_sem]))
    iterate 4 (exact (hX.frozen (by simp; omega)).trans (by rw [hwb]; simp [go_sem]))
  have HU : Hid (∀ wX, Below wb.heap.size wb wX → UM wX gu b0 B L u M) := fun wX hX => h.below (hbb.trans (hX.mono (by omega)))
  have hlt := h.lt
  have HK : Hid (∀ wX, Below wb.heap.size wb wX → wX.cell? ⟨gu, 0, none⟩ = some (.slice u.a1 M.mem.length u.c1) ∧ wX.cell? ⟨gu, 2, none⟩ = some (.slice u.a3 M.pend.length u.c3)) := fun wX hX => ⟨(HU.out wX hX).q0, (HU.out wX hX).q2⟩
  have HWB : Hid (wb = _) := hwb
  have HBB : Hid (Below _ w wb) := hbb
  have HZ : Hid (wb.heap.size = w.heap.size + 1) := hzb
  obtain ⟨q0, q2⟩ := HK.out wb (Below.refl _ _)
  clear hwb hbb hzb h
  go_enter Try.func77, Try.ntmps77
  go_upto_region 1 with fail
  rw [← HWB.out]
  go_cut [3] (fun d wx => ∃ Z, d = .pointer (some ⟨Z, 0, none⟩) ∧ CBox wx Z (.slice u.a1 M.mem.length u.c1) (.slice u.a3 M.pend.length u.c3) (.slice none 0 0) (.slice none 0 0) ∧ wb.heap.size ≤ Z ∧ Below wb.heap.size wb wx)
  case first =>
    go_region_held3 (fun wX => wX.cell? ⟨gu, 0, none⟩ = some (.slice u.a1 M.mem.length u.c1) ∧ wX.cell? ⟨gu, 2, none⟩ = some (.slice u.a3 M.pend.length u.c3))
      ((refine HK.out _ ?_; repeat (first | exact Below.refl _ _ | with_reducible refine Below.drew ?_ | with_reducible refine Below.setCell ?_ (by first | omega | (simp <;> omega)) _ | with_reducible refine Below.alloc ?_ (by first | omega | (simp <;> omega)) _))) (fail)
    all_goals
      go_wp2_with fail
      go_meet
      case rel =>
        refine ⟨_, rfl, ⟨?_, ?_, ?_, ?_, ?_, ?_, ?_⟩, ?_, ?_⟩
        · simp
        · simp [go_sem]
        · simp [go_sem]
        · simp [go_sem]
        · simp [go_sem]
        · simp [go_sem]
        · simp [go_sem]
        · first | omega | (simp <;> omega)
        · repeat (first | exact Below.refl _ _ | with_reducible refine Below.drew ?_ | with_reducible refine Below.setCell ?_ (by first | omega | (simp <;> omega)) _ | with_reducible refine Below.alloc ?_ (by first | omega | (simp <;> omega)) _)
  case rest =>
    obtain ⟨wx, rfl⟩ : ∃ wx : World, wx = wc := ⟨_, rfl⟩
    obtain ⟨Z, rfl, hcb, hZ, hbx⟩ := hcut
    have hzb := HZ.out
    have sx := hbx.size
    have zl := hcb.lt
    have HCB : Hid _ := hcb
    have HBX : Hid (Below wb.heap.size wb wx) := hbx
    have q3 := (HU.out wx hbx).q3
    clear hcb hbx q0 q2
    go_wp2_with fail
    clear q3
    go_loopw [22] (fun iv wr => ∃ (k : Nat) (a : Option Addr) (c : Nat), k ≤ M.tlb.length ∧ iv = .int .i64 k ∧ CBox wr Z (.slice u.a1 M.mem.length u.c1) (.slice u.a3 M.pend.length u.c3) (.slice a k c) (.slice none 0 0) ∧ ERow eTlb wr wx.heap.size (.slice a k c) (M.tlb.take k) ∧ (∀ q, oOf a = some q → q ≠ Z) ∧ Touch (fun q => q = Z) wx wr) (fun iv _ => M.tlb.length - (intOf iv).toNat)
    case atStart => exact ⟨0, none, 0, Nat.zero_le _, rfl, HCB.out, ⟨by simp [ecells], .inl ⟨rfl, rfl⟩⟩, fun q hq => by (cases hq), ⟨rfl, rfl, rfl, Nat.le_refl _, fun _ _ _ => rfl⟩⟩
    case round =>
      obtain ⟨k, a, c, hk, rfl, hcb, hrow, hne, ht⟩ := hrel
      have hsz := ht.size
      have zl2 := hcb.lt
      have hbw : Below wb.heap.size wb wr := Touch.below HBX.out ht (by omega) (fun q hq => by omega)
      have q3 := (HU.out wr hbw).q3
      by_cases hlt2 : k < M.tlb.length
      · obtain ⟨ga, ca, hae, haf⟩ := (HU.out wr hbw).t.form
        obtain ⟨g, N, f, hag, _, hr, hN, hf⟩ := haf (by omega)
        have hga : u.a4 = some ⟨g, 0, none⟩ := by
          simp only [Value.slice.injEq] at hae
          exact hae.1.trans hag
        have hN' : M.tlb.length * 5 ≤ N := hN
        rw [hga]
        have k0 := hr.cell (i := k * 5) (by omega)
        rw [show f (k * 5) = .int .i64 (eAt eTE M.tlb k).page from hf k hlt2 0 (by decide)] at k0
        have k1 := hr.cell (i := k * 5 + 1) (by omega)
        rw [show f (k * 5 + 1) = .int .i64 (eAt eTE M.tlb k).size from hf k hlt2 1 (by decide)] at k1
        have k2 := hr.cell (i := k * 5 + 2) (by omega)
        rw [show f (k * 5 + 2) = .bool (eAt eTE M.tlb k).doom from hf k hlt2 2 (by decide)] at k2
        have k3 := hr.cell (i := k * 5 + 3) (by omega)
        rw [show f (k * 5 + 3) = .int .i64 (eAt eTE M.tlb k).out from hf k hlt2 3 (by decide)] at k3
        have k4 := hr.cell (i := k * 5 + 4) (by omega)
        rw [show f (k * 5 + 4) = .int .i64 (eAt eTE M.tlb k).perm from hf k hlt2 4 (by decide)] at k4
        have hrl := hr.lt
        have htl : (M.tlb.take k).length = k := by rw [List.length_take]; omega
        have hec : eTlb.enc (eAt eTlb M.tlb k) = [.int .i64 (eAt eTE M.tlb k).page, .int .i64 (eAt eTE M.tlb k).size, .int .i64 (eAt eTE M.tlb k).out, .int .i64 (eAt eTE M.tlb k).perm, .bool (eAt eTE M.tlb k).doom] := rfl
        generalize (eAt eTE M.tlb k).page = P0 at *
        generalize (eAt eTE M.tlb k).size = P1 at *
        generalize (eAt eTE M.tlb k).out = P2 at *
        generalize (eAt eTE M.tlb k).perm = P3 at *
        generalize (eAt eTE M.tlb k).doom = P4 at *
        have L1 : (0 : Int) ≤ (k : Int) := by omega
        have L2 : (k : Int) < (M.tlb.length : Int) := by omega
        have b2 := hcb.c2
        have bf2 := hcb.f2
        have N1 : Z < wr.heap.size := zl2
        have HOWN : Hid (wr.ownsRow wx.heap.size 118 5 (.slice a k c) k (ecells eTlb (M.tlb.take k))) := by
          have h1 := hrow
          unfold ERow at h1
          rw [htl] at h1
          exact h1
        have HEC : Hid _ := hec
        have HCB1 : Hid _ := hcb
        have HT1 : Hid _ := ht
        have HNE : Hid _ := hne
        have HOLT : Hid (∀ q, oOf a = some q → wx.heap.size ≤ q ∧ q < wr.heap.size) := fun q hq => hrow.ownA q hq
        clear hae haf hr hf hN hga hag hec hcb ht hne hrow hbw q3
        obtain ⟨wE, hwE⟩ : ∃ wE, wE = wr.alloc (.cells #[.int .i64 P0, .int .i64 P1, .bool P4, .int .i64 P2, .int .i64 P3] 193) := ⟨_, rfl⟩
        have hzE : wE.heap.size = wr.heap.size + 1 := by rw [hwE]; simp
        have bE : Below wr.heap.size wr wE := by rw [hwE]; exact (Below.refl _ _).alloc (Nat.le_refl _) _
        have y0 : wE.cell? ⟨wr.heap.size, 0, none⟩ = some (.int .i64 P0) := by rw [hwE]; simp [go_sem]
        have y1 : wE.cell? ⟨wr.heap.size, 1, none⟩ = some (.int .i64 P1) := by rw [hwE]; simp [go_sem]
        have y2 : wE.cell? ⟨wr.heap.size, 2, none⟩ = some (.bool P4) := by rw [hwE]; simp [go_sem]
        have y3 : wE.cell? ⟨wr.heap.size, 3, none⟩ = some (.int .i64 P2) := by rw [hwE]; simp [go_sem]
        have y4 : wE.cell? ⟨wr.heap.size, 4, none⟩ = some (.int .i64 P3) := by rw [hwE]; simp [go_sem]
        have d2 := (bE.cell (p := ⟨Z, 2, none⟩) (by simpa using N1)).trans b2
        have HBE : Hid (Below wr.heap.size wr wE) := bE
        have HOWE : Hid (wE.ownsRow wx.heap.size 118 5 (.slice a k c) k (ecells eTlb (M.tlb.take k))) := by
          rw [hwE]
          exact World.ownsRow.alloc HOWN.out _
        have HZE : Hid (wE.heap.size = wr.heap.size + 1) := hzE
        have n5 : wr.heap.size < wE.heap.size := by omega
        have n6 : Z < wE.heap.size := by omega
        go_upto_region 5 with fail
        rw [← hwE]
        clear hwE hzE bE k0 k1 k2 k3 k4
        go_wp2_with (at_builtin; refine wpList_append_lies _ rfl (.tmp 27) (.tmp 42) 48 rfl wx.heap.size 118 iT _ 5 40 Try.underlying48 hiT hzT0 hzT1 hzT2 rfl (by omega) _ _ _ rfl (World.ownsRow.alloc (HOWE.out) _) ⟨wE.heap.size, 0, none⟩ 1 1 [.int .i64 P0, .int .i64 P1, .int .i64 P2, .int .i64 P3, .bool P4] rfl rfl (World.news_of_block (heap_alloc_new wE (.cells #[.int .i64 P0, .int .i64 P1, .int .i64 P2, .int .i64 P3, .bool P4] 118))) (by intro u hu; simp at hu; rcases hu with rfl | rfl | rfl | rfl | rfl <;> rfl) (by omega) (by unfold maxLen; omega) (by omega) (by simp; omega) (wE.heap.size + 1) (by simp) ?_)
        intro gn capn wn hown hgrow hat hlt3
        rw [own_slice] at hgrow hat
        have hsz2 := hgrow.size
        simp at hsz2
        have hzE := HZE.out
        have hnew : ERow eTlb wn wx.heap.size (.slice (some ⟨gn, 0, none⟩) (k + 1) capn) (M.tlb.take (k + 1)) := ERow.snoc (m := k + 1) hlt2 rfl (by rw [HEC.out]; exact hown)
        have hkeep : ∀ q, q < wr.heap.size → oOf a ≠ some q → wn.heap[q]? = wr.heap[q]? := fun q h1 h2 => (hgrow.block q (by simp; omega) (fun e' => h2 e'.symm)).trans ((heap_alloc_old _ _ (by omega)).trans (HBE.out.block q h1))
        have kZ := hkeep Z N1 (fun e' => HNE.out Z e' rfl)
        have z2 := (World.cell?_of_block (a := ⟨Z, 2, none⟩) kZ).trans b2
        have zf2 := (World.frozen?_of_block (a := ⟨Z, 2, none⟩) kZ).trans bf2
        have HCB2 : Hid (CBox (wn.setCell ⟨Z, 2, none⟩ (.slice (some ⟨gn, 0, none⟩) (k + 1) capn)) Z (.slice u.a1 M.mem.length u.c1) (.slice u.a3 M.pend.length u.c3) (.slice (some ⟨gn, 0, none⟩) (k + 1) capn) (.slice none 0 0)) := CBox.set2 (CBox.of_block HCB1.out kZ (by omega)) _
        have hgZ : gn ≠ Z := fun e' => by
          rcases hat with h' | h'
          · exact HNE.out gn h' e'
          · omega
        have hoq : ∀ q, oOf (some ⟨gn, 0, none⟩) = some q → q ≠ Z := fun q hq e' => hgZ ((Option.some.inj (show some gn = some q from hq)).trans e')
        have HROW2 : Hid (ERow eTlb (wn.setCell ⟨Z, 2, none⟩ (.slice (some ⟨gn, 0, none⟩) (k + 1) capn)) wx.heap.size (.slice (some ⟨gn, 0, none⟩) (k + 1) capn) (M.tlb.take (k + 1))) := hnew.touchA (S := fun q => q = Z) ⟨rfl, rfl, rfl, by simp, fun q hq hn => Below.heap_setCell _ _ _ _ hn⟩ (fun q hq => hoq q hq)
        have HT2 : Hid (Touch (fun q => q = Z) wx (wn.setCell ⟨Z, 2, none⟩ (.slice (some ⟨gn, 0, none⟩) (k + 1) capn))) := by
          refine ⟨hgrow.os.trans (HBE.out.os.trans HT1.out.os), hgrow.tape.trans (HBE.out.tape.trans HT1.out.tape), hgrow.output.trans (HBE.out.output.trans HT1.out.output), by simp; omega, fun q hq hn => ?_⟩
          rw [Below.heap_setCell _ _ _ _ (by exact hn), hkeep q (by omega) (fun e' => by have := HOLT.out q e'; omega)]
          exact HT1.out.block q hq hn
        clear hown hgrow hat hnew hkeep kZ b2 bf2 y0 y1 y2 y3 y4 d2
        go_wp2_with fail
        go_roundw
        case rel => exact ⟨k + 1, some ⟨gn, 0, none⟩, capn, by omega, by go_num, HCB2.out, HROW2.out, hoq, HT2.out⟩
        case measure => simp [intOf]; omega
      · have e0 : k = M.tlb.length := by omega
        subst e0
        rw [List.take_length] at hrow
        have L2 : ¬ (M.tlb.length : Int) < (M.tlb.length : Int) := by omega
        obtain ⟨wt, rfl⟩ : ∃ wt : World, wt = wr := ⟨_, rfl⟩
        obtain ⟨at3, rfl⟩ : ∃ at3 : Option Addr, at3 = a := ⟨_, rfl⟩
        obtain ⟨ct3, rfl⟩ : ∃ ct3 : Nat, ct3 = c := ⟨_, rfl⟩
        have HCBT : Hid _ := hcb
        have HROWT : Hid (ERow eTlb wt wx.heap.size (.slice at3 M.tlb.length ct3) M.tlb) := hrow
        have HTT : Hid (Touch (fun q => q = Z) wx wt) := ht
        have HBT : Hid (Below wb.heap.size wb wt) := hbw
        have HNET : Hid _ := hne
        have q4 := (HU.out wt hbw).q4
        clear hcb hrow ht hbw hne q3
        go_wp2_with fail
        clear q4

        go_loopw [51] (fun iv wr => ∃ (k : Nat) (a : Option Addr) (c : Nat), k ≤ M.wc.length ∧ iv = .int .i64 k ∧ CBox wr Z (.slice u.a1 M.mem.length u.c1) (.slice u.a3 M.pend.length u.c3) (.slice at3 M.tlb.length ct3) (.slice a k c) ∧ ERow eWc wr wt.heap.size (.slice a k c) (M.wc.take k) ∧ (∀ q, oOf a = some q → q ≠ Z) ∧ Touch (fun q => q = Z) wt wr) (fun iv _ => M.wc.length - (intOf iv).toNat)
        case atStart => exact ⟨0, none, 0, Nat.zero_le _, rfl, HCBT.out, ⟨by simp [ecells], .inl ⟨rfl, rfl⟩⟩, fun q hq => by (cases hq), ⟨rfl, rfl, rfl, Nat.le_refl _, fun _ _ _ => rfl⟩⟩
        case round =>
          obtain ⟨k, a, c, hk, rfl, hcb, hrow, hne, ht⟩ := hrel
          have hsz := ht.size
          have zl2 := hcb.lt
          have hbw : Below wb.heap.size wb wr := Touch.below HBT.out ht (by omega) (fun q hq => by omega)
          have q4 := (HU.out wr hbw).q4
          by_cases hlt2 : k < M.wc.length
          · obtain ⟨ga, ca, hae, haf⟩ := (HU.out wr hbw).c.form
            obtain ⟨g, N, f, hag, _, hr, hN, hf⟩ := haf (by omega)
            have hga : u.a5 = some ⟨g, 0, none⟩ := by
              simp only [Value.slice.injEq] at hae
              exact hae.1.trans hag
            have hN' : M.wc.length * 5 ≤ N := hN
            rw [hga]
            have k0 := hr.cell (i := k * 5) (by omega)
            rw [show f (k * 5) = .int .i64 (eAt eWE M.wc k).page from hf k hlt2 0 (by decide)] at k0
            have k1 := hr.cell (i := k * 5 + 1) (by omega)
            rw [show f (k * 5 + 1) = .int .i64 (16 * cov (eAt eWE M.wc k).level) from hf k hlt2 1 (by decide)] at k1
            have k2 := hr.cell (i := k * 5 + 2) (by omega)
            rw [show f (k * 5 + 2) = .bool (eAt eWE M.wc k).doom from hf k hlt2 2 (by decide)] at k2
            have k3 := hr.cell (i := k * 5 + 3) (by omega)
            rw [show f (k * 5 + 3) = .int .i64 (eAt eWE M.wc k).level from hf k hlt2 3 (by decide)] at k3
            have k4 := hr.cell (i := k * 5 + 4) (by omega)
            rw [show f (k * 5 + 4) = .int .i64 (eAt eWE M.wc k).table from hf k hlt2 4 (by decide)] at k4
            have hrl := hr.lt
            have htl : (M.wc.take k).length = k := by rw [List.length_take]; omega
            have hec : eWc.enc (eAt eWc M.wc k) = [.int .i64 (eAt eWE M.wc k).level, .int .i64 (eAt eWE M.wc k).page, .int .i64 (eAt eWE M.wc k).table, .bool (eAt eWE M.wc k).doom] := rfl
            generalize 16 * cov (eAt eWE M.wc k).level = PC at *
            generalize (eAt eWE M.wc k).level = P0 at *
            generalize (eAt eWE M.wc k).page = P1 at *
            generalize (eAt eWE M.wc k).table = P2 at *
            generalize (eAt eWE M.wc k).doom = P3 at *
            have L1 : (0 : Int) ≤ (k : Int) := by omega
            have L2 : (k : Int) < (M.wc.length : Int) := by omega
            have b3 := hcb.c3
            have bf3 := hcb.f3
            have N1 : Z < wr.heap.size := zl2
            have HOWN : Hid (wr.ownsRow wt.heap.size 120 4 (.slice a k c) k (ecells eWc (M.wc.take k))) := by
              have h1 := hrow
              unfold ERow at h1
              rw [htl] at h1
              exact h1
            have HEC : Hid _ := hec
            have HCB1 : Hid _ := hcb
            have HT1 : Hid _ := ht
            have HNE : Hid _ := hne
            have HOLT : Hid (∀ q, oOf a = some q → wt.heap.size ≤ q ∧ q < wr.heap.size) := fun q hq => hrow.ownA q hq
            clear hae haf hr hf hN hga hag hec hcb ht hne hrow hbw q4
            obtain ⟨wE, hwE⟩ : ∃ wE, wE = wr.alloc (.cells #[.int .i64 P1, .int .i64 PC, .bool P3, .int .i64 P0, .int .i64 P2] 170) := ⟨_, rfl⟩
            have hzE : wE.heap.size = wr.heap.size + 1 := by rw [hwE]; simp
            have bE : Below wr.heap.size wr wE := by rw [hwE]; exact (Below.refl _ _).alloc (Nat.le_refl _) _
            have y0 : wE.cell? ⟨wr.heap.size, 0, none⟩ = some (.int .i64 P1) := by rw [hwE]; simp [go_sem]
            have y1 : wE.cell? ⟨wr.heap.size, 1, none⟩ = some (.int .i64 PC) := by rw [hwE]; simp [go_sem]
            have y2 : wE.cell? ⟨wr.heap.size, 2, none⟩ = some (.bool P3) := by rw [hwE]; simp [go_sem]
            have y3 : wE.cell? ⟨wr.heap.size, 3, none⟩ = some (.int .i64 P0) := by rw [hwE]; simp [go_sem]
            have y4 : wE.cell? ⟨wr.heap.size, 4, none⟩ = some (.int .i64 P2) := by rw [hwE]; simp [go_sem]
            have d3 := (bE.cell (p := ⟨Z, 3, none⟩) (by simpa using N1)).trans b3
            have HBE : Hid (Below wr.heap.size wr wE) := bE
            have HOWE : Hid (wE.ownsRow wt.heap.size 120 4 (.slice a k c) k (ecells eWc (M.wc.take k))) := by
              rw [hwE]
              exact World.ownsRow.alloc HOWN.out _
            have HZE : Hid (wE.heap.size = wr.heap.size + 1) := hzE
            have n5 : wr.heap.size < wE.heap.size := by omega
            have n6 : Z < wE.heap.size := by omega
            go_upto_region 10 with fail
            rw [← hwE]
            clear hwE hzE bE k0 k1 k2 k3 k4
            go_wp2_with (at_builtin; refine wpList_append_lies _ rfl (.tmp 56) (.tmp 68) 49 rfl wt.heap.size 120 iC _ 4 32 Try.underlying49 hiC hzC0 hzC1 hzC2 rfl (by omega) _ _ _ rfl (World.ownsRow.alloc (HOWE.out) _) ⟨wE.heap.size, 0, none⟩ 1 1 [.int .i64 P0, .int .i64 P1, .int .i64 P2, .bool P3] rfl rfl (World.news_of_block (heap_alloc_new wE (.cells #[.int .i64 P0, .int .i64 P1, .int .i64 P2, .bool P3] 120))) (by intro u hu; simp at hu; rcases hu with rfl | rfl | rfl | rfl <;> rfl) (by omega) (by unfold maxLen; omega) (by omega) (by simp; omega) (wE.heap.size + 1) (by simp) ?_)
            intro gn capn wn hown hgrow hat hlt3
            rw [own_slice] at hgrow hat
            have hsz2 := hgrow.size
            simp at hsz2
            have hzE := HZE.out
            have hnew : ERow eWc wn wt.heap.size (.slice (some ⟨gn, 0, none⟩) (k + 1) capn) (M.wc.take (k + 1)) := ERow.snoc (m := k + 1) hlt2 rfl (by rw [HEC.out]; exact hown)
            have hkeep : ∀ q, q < wr.heap.size → oOf a ≠ some q → wn.heap[q]? = wr.heap[q]? := fun q h1 h2 => (hgrow.block q (by simp; omega) (fun e' => h2 e'.symm)).trans ((heap_alloc_old _ _ (by omega)).trans (HBE.out.block q h1))
            have kZ := hkeep Z N1 (fun e' => HNE.out Z e' rfl)
            have z3 := (World.cell?_of_block (a := ⟨Z, 3, none⟩) kZ).trans b3
            have zf3 := (World.frozen?_of_block (a := ⟨Z, 3, none⟩) kZ).trans bf3
            have HCB2 : Hid (CBox (wn.setCell ⟨Z, 3, none⟩ (.slice (some ⟨gn, 0, none⟩) (k + 1) capn)) Z (.slice u.a1 M.mem.length u.c1) (.slice u.a3 M.pend.length u.c3) (.slice at3 M.tlb.length ct3) (.slice (some ⟨gn, 0, none⟩) (k + 1) capn)) := CBox.set3 (CBox.of_block HCB1.out kZ (by omega)) _
            have hgZ : gn ≠ Z := fun e' => by
              rcases hat with h' | h'
              · exact HNE.out gn h' e'
              · omega
            have hoq : ∀ q, oOf (some ⟨gn, 0, none⟩) = some q → q ≠ Z := fun q hq e' => hgZ ((Option.some.inj (show some gn = some q from hq)).trans e')
            have HROW2 : Hid (ERow eWc (wn.setCell ⟨Z, 3, none⟩ (.slice (some ⟨gn, 0, none⟩) (k + 1) capn)) wt.heap.size (.slice (some ⟨gn, 0, none⟩) (k + 1) capn) (M.wc.take (k + 1))) := hnew.touchA (S := fun q => q = Z) ⟨rfl, rfl, rfl, by simp, fun q hq hn => Below.heap_setCell _ _ _ _ hn⟩ (fun q hq => hoq q hq)
            have HT2 : Hid (Touch (fun q => q = Z) wt (wn.setCell ⟨Z, 3, none⟩ (.slice (some ⟨gn, 0, none⟩) (k + 1) capn))) := by
              refine ⟨hgrow.os.trans (HBE.out.os.trans HT1.out.os), hgrow.tape.trans (HBE.out.tape.trans HT1.out.tape), hgrow.output.trans (HBE.out.output.trans HT1.out.output), by simp; omega, fun q hq hn => ?_⟩
              rw [Below.heap_setCell _ _ _ _ (by exact hn), hkeep q (by omega) (fun e' => by have := HOLT.out q e'; omega)]
              exact HT1.out.block q hq hn
            clear hown hgrow hat hnew hkeep kZ b3 bf3 y0 y1 y2 y3 y4 d3
            go_wp2_with fail
            go_roundw
            case rel => exact ⟨k + 1, some ⟨gn, 0, none⟩, capn, by omega, by go_num, HCB2.out, HROW2.out, hoq, HT2.out⟩
            case measure => simp [intOf]; omega
          · have e0 : k = M.wc.length := by omega
            subst e0
            rw [List.take_length] at hrow
            have L2 : ¬ (M.wc.length : Int) < (M.wc.length : Int) := by omega
            obtain ⟨⟨r0, r1, r2, r3⟩, g0, g1, g2, g3⟩ := HRB.out wr hbw
            obtain ⟨z1, z2, z3, z4, z5, z6, z7⟩ := hcb
            have nt : ∀ q, oOf at3 = some q → wx.heap.size ≤ q ∧ q < wt.heap.size := fun q hq => HROWT.out.ownA q hq
            have nc : ∀ q, oOf a = some q → wt.heap.size ≤ q ∧ q < wr.heap.size := fun q hq => hrow.ownA q hq
            have HR1 : Hid (ERow eTlb wr wx.heap.size (.slice at3 M.tlb.length ct3) M.tlb) := HROWT.out.touchA ht (fun q hq => HNET.out q hq)
            have HR2 : Hid (ERow eWc wr wt.heap.size (.slice a M.wc.length c) M.wc) := hrow
            have HBW : Hid (Below wb.heap.size wb wr) := hbw
            clear hrow ht hbw hne q4
            go_wp2_with fail
            refine bodyPost_ret (v := .agg #[.slice u.a1 M.mem.length u.c1, .slice u.a3 M.pend.length u.c3, .slice at3 M.tlb.length ct3, .slice a M.wc.length c]) (by simp [results, Try.results77, go_sem, r0, r1, r2, r3]) rfl ⟨at3, ct3, a, c, rfl, ?_, ?_, ?_, ?_⟩
            · refine ERow.rebase (base := wx.heap.size) ?_ (by omega)
              refine HR1.out.touchA (S := fun q => q = w.heap.size) ⟨rfl, rfl, rfl, by simp, fun q hq hn => ?_⟩ (fun q hq e' => by have := nt q hq; omega)
              have n1 : q ≠ w.heap.size := hn
              rw [Below.heap_setCell _ _ _ _ (by exact n1), Below.heap_setCell _ _ _ _ (by exact n1), Below.heap_setCell _ _ _ _ (by exact n1), Below.heap_setCell _ _ _ _ (by exact n1)]
            · refine ERow.rebase (base := wt.heap.size) ?_ (by omega)
              refine HR2.out.touchA (S := fun q => q = w.heap.size) ⟨rfl, rfl, rfl, by simp, fun q hq hn => ?_⟩ (fun q hq e' => by have := nc q hq; omega)
              have n1 : q ≠ w.heap.size := hn
              rw [Below.heap_setCell _ _ _ _ (by exact n1), Below.heap_setCell _ _ _ _ (by exact n1), Below.heap_setCell _ _ _ _ (by exact n1), Below.heap_setCell _ _ _ _ (by exact n1)]
            · intro q h1 h2
              have := nt q h1
              have := nc q h2
              omega
            · exact ((((HBB.out.trans (HBW.out.mono (by omega))).setCell (by simp) _).setCell (by simp) _).setCell (by simp) _).setCell (by simp) _

end Go.Proofs.Ytnmhkgmmpkjjeab
