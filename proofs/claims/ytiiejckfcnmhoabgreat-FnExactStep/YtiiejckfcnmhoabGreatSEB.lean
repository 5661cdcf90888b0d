import Derived.Test.YtiiejckfcnmhoabGreatSEA
import Derived.Test.YtiiejckfcnmhoabGreatSDrop
namespace Go.Proofs.YtiiejckfcnmhoabGreat
open Go.ChangeShapes Go.WideShapes Go.ChangeAt Go.RowKit
set_option linter.unusedVariables false
attribute [local go_sem ↓] Go.wp_at_zero Go.wp_at_succ

/-- The code that the model has found up to place k. -/
def codeTo (M : Mach) (a : Int) (k : Nat) : Int := if oldW M a % 2 = 0 ∧ anyR (plcC M (plist (lateL M)) (a / 16) (a % 16)) k = true then 3 else 0
theorem codeTo_end {M : Mach} {o : OpE} (hw : ¬ o.word % 2 = 0) (h : oldW M o.a % 2 = 1 → oldW M o.a ≠ o.word → ∀ j, j < (plist (lateL M)).length → ¬ (pAt (plist (lateL M)) j).fr = o.a / 16) : wrCode M o = codeTo M o.a (plist (lateL M)).length := by
  unfold wrCode codeTo
  rw [if_neg hw]
  by_cases hx : oldW M o.a % 2 = 1
  · rw [if_pos hx, if_neg (fun hh => by omega : ¬ (oldW M o.a % 2 = 0 ∧ _))]
    by_cases he : oldW M o.a ≠ o.word
    · have : plcHas (plist (lateL M)) (o.a / 16) = false := anyR_false _ _ (fun j hj => decide_eq_false (h hx he j hj))
      rw [this]; simp
    · rw [if_neg (fun hh => he hh.1)]
  · rw [if_neg hx]
    have h0 : oldW M o.a % 2 = 0 := by omega
    cases ha : anyR (plcC M (plist (lateL M)) (o.a / 16) (o.a % 16)) (plist (lateL M)).length
    · simp
    · simp [h0]
theorem codeTo_succ {M : Mach} {a : Int} (k : Nat) (h : oldW M a % 2 = 1 ∨ plcC M (plist (lateL M)) (a / 16) (a % 16) k = false) : codeTo M a (k + 1) = codeTo M a k := by
  unfold codeTo
  rw [anyR_succ]
  rcases h with h | h
  · rw [if_neg (fun hh => by omega), if_neg (fun hh => by omega)]
  · rw [h, Bool.or_false]
theorem codeTo_three {M : Mach} {a : Int} (k : Nat) (h0 : ¬ oldW M a % 2 = 1) (h : plcC M (plist (lateL M)) (a / 16) (a % 16) k = true) : codeTo M a (k + 1) = 3 := by
  unfold codeTo
  rw [anyR_succ, h, Bool.or_true, if_pos ⟨by omega, rfl⟩]

theorem q16 (A : Nat) (h : A < 8192) : wrap64 ((A : Int) / 16) = (A : Int) / 16 ∧ wrap64 ((A : Int) % 16) = (A : Int) % 16 ∧ 0 ≤ (A : Int) % 16 ∧ (A : Int) % 16 < 16 ∧ IntKind.i64.wrap ((A : Int) / 16) = (A : Int) / 16 ∧ IntKind.i64.wrap ((A : Int) % 16) = (A : Int) % 16 ∧ (A : Int).tmod 16 = (A : Int) % 16 := by
  have ht : (A : Int).tmod 16 = (A : Int) % 16 := Int.tmod_eq_emod_of_nonneg (Int.natCast_nonneg _)
  unfold wrap64; rw [IntKind.wrap_i64, IntKind.wrap_i64, ht]; omega
theorem q256 (ix cL Q : Int) (h0 : 0 ≤ ix) (h1 : ix < 16) (h2 : 1 ≤ cL) (h3 : cL ≤ 256) (h4 : 0 ≤ Q) (h5 : Q ≤ 20000) : IntKind.i64.wrap (ix * cL) = ix * cL ∧ IntKind.i64.wrap (Q + ix * cL) = Q + ix * cL ∧ 0 ≤ Q + ix * cL ∧ Q + ix * cL < 100000 := by
  have a1 : 0 ≤ ix * cL := Int.mul_nonneg h0 (by omega)
  have a2 : ix * cL ≤ 15 * cL := Int.mul_le_mul_of_nonneg_right (by omega) (by omega)
  rw [IntKind.wrap_i64, IntKind.wrap_i64]
  omega

set_option maxRecDepth 100000 in
set_option maxHeartbeats 8000000 in
theorem wrCodeS_any (s : SV) (M : Mach) (b : Nat) (o : OpE) (A : Nat) (Wd : Int) (w : World) (hs : M.Small) (hok : WOk M) (hv : validB M = true) (hoa : o.a = A) (how : o.word = Wd) (hA : A < M.mem.length) (hw0 : 0 ≤ Wd) (hw1 : Wd < 18446744073709551616) (h : MRow w b (s.mv M) M) :
    Calls Tryz.prog 67 #[.agg #[.slice s.a1 M.mem.length s.c1, .slice s.a2 M.pend.length s.c2, .slice s.a3 M.tlb.length s.c3, .slice s.a4 M.wc.length s.c4], .agg #[.int .i64 o.kind, .int .i64 A, .int .i64 o.b, .int .u64 Wd]] w fun e w' => e = .returned (.int .i64 (wrCode M o)) ∧ Below w.heap.size w w' := by
  have hmm := nfr_mul M.mem.length hok.n0
  have hml := nfr_le M.mem.length
  have hm0 : 0 < M.mem.length := by omega
  have hA8 : A < 8192 := by omega
  have hpd : ∀ i, i < M.pend.length → 0 ≤ (eAt eWrite M.pend i).addr := fun i hi => (valid_pend hv i hi).1
  have hll := lateL_length M
  obtain ⟨X, hX⟩ : ∃ X, X = oldW M o.a := ⟨_, rfl⟩
  have hxe : (lateL M).getD A 0 = X := by rw [hX, oldW, hoa]; rfl
  have hxr := lateL_rng hok hpd A
  rw [hxe] at hxr
  have hx1 : X < 18446744073709551616 := by have := hxr.2; omega
  have hlz := late_ok hok hpd
  have hle := plist_length (lateL M)
  have HPK : Hid (∀ i, i < (plist (lateL M)).length → _) := plist_ok (lateL M) hlz
  obtain ⟨wb, hwb⟩ : ∃ wb, wb = (w.alloc (.cells #[.slice s.a1 M.mem.length s.c1, .slice s.a2 M.pend.length s.c2, .slice s.a3 M.tlb.length s.c3, .slice s.a4 M.wc.length s.c4] 36)).alloc (.cells #[.int .i64 o.kind, .int .i64 A, .int .i64 o.b, .int .u64 Wd] 51) := ⟨_, rfl⟩
  have hbb : Below w.heap.size w wb := by rw [hwb]; exact ((Below.refl _ _).alloc (Nat.le_refl _) _).alloc (by simp) _
  have hzb : wb.heap.size = w.heap.size + 2 := by rw [hwb]; simp
  have HBOX : Hid (∀ wX, Below wb.heap.size wb wX → (wX.cell? ⟨w.heap.size, 0, none⟩ = some (.slice s.a1 M.mem.length s.c1) ∧ wX.cell? ⟨w.heap.size, 1, none⟩ = some (.slice s.a2 M.pend.length s.c2) ∧ wX.cell? ⟨w.heap.size, 2, none⟩ = some (.slice s.a3 M.tlb.length s.c3) ∧ wX.cell? ⟨w.heap.size, 3, none⟩ = some (.slice s.a4 M.wc.length s.c4)) ∧ (wX.cell? ⟨w.heap.size + 1, 1, none⟩ = some (.int .i64 A) ∧ wX.cell? ⟨w.heap.size + 1, 3, none⟩ = some (.int .u64 Wd))) := fun wX hX => by
    refine ⟨⟨?_, ?_, ?_, ?_⟩, ?_, ?_⟩
    iterate 6 (exact (hX.cell (by simp; omega)).trans (by rw [hwb]; simp [go_sem]))
  have HLA : Hid (∀ wX, Below wb.heap.size wb wX → Calls Tryz.prog 69 #[.agg #[.slice s.a1 M.mem.length s.c1, .slice s.a2 M.pend.length s.c2, .slice s.a3 M.tlb.length s.c3, .slice s.a4 M.wc.length s.c4]] wX fun e w' => ∃ g c, e = .returned (.agg #[.slice (some ⟨g, 0, none⟩) M.mem.length c]) ∧ ERow eWord w' wX.heap.size (.slice (some ⟨g, 0, none⟩) M.mem.length c) (lateL M) ∧ Below wX.heap.size wX w') := fun wX hX => latest_any s M b wX hs hm0 (fun i hi => valid_pend hv i hi) (h.below (hbb.trans (hX.mono (by omega))))
  have HCA : Hid (∀ lv fs cL wX, Below wb.heap.size wb wX → 0 ≤ fs ∧ fs < 100000 → 0 ≤ cL ∧ cL < 100000 → Calls Tryz.prog 115 #[.agg #[.slice s.a1 M.mem.length s.c1, .slice s.a2 M.pend.length s.c2, .slice s.a3 M.tlb.length s.c3, .slice s.a4 M.wc.length s.c4], .int .i64 lv, .int .i64 fs, .int .i64 cL] wX fun e w' => e = .returned (.bool (cachedB M lv fs cL)) ∧ Below wX.heap.size wX w') := fun lv fs cL wX hX h1 h2 => cachS_any s M b lv fs cL wX hs hv h1 h2 (h.below (hbb.trans (hX.mono (by omega))))
  have HPC : Hid (∀ k F L Q, pAt (plist (lateL M)) k = ⟨F, L, Q⟩ → plcC M (plist (lateL M)) (o.a / 16) (o.a % 16) k = (decide (F = (A : Int) / 16) && cachedB M L (Q + (A : Int) % 16 * cov L) (cov L))) := fun k F L Q he => by unfold plcC; rw [he, hoa]
  have HTWO : Hid (∀ k F L Q, k < (plist (lateL M)).length → pAt (plist (lateL M)) k = ⟨F, L, Q⟩ → ¬ Wd % 2 = 0 → X % 2 = 1 → X ≠ Wd → F = (A : Int) / 16 → wrCode M o = 2) := fun k F L Q hk he h1 h2 h3 h4 => wr_two k hk (by rw [how]; exact h1) (by rw [← hX]; exact h2) (by rw [← hX, how]; exact h3) (by rw [he, hoa]; exact h4)
  have HZ0 : Hid (Wd % 2 = 0 → wrCode M o = 0) := fun h => by unfold wrCode; rw [if_pos (by rw [how]; exact h)]
  have HEND : Hid (¬ Wd % 2 = 0 → (X % 2 = 1 → X ≠ Wd → ∀ j, j < (plist (lateL M)).length → ¬ (pAt (plist (lateL M)) j).fr = (A : Int) / 16) → wrCode M o = codeTo M o.a (plist (lateL M)).length) := fun h1 h2 => codeTo_end (by rw [how]; exact h1) (fun e1 e2 j hj => by rw [hoa]; exact h2 (by rw [hX]; exact e1) (by rw [hX, ← how]; exact e2) j hj)
  have HCS : Hid (∀ k, (X % 2 = 1 ∨ plcC M (plist (lateL M)) (o.a / 16) (o.a % 16) k = false) → codeTo M o.a (k + 1) = codeTo M o.a k) := fun k hh => codeTo_succ k (by rw [← hX]; exact hh)
  have HC3 : Hid (∀ k, ¬ X % 2 = 1 → plcC M (plist (lateL M)) (o.a / 16) (o.a % 16) k = true → codeTo M o.a (k + 1) = 3) := fun k h1 h2 => codeTo_three k (by rw [← hX]; exact h1) h2
  have HC0 : Hid (codeTo M o.a 0 = 0) := by
    show codeTo M o.a 0 = 0
    unfold codeTo
    rw [anyR_zero]
    simp
  have hbw := bit0_any Wd hw0 hw1
  have hbx := bit0_any X hxr.1 hx1
  have hlr := hlz.rng
  obtain ⟨ps, hps⟩ : ∃ ps, ps = plist (lateL M) := ⟨_, rfl⟩
  have HPL : Hid (∀ g c wX, CRow wX g (lateL M) → Calls Tryz.prog 114 #[.agg #[.slice (some ⟨g, 0, none⟩) M.mem.length c]] wX fun e w' => ∃ a c', e = .returned (.tuple #[.slice a ps.length c', .bool (ptree (lateL M))]) ∧ PRow w' wX.heap.size (.slice a ps.length c') ps ∧ Below wX.heap.size wX w') := fun g c wX hc => by
    have := specPlaces_any g (lateL M) c (by omega) hlr wX hc
    unfold PlacesPost at this
    rw [hll, ← hps] at this
    exact this
  rw [← hps] at hle HPK HPC HTWO HEND HCS HC3
  obtain ⟨cde, hcde⟩ : ∃ c, c = wrCode M o := ⟨_, rfl⟩
  rw [← hcde] at HTWO HZ0 HEND ⊢
  obtain ⟨hq, hq2, hqa, hqb, hqc, hqd, hqe⟩ := q16 A hA8
  have L0 : (0 : Int) ≤ (A : Int) := Int.natCast_nonneg _
  have LA : (A : Int) < (M.mem.length : Int) := Int.ofNat_lt.2 hA
  have HWB : Hid (wb = _) := hwb
  have HBB : Hid (Below w.heap.size w wb) := hbb
  have HZ : Hid (wb.heap.size = _) := hzb
  have HXE : Hid ((lateL M).getD A 0 = X) := hxe
  have HLL : Hid ((lateL M).length = _) := hll
  clear h hok hpd hX hxe hlz hps hcde hoa how hwb hbb hzb hv hlr hll hmm hml
  by_cases hwz : Wd % 2 = 0
  · have d0 : (Wd % 2 == 0) = true := by simpa using hwz
    have HR := HZ0.out hwz
    subst HR
    clear hwz
    go_enter Tryz.func67, Tryz.ntmps67
    go_wp2_with (go_at_call 113; refine (hbw _).mono ?_; rintro e w1 ⟨rfl, hw1⟩; obtain rfl := hw1.symm)
    rw [← HWB.out]
    go_ret
    exact ⟨rfl, HBB.out⟩
  · have d0 : (Wd % 2 == 0) = false := by simpa using hwz
    have HWZ : Hid (¬ Wd % 2 = 0) := hwz
    clear hwz
    have hla := HLA.out wb (Below.refl _ _)
    rw [HWB.out] at hla
    go_enter Tryz.func67, Tryz.ntmps67
    go_wp2_with (go_at_call 113; refine (hbw _).mono ?_; rintro e w1 ⟨rfl, hw1⟩; obtain rfl := hw1.symm)
    refine hla.mono ?_
    rintro e w1 ⟨g2, c2, rfl, hr1, hb1'⟩
    rw [← HWB.out] at hr1
    have hb1 : Below wb.heap.size wb w1 := by rw [HWB.out]; exact hb1'
    obtain ⟨wx, hwx⟩ : ∃ wx, wx = w1.alloc (.cells #[.slice (some ⟨g2, 0, none⟩) M.mem.length c2] 31) := ⟨_, rfl⟩
    have hzx : wx.heap.size = w1.heap.size + 1 := by rw [hwx]; simp
    have bx : Below wb.heap.size wb wx := by rw [hwx]; exact hb1.alloc hb1.size _
    have hr1' : ERow eWord w1 wb.heap.size (.slice (some ⟨g2, 0, none⟩) (lateL M).length c2) (lateL M) := by rw [HLL.out]; exact hr1
    obtain ⟨g2', e2, hc2, _⟩ := eWord_c hr1' (by have := HLL.out; omega)
    simp only [Option.some.injEq, Addr.mk.injEq, and_true] at e2
    obtain rfl := e2.symm
    have hcx : CRow wx g2' (lateL M) := by rw [hwx]; exact hc2.below ((Below.refl _ _).alloc (Nat.le_refl _) _) hc2.lt
    have hpl := HPL.out g2' c2 wx hcx
    have cX : wx.cell? ⟨w1.heap.size, 0, none⟩ = some (.slice (some ⟨g2', 0, none⟩) M.mem.length c2) := by rw [hwx]; simp [go_sem]
    rw [hwx] at hpl
    obtain ⟨XB, hXB⟩ : ∃ XB, XB = w1.heap.size := ⟨_, rfl⟩
    have HCX : Hid (CRow wx g2' (lateL M)) := hcx
    have HCELL : Hid (wx.cell? ⟨w1.heap.size, 0, none⟩ = _) := cX
    have HWX : Hid (wx = _) := hwx
    have HBX : Hid (Below wb.heap.size wb wx) := bx
    have HZX : Hid (wx.heap.size = _) := hzx
    clear hla hb1' hr1 hr1' hc2 hcx cX hwx bx hzx hb1 e2 hXB
    go_wp2_with fail
    refine hpl.mono ?_
    rintro e w2 ⟨a3, c3, rfl, hr2, hb2'⟩
    have hb2 : Below wx.heap.size wx w2 := by rw [HWX.out]; exact hb2'
    have b2 : Below wb.heap.size wb w2 := HBX.out.trans (hb2.mono HBX.out.size)
    obtain ⟨gp, hp1, hp2⟩ := plc_cells hr2
    have HP1 : Hid _ := hp1
    have HP2 : Hid _ := hp2
    have HB2 : Hid (Below wb.heap.size wb w2) := b2
    have HBW2 : Hid (Below wx.heap.size wx w2) := hb2
    clear hpl hb2' hr2 hp1 hp2 hb2 b2
    go_wp2_with fail
    go_loopw [8, 9, 10, 11, 12] (fun cv i v10 v11 v12 wr => ∃ k : Nat, k ≤ ps.length ∧ cv = .int .i64 (codeTo M o.a k) ∧ i = .int .i64 k ∧ Hid (X % 2 = 1 → X ≠ Wd → ∀ j, j < k → ¬ (pAt ps j).fr = (A : Int) / 16) ∧ Below w2.heap.size w2 wr) (fun _ i _ _ _ _ => ps.length - (intOf i).toNat)
    case atStart => exact ⟨0, Nat.zero_le _, by rw [HC0.out], rfl, fun _ _ j hj => absurd hj (by omega), Below.refl _ _⟩
    case round =>
      obtain ⟨k, hk, rfl, rfl, hall, hb⟩ := hrel
      have bW : Below wb.heap.size wb wr := HB2.out.trans (hb.mono HB2.out.size)
      have bX : Below wx.heap.size wx wr := HBW2.out.trans (hb.mono HBW2.out.size)
      by_cases hlt : k < ps.length
      · obtain ⟨E, hE⟩ : ∃ E, pAt ps k = E := ⟨_, rfl⟩
        obtain ⟨F, L, Q⟩ := E
        obtain ⟨hae, hgl⟩ := HP1.out (by omega)
        have hpk := HPK.out k hlt
        rw [hE] at hpk
        have hplc := HPC.out k F L Q hE
        have HKK : Hid (∀ wX, Below wr.heap.size wr wX → (wX.cell? ⟨w.heap.size + 1, 1, none⟩ = some (.int .i64 A) ∧ wX.cell? ⟨w.heap.size + 1, 3, none⟩ = some (.int .u64 Wd)) ∧ (wX.cell? ⟨gp, k * 3, none⟩ = some (.int .i64 F) ∧ wX.cell? ⟨gp, k * 3 + 1, none⟩ = some (.int .i64 L) ∧ wX.cell? ⟨gp, k * 3 + 2, none⟩ = some (.int .i64 Q))) := fun wX hX => ⟨(HBOX.out wX (bW.trans (hX.mono bW.size))).2, HP2.out k F L Q hlt hE wX (hb.trans (hX.mono hb.size))⟩
        have HKX : Hid (∀ wX, Below wr.heap.size wr wX → (wX.cell? ⟨w.heap.size + 1, 1, none⟩ = some (.int .i64 A) ∧ wX.cell? ⟨w.heap.size + 1, 3, none⟩ = some (.int .u64 Wd)) ∧ (wX.cell? ⟨gp, k * 3, none⟩ = some (.int .i64 F) ∧ wX.cell? ⟨gp, k * 3 + 1, none⟩ = some (.int .i64 L) ∧ wX.cell? ⟨gp, k * 3 + 2, none⟩ = some (.int .i64 Q)) ∧ (wX.cell? ⟨w.heap.size, 0, none⟩ = some (.slice s.a1 M.mem.length s.c1) ∧ wX.cell? ⟨w.heap.size, 1, none⟩ = some (.slice s.a2 M.pend.length s.c2) ∧ wX.cell? ⟨w.heap.size, 2, none⟩ = some (.slice s.a3 M.tlb.length s.c3) ∧ wX.cell? ⟨w.heap.size, 3, none⟩ = some (.slice s.a4 M.wc.length s.c4))) := fun wX hX => ⟨(HKK.out wX hX).1, (HKK.out wX hX).2, (HBOX.out wX (bW.trans (hX.mono bW.size))).1⟩
        have hcl := covers_any L
        obtain ⟨cL, hcL⟩ : ∃ cL, cL = cov L := ⟨_, rfl⟩
        have hcb : 1 ≤ cL ∧ cL ≤ 256 := by rw [hcL]; rcases hpk.1 with e | e | e <;> (rw [show L = _ from e]; decide)
        rw [← hcL] at hcl hplc
        have hq0 : 0 ≤ Q := hpk.2.1
        have hq1 : Q ≤ 20000 := hpk.2.2
        obtain ⟨W1, W2, W3, W4⟩ := q256 ((A : Int) % 16) cL Q hqa hqb hcb.1 hcb.2 hq0 hq1
        have hca := fun wX (hX : Below wr.heap.size wr wX) => HCA.out L (Q + (A : Int) % 16 * cL) cL wX (bW.trans (hX.mono bW.size)) ⟨W3, W4⟩ ⟨Int.le_trans (by decide) hcb.1, Int.lt_of_le_of_lt hcb.2 (by decide)⟩
        have cxr := (bX.cell (p := ⟨w1.heap.size, 0, none⟩) (by have := HZX.out; simp; omega)).trans HCELL.out
        have cAr := ((HCX.out.below bX HCX.out.lt).cell (i := A) (by have := HLL.out; omega))
        rw [HXE.out] at cAr
        obtain ⟨⟨o1, o3⟩, p0, p1, p2⟩ := HKK.out wr (Below.refl _ _)
        have HE : Hid (pAt ps k = _) := hE
        have HAE : Hid (a3 = _) := hae
        have HPLC : Hid _ := hplc
        have HB : Hid (Below w2.heap.size w2 wr) := hb
        have M1 : (0 : Int) ≤ (k : Int) := by omega
        have M2 : (k : Int) < (ps.length : Int) := by omega
        rw [hae]
        clear hE hb hpk hplc hcL bX hae
        by_cases hF : F = (A : Int) / 16
        · have dF : (F == (A : Int) / 16) = true := by simpa using hF
          have HD15 : Below wr.heap.size wr wr.drew.drew.drew := (Below.refl _ _).drew.drew.drew
          have HFF : Hid (F = (A : Int) / 16) := hF
          clear hF
          by_cases hX1 : X % 2 = 1
          · have dX1 : (X % 2 == 1) = true := by simpa using hX1
            have dX0 : (X % 2 == 0) = false := by simp; omega
            by_cases hXW : X = Wd
            · have HCCC : Hid (codeTo M o.a (k + 1) = codeTo M o.a k) := HCS.out k (.inl hX1)
              have HXW : Hid (X = Wd) := hXW
              have hWX : Wd = X := hXW.symm
              subst hWX
              clear hX1 hca
              go_wp2_with fail
              refine wp_region_held_drew (S := (fun wX => (wX.cell? ⟨w.heap.size + 1, 1, none⟩ = some (.int .i64 A) ∧ wX.cell? ⟨w.heap.size + 1, 3, none⟩ = some (.int .u64 Wd)) ∧ (wX.cell? ⟨gp, k * 3, none⟩ = some (.int .i64 F) ∧ wX.cell? ⟨gp, k * 3 + 1, none⟩ = some (.int .i64 L) ∧ wX.cell? ⟨gp, k * 3 + 2, none⟩ = some (.int .i64 Q)))) (by kernel_rfl) (HKK.out _ ((Below.refl _ _).drew)) (fun hHeld => ?_)
              refine wpAnyH_take (i := 0) (v := ?_) rfl (by kernel_rfl) (by kernel_rfl) (by kernel_rfl) (fun _ _ _ h => h) (Or.inl ⟨by rfl, ?_⟩) (by assumption) ?_
              rotate_left
              · (intro w hSw; (try dsimp only at hSw); go_simp; try with_reducible rfl)
              simp only [Act.put, List.setIfInBounds_toArray, List.set_cons_zero, List.set_cons_succ, List.getElem_toArray, List.getElem_cons_zero]
              refine wpAnyH_take (i := 1) (v := ?_) rfl (by kernel_rfl) (by kernel_rfl) (by kernel_rfl) (fun _ _ _ h => h) (Or.inl ⟨by rfl, ?_⟩) (by assumption) ?_
              rotate_left
              · (intro w hSw; (try dsimp only at hSw); go_simp; try with_reducible rfl)
              simp only [Act.put, List.setIfInBounds_toArray, List.set_cons_zero, List.set_cons_succ, List.getElem_toArray, List.getElem_cons_zero, List.getElem_cons_succ]
              refine wpAnyH_take (i := 2) (v := ?_) rfl (by kernel_rfl) (by kernel_rfl) (by kernel_rfl) (fun _ _ _ h => h) (Or.inl ⟨by rfl, ?_⟩) (by assumption) ?_
              rotate_left
              · (intro w hSw; (try dsimp only at hSw); go_simp; try with_reducible rfl)
              simp only [Act.put, List.setIfInBounds_toArray, List.set_cons_zero, List.set_cons_succ, List.getElem_toArray, List.getElem_cons_zero, List.getElem_cons_succ]
              refine wpAnyH_take (i := 3) (v := ?_) rfl (by kernel_rfl) (by kernel_rfl) (by kernel_rfl) (fun _ _ _ h => h) (Or.inl ⟨by rfl, ?_⟩) (by assumption) ?_
              rotate_left
              · (intro w hSw; (try dsimp only at hSw); go_simp; try with_reducible rfl)
              simp only [Act.put, List.setIfInBounds_toArray, List.set_cons_zero, List.set_cons_succ, List.getElem_toArray, List.getElem_cons_zero, List.getElem_cons_succ]
              refine wpAnyH_take (i := 4) (v := ?_) rfl (by kernel_rfl) (by kernel_rfl) (by kernel_rfl) (fun _ _ _ h => h) (Or.inl ⟨by rfl, ?_⟩) (by assumption) ?_
              rotate_left
              · (intro w hSw; (try dsimp only at hSw); go_simp; try with_reducible rfl)
              simp only [Act.put, List.setIfInBounds_toArray, List.set_cons_zero, List.set_cons_succ, List.getElem_toArray, List.getElem_cons_zero, List.getElem_cons_succ]
              refine wpAnyH_take (i := 5) (v := ?_) rfl (by kernel_rfl) (by kernel_rfl) (by kernel_rfl) (fun _ _ _ h => h) (Or.inl ⟨by rfl, ?_⟩) (by assumption) ?_
              rotate_left
              · (intro w hSw; (try dsimp only at hSw); go_simp; try with_reducible rfl)
              simp only [Act.put, List.setIfInBounds_toArray, List.set_cons_zero, List.set_cons_succ, List.getElem_toArray, List.getElem_cons_zero, List.getElem_cons_succ]
              refine wpAnyH_take (i := 6) (v := ?_) rfl (by kernel_rfl) (by kernel_rfl) (by kernel_rfl) (fun _ _ _ h => h) (Or.inl ⟨by rfl, ?_⟩) (by assumption) ?_
              rotate_left
              · (intro w hSw; (try dsimp only at hSw); go_simp; try with_reducible rfl)
              simp only [Act.put, List.setIfInBounds_toArray, List.set_cons_zero, List.set_cons_succ, List.getElem_toArray, List.getElem_cons_zero, List.getElem_cons_succ]
              refine wpAnyH_take (i := 7) (v := ?_) rfl (by kernel_rfl) (by kernel_rfl) (by kernel_rfl) (fun _ _ _ h => h) (Or.inl ⟨by rfl, ?_⟩) (by assumption) ?_
              rotate_left
              · (intro w hSw; (try dsimp only at hSw); go_simp; try with_reducible rfl)
              simp only [Act.put, List.setIfInBounds_toArray, List.set_cons_zero, List.set_cons_succ, List.getElem_toArray, List.getElem_cons_zero, List.getElem_cons_succ]
              refine wpAnyH_take (i := 8) (v := ?_) rfl (by kernel_rfl) (by kernel_rfl) (by kernel_rfl) (fun _ _ _ h => h) (Or.inl ⟨by rfl, ?_⟩) (by assumption) ?_
              rotate_left
              · (intro w hSw; (try dsimp only at hSw); go_simp; try with_reducible rfl)
              simp only [Act.put, List.setIfInBounds_toArray, List.set_cons_zero, List.set_cons_succ, List.getElem_toArray, List.getElem_cons_zero, List.getElem_cons_succ]
              refine wpAnyH_done (by kernel_rfl) ?_ _
              go_wp2_with fail
              refine (hcl _).mono ?_
              rintro e w5 ⟨rfl, hw5⟩
              obtain rfl := hw5.symm
              clear hHeld
              go_wp2_with fail
              refine wp_region_held_drew (S := (fun wX => (wX.cell? ⟨w.heap.size + 1, 1, none⟩ = some (.int .i64 A) ∧ wX.cell? ⟨w.heap.size + 1, 3, none⟩ = some (.int .u64 Wd)) ∧ (wX.cell? ⟨gp, k * 3, none⟩ = some (.int .i64 F) ∧ wX.cell? ⟨gp, k * 3 + 1, none⟩ = some (.int .i64 L) ∧ wX.cell? ⟨gp, k * 3 + 2, none⟩ = some (.int .i64 Q)))) (by kernel_rfl) (HKK.out _ ((Below.refl _ _).drew.drew)) (fun hHeld => ?_)
              refine wpAnyH_take (i := 0) (v := ?_) rfl (by kernel_rfl) (by kernel_rfl) (by kernel_rfl) (fun _ _ _ h => h) (Or.inl ⟨by rfl, ?_⟩) (by assumption) ?_
              rotate_left
              · (intro w hSw; (try dsimp only at hSw); go_simp; try with_reducible rfl)
              simp only [Act.put, List.setIfInBounds_toArray, List.set_cons_zero, List.set_cons_succ, List.getElem_toArray, List.getElem_cons_zero]
              refine wpAnyH_take (i := 1) (v := ?_) rfl (by kernel_rfl) (by kernel_rfl) (by kernel_rfl) (fun _ _ _ h => h) (Or.inl ⟨by rfl, ?_⟩) (by assumption) ?_
              rotate_left
              · (intro w hSw; (try dsimp only at hSw); go_simp; try with_reducible rfl)
              simp only [Act.put, List.setIfInBounds_toArray, List.set_cons_zero, List.set_cons_succ, List.getElem_toArray, List.getElem_cons_zero, List.getElem_cons_succ]
              refine wpAnyH_take (i := 2) (v := ?_) rfl (by kernel_rfl) (by kernel_rfl) (by kernel_rfl) (fun _ _ _ h => h) (Or.inl ⟨by rfl, ?_⟩) (by assumption) ?_
              rotate_left
              · (intro w hSw; (try dsimp only at hSw); go_simp; try with_reducible rfl)
              simp only [Act.put, List.setIfInBounds_toArray, List.set_cons_zero, List.set_cons_succ, List.getElem_toArray, List.getElem_cons_zero, List.getElem_cons_succ]
              refine wpAnyH_take (i := 3) (v := ?_) rfl (by kernel_rfl) (by kernel_rfl) (by kernel_rfl) (fun _ _ _ h => h) (Or.inl ⟨by rfl, ?_⟩) (by assumption) ?_
              rotate_left
              · (intro w hSw; (try dsimp only at hSw); go_simp; try with_reducible rfl)
              simp only [Act.put, List.setIfInBounds_toArray, List.set_cons_zero, List.set_cons_succ, List.getElem_toArray, List.getElem_cons_zero, List.getElem_cons_succ]
              refine wpAnyH_take (i := 4) (v := ?_) rfl (by kernel_rfl) (by kernel_rfl) (by kernel_rfl) (fun _ _ _ h => h) (Or.inl ⟨by rfl, ?_⟩) (by assumption) ?_
              rotate_left
              · (intro w hSw; (try dsimp only at hSw); go_simp; try with_reducible rfl)
              simp only [Act.put, List.setIfInBounds_toArray, List.set_cons_zero, List.set_cons_succ, List.getElem_toArray, List.getElem_cons_zero, List.getElem_cons_succ]
              refine wpAnyH_take (i := 5) (v := ?_) rfl (by kernel_rfl) (by kernel_rfl) (by kernel_rfl) (fun _ _ _ h => h) (Or.inl ⟨by rfl, ?_⟩) (by assumption) ?_
              rotate_left
              · (intro w hSw; (try dsimp only at hSw); go_simp; try with_reducible rfl)
              simp only [Act.put, List.setIfInBounds_toArray, List.set_cons_zero, List.set_cons_succ, List.getElem_toArray, List.getElem_cons_zero, List.getElem_cons_succ]
              refine wpAnyH_take (i := 6) (v := ?_) rfl (by kernel_rfl) (by kernel_rfl) (by kernel_rfl) (fun _ _ _ h => h) (Or.inl ⟨by rfl, ?_⟩) (by assumption) ?_
              rotate_left
              · (intro w hSw; (try dsimp only at hSw); go_simp; try with_reducible rfl)
              simp only [Act.put, List.setIfInBounds_toArray, List.set_cons_zero, List.set_cons_succ, List.getElem_toArray, List.getElem_cons_zero, List.getElem_cons_succ]
              refine wpAnyH_take (i := 7) (v := ?_) rfl (by kernel_rfl) (by kernel_rfl) (by kernel_rfl) (fun _ _ _ h => h) (Or.inl ⟨by rfl, ?_⟩) (by assumption) ?_
              rotate_left
              · (intro w hSw; (try dsimp only at hSw); go_simp; try with_reducible rfl)
              simp only [Act.put, List.setIfInBounds_toArray, List.set_cons_zero, List.set_cons_succ, List.getElem_toArray, List.getElem_cons_zero, List.getElem_cons_succ]
              refine wpAnyH_take (i := 8) (v := ?_) rfl (by kernel_rfl) (by kernel_rfl) (by kernel_rfl) (fun _ _ _ h => h) (Or.inl ⟨by rfl, ?_⟩) (by assumption) ?_
              rotate_left
              · (intro w hSw; (try dsimp only at hSw); go_simp; try with_reducible rfl)
              simp only [Act.put, List.setIfInBounds_toArray, List.set_cons_zero, List.set_cons_succ, List.getElem_toArray, List.getElem_cons_zero, List.getElem_cons_succ]
              refine wpAnyH_take (i := 9) (v := ?_) rfl (by kernel_rfl) (by kernel_rfl) (by kernel_rfl) (fun _ _ _ h => h) (Or.inl ⟨by rfl, ?_⟩) (by assumption) ?_
              rotate_left
              · (intro w hSw; (try dsimp only at hSw); go_simp; try with_reducible rfl)
              simp only [Act.put, List.setIfInBounds_toArray, List.set_cons_zero, List.set_cons_succ, List.getElem_toArray, List.getElem_cons_zero, List.getElem_cons_succ]
              refine wpAnyH_take (i := 10) (v := ?_) rfl (by kernel_rfl) (by kernel_rfl) (by kernel_rfl) (fun _ _ _ h => h) (Or.inl ⟨by rfl, ?_⟩) (by assumption) ?_
              rotate_left
              · (intro w hSw; (try dsimp only at hSw); go_simp; try with_reducible rfl)
              simp only [Act.put, List.setIfInBounds_toArray, List.set_cons_zero, List.set_cons_succ, List.getElem_toArray, List.getElem_cons_zero, List.getElem_cons_succ]
              refine wpAnyH_take (i := 11) (v := ?_) rfl (by kernel_rfl) (by kernel_rfl) (by kernel_rfl) (fun _ _ _ h => h) (Or.inl ⟨by rfl, ?_⟩) (by assumption) ?_
              rotate_left
              · (intro w hSw; (try dsimp only at hSw); go_simp; try with_reducible rfl)
              simp only [Act.put, List.setIfInBounds_toArray, List.set_cons_zero, List.set_cons_succ, List.getElem_toArray, List.getElem_cons_zero, List.getElem_cons_succ]
              refine wpAnyH_done (by kernel_rfl) ?_ _
              clear hHeld
              go_wp2_with fail
              refine (hbx _).mono ?_
              rintro e w6 ⟨rfl, hw6⟩
              obtain rfl := hw6.symm
              clear hw6
              go_wp2_with fail
              refine wp_region_held_drew (S := (fun wX => (wX.cell? ⟨w.heap.size + 1, 1, none⟩ = some (.int .i64 A) ∧ wX.cell? ⟨w.heap.size + 1, 3, none⟩ = some (.int .u64 Wd)) ∧ (wX.cell? ⟨gp, k * 3, none⟩ = some (.int .i64 F) ∧ wX.cell? ⟨gp, k * 3 + 1, none⟩ = some (.int .i64 L) ∧ wX.cell? ⟨gp, k * 3 + 2, none⟩ = some (.int .i64 Q)) ∧ (wX.cell? ⟨w.heap.size, 0, none⟩ = some (.slice s.a1 M.mem.length s.c1) ∧ wX.cell? ⟨w.heap.size, 1, none⟩ = some (.slice s.a2 M.pend.length s.c2) ∧ wX.cell? ⟨w.heap.size, 2, none⟩ = some (.slice s.a3 M.tlb.length s.c3) ∧ wX.cell? ⟨w.heap.size, 3, none⟩ = some (.slice s.a4 M.wc.length s.c4)))) (by kernel_rfl) (HKX.out _ HD15) (fun hHeld => ?_)
              refine wpAnyH_take (i := 0) (v := ?_) rfl (by kernel_rfl) (by kernel_rfl) (by kernel_rfl) (fun _ _ _ h => h) (Or.inl ⟨by rfl, ?_⟩) (by assumption) ?_
              rotate_left
              · (intro w hSw; (try dsimp only at hSw); go_simp; try with_reducible rfl)
              simp only [Act.put, List.setIfInBounds_toArray, List.set_cons_zero, List.set_cons_succ, List.getElem_toArray, List.getElem_cons_zero]
              refine wpAnyH_ready (rs := [1]) (by kernel_rfl) (by simp) ?_
              refine AllReadyH.cons rfl (fun K hK => ?_) AllReadyH.nil
              go_simp
              go_at_call 113
              refine (hbx _).mono ?_
              rintro e w5 ⟨rfl, hw5⟩
              obtain rfl := hw5.symm
              go_wp2_with fail
              refine hK.out _ _ (HKX.out _ HD15) (fun hHeld2 => ?_)
              clear hK K
              refine wpAnyH_take (i := 2) (v := ?_) rfl (by kernel_rfl) (by kernel_rfl) (by kernel_rfl) (fun _ _ _ h => h) (Or.inl ⟨by rfl, ?_⟩) (by assumption) ?_
              rotate_left
              · (intro w hSw; (try dsimp only at hSw); go_simp; try with_reducible rfl)
              simp only [Act.put, List.setIfInBounds_toArray, List.set_cons_zero, List.set_cons_succ, List.getElem_toArray, List.getElem_cons_zero, List.getElem_cons_succ]
              refine wpAnyH_take (i := 3) (v := ?_) rfl (by kernel_rfl) (by kernel_rfl) (by kernel_rfl) (fun _ _ _ h => h) (Or.inl ⟨by rfl, ?_⟩) (by assumption) ?_
              rotate_left
              · (intro w hSw; (try dsimp only at hSw); go_simp; try with_reducible rfl)
              simp only [Act.put, List.setIfInBounds_toArray, List.set_cons_zero, List.set_cons_succ, List.getElem_toArray, List.getElem_cons_zero, List.getElem_cons_succ]
              refine wpAnyH_take (i := 4) rfl (by kernel_rfl) (by kernel_rfl) (by kernel_rfl) (fun _ _ _ h => h) (Or.inr ⟨by rfl, rfl⟩) (by assumption) ?_
              simp only [Act.put, List.setIfInBounds_toArray, List.set_cons_zero, List.set_cons_succ, List.getElem_toArray, List.getElem_cons_zero, List.getElem_cons_succ]
              refine wpAnyH_take (i := 5) rfl (by kernel_rfl) (by kernel_rfl) (by kernel_rfl) (fun _ _ _ h => h) (Or.inr ⟨by rfl, rfl⟩) (by assumption) ?_
              simp only [Act.put, List.setIfInBounds_toArray, List.set_cons_zero, List.set_cons_succ, List.getElem_toArray, List.getElem_cons_zero, List.getElem_cons_succ]
              refine wpAnyH_take (i := 6) rfl (by kernel_rfl) (by kernel_rfl) (by kernel_rfl) (fun _ _ _ h => h) (Or.inr ⟨by rfl, rfl⟩) (by assumption) ?_
              simp only [Act.put, List.setIfInBounds_toArray, List.set_cons_zero, List.set_cons_succ, List.getElem_toArray, List.getElem_cons_zero, List.getElem_cons_succ]
              refine wpAnyH_take (i := 7) rfl (by kernel_rfl) (by kernel_rfl) (by kernel_rfl) (fun _ _ _ h => h) (Or.inr ⟨by rfl, rfl⟩) (by assumption) ?_
              simp only [Act.put, List.setIfInBounds_toArray, List.set_cons_zero, List.set_cons_succ, List.getElem_toArray, List.getElem_cons_zero, List.getElem_cons_succ]
              refine wpAnyH_take (i := 8) rfl (by kernel_rfl) (by kernel_rfl) (by kernel_rfl) (fun _ _ _ h => h) (Or.inr ⟨by rfl, rfl⟩) (by assumption) ?_
              simp only [Act.put, List.setIfInBounds_toArray, List.set_cons_zero, List.set_cons_succ, List.getElem_toArray, List.getElem_cons_zero, List.getElem_cons_succ]
              refine wpAnyH_take (i := 9) rfl (by kernel_rfl) (by kernel_rfl) (by kernel_rfl) (fun _ _ _ h => h) (Or.inr ⟨by rfl, rfl⟩) (by assumption) ?_
              simp only [Act.put, List.setIfInBounds_toArray, List.set_cons_zero, List.set_cons_succ, List.getElem_toArray, List.getElem_cons_zero, List.getElem_cons_succ]
              refine wpAnyH_take (i := 10) rfl (by kernel_rfl) (by kernel_rfl) (by kernel_rfl) (fun _ _ _ h => h) (Or.inr ⟨by rfl, rfl⟩) (by assumption) ?_
              simp only [Act.put, List.setIfInBounds_toArray, List.set_cons_zero, List.set_cons_succ, List.getElem_toArray, List.getElem_cons_zero, List.getElem_cons_succ]
              refine wpAnyH_take (i := 11) rfl (by kernel_rfl) (by kernel_rfl) (by kernel_rfl) (fun _ _ _ h => h) (Or.inr ⟨by rfl, rfl⟩) (by assumption) ?_
              simp only [Act.put, List.setIfInBounds_toArray, List.set_cons_zero, List.set_cons_succ, List.getElem_toArray, List.getElem_cons_zero, List.getElem_cons_succ]
              refine wpAnyH_take (i := 12) rfl (by kernel_rfl) (by kernel_rfl) (by kernel_rfl) (fun _ _ _ h => h) (Or.inr ⟨by rfl, rfl⟩) (by assumption) ?_
              simp only [Act.put, List.setIfInBounds_toArray, List.set_cons_zero, List.set_cons_succ, List.getElem_toArray, List.getElem_cons_zero, List.getElem_cons_succ]
              refine wpAnyH_take (i := 13) (v := ?_) rfl (by kernel_rfl) (by kernel_rfl) (by kernel_rfl) (fun _ _ _ h => h) (Or.inl ⟨by rfl, ?_⟩) (by assumption) ?_
              rotate_left
              · (intro w hSw; (try dsimp only at hSw); go_simp; try with_reducible rfl)
              simp only [Act.put, List.setIfInBounds_toArray, List.set_cons_zero, List.set_cons_succ, List.getElem_toArray, List.getElem_cons_zero, List.getElem_cons_succ]
              refine wpAnyH_done (by kernel_rfl) ?_ _
              go_wp2_with fail
              go_roundw
              case rel =>
                refine ⟨k + 1, by omega, by rw [HCCC.out], by go_num, fun h1 h2 j hj => ?_, HB.out.drew.drew.drew⟩
                exact absurd rfl h2
              case measure => simp [intOf]; omega
            · have dN : (X != Wd) = true := by simpa using hXW
              have HR := HTWO.out k F L Q hlt HE.out HWZ.out hX1 hXW HFF.out
              subst HR
              clear hX1 hXW hca
              go_wp2_with fail
              refine wp_region_held_drew (S := (fun wX => (wX.cell? ⟨w.heap.size + 1, 1, none⟩ = some (.int .i64 A) ∧ wX.cell? ⟨w.heap.size + 1, 3, none⟩ = some (.int .u64 Wd)) ∧ (wX.cell? ⟨gp, k * 3, none⟩ = some (.int .i64 F) ∧ wX.cell? ⟨gp, k * 3 + 1, none⟩ = some (.int .i64 L) ∧ wX.cell? ⟨gp, k * 3 + 2, none⟩ = some (.int .i64 Q)))) (by kernel_rfl) (HKK.out _ ((Below.refl _ _).drew)) (fun hHeld => ?_)
              refine wpAnyH_take (i := 0) (v := ?_) rfl (by kernel_rfl) (by kernel_rfl) (by kernel_rfl) (fun _ _ _ h => h) (Or.inl ⟨by rfl, ?_⟩) (by assumption) ?_
              rotate_left
              · (intro w hSw; (try dsimp only at hSw); go_simp; try with_reducible rfl)
              simp only [Act.put, List.setIfInBounds_toArray, List.set_cons_zero, List.set_cons_succ, List.getElem_toArray, List.getElem_cons_zero]
              refine wpAnyH_take (i := 1) (v := ?_) rfl (by kernel_rfl) (by kernel_rfl) (by kernel_rfl) (fun _ _ _ h => h) (Or.inl ⟨by rfl, ?_⟩) (by assumption) ?_
              rotate_left
              · (intro w hSw; (try dsimp only at hSw); go_simp; try with_reducible rfl)
              simp only [Act.put, List.setIfInBounds_toArray, List.set_cons_zero, List.set_cons_succ, List.getElem_toArray, List.getElem_cons_zero, List.getElem_cons_succ]
              refine wpAnyH_take (i := 2) (v := ?_) rfl (by kernel_rfl) (by kernel_rfl) (by kernel_rfl) (fun _ _ _ h => h) (Or.inl ⟨by rfl, ?_⟩) (by assumption) ?_
              rotate_left
              · (intro w hSw; (try dsimp only at hSw); go_simp; try with_reducible rfl)
              simp only [Act.put, List.setIfInBounds_toArray, List.set_cons_zero, List.set_cons_succ, List.getElem_toArray, List.getElem_cons_zero, List.getElem_cons_succ]
              refine wpAnyH_take (i := 3) (v := ?_) rfl (by kernel_rfl) (by kernel_rfl) (by kernel_rfl) (fun _ _ _ h => h) (Or.inl ⟨by rfl, ?_⟩) (by assumption) ?_
              rotate_left
              · (intro w hSw; (try dsimp only at hSw); go_simp; try with_reducible rfl)
              simp only [Act.put, List.setIfInBounds_toArray, List.set_cons_zero, List.set_cons_succ, List.getElem_toArray, List.getElem_cons_zero, List.getElem_cons_succ]
              refine wpAnyH_take (i := 4) (v := ?_) rfl (by kernel_rfl) (by kernel_rfl) (by kernel_rfl) (fun _ _ _ h => h) (Or.inl ⟨by rfl, ?_⟩) (by assumption) ?_
              rotate_left
              · (intro w hSw; (try dsimp only at hSw); go_simp; try with_reducible rfl)
              simp only [Act.put, List.setIfInBounds_toArray, List.set_cons_zero, List.set_cons_succ, List.getElem_toArray, List.getElem_cons_zero, List.getElem_cons_succ]
              refine wpAnyH_take (i := 5) (v := ?_) rfl (by kernel_rfl) (by kernel_rfl) (by kernel_rfl) (fun _ _ _ h => h) (Or.inl ⟨by rfl, ?_⟩) (by assumption) ?_
              rotate_left
              · (intro w hSw; (try dsimp only at hSw); go_simp; try with_reducible rfl)
              simp only [Act.put, List.setIfInBounds_toArray, List.set_cons_zero, List.set_cons_succ, List.getElem_toArray, List.getElem_cons_zero, List.getElem_cons_succ]
              refine wpAnyH_take (i := 6) (v := ?_) rfl (by kernel_rfl) (by kernel_rfl) (by kernel_rfl) (fun _ _ _ h => h) (Or.inl ⟨by rfl, ?_⟩) (by assumption) ?_
              rotate_left
              · (intro w hSw; (try dsimp only at hSw); go_simp; try with_reducible rfl)
              simp only [Act.put, List.setIfInBounds_toArray, List.set_cons_zero, List.set_cons_succ, List.getElem_toArray, List.getElem_cons_zero, List.getElem_cons_succ]
              refine wpAnyH_take (i := 7) (v := ?_) rfl (by kernel_rfl) (by kernel_rfl) (by kernel_rfl) (fun _ _ _ h => h) (Or.inl ⟨by rfl, ?_⟩) (by assumption) ?_
              rotate_left
              · (intro w hSw; (try dsimp only at hSw); go_simp; try with_reducible rfl)
              simp only [Act.put, List.setIfInBounds_toArray, List.set_cons_zero, List.set_cons_succ, List.getElem_toArray, List.getElem_cons_zero, List.getElem_cons_succ]
              refine wpAnyH_take (i := 8) (v := ?_) rfl (by kernel_rfl) (by kernel_rfl) (by kernel_rfl) (fun _ _ _ h => h) (Or.inl ⟨by rfl, ?_⟩) (by assumption) ?_
              rotate_left
              · (intro w hSw; (try dsimp only at hSw); go_simp; try with_reducible rfl)
              simp only [Act.put, List.setIfInBounds_toArray, List.set_cons_zero, List.set_cons_succ, List.getElem_toArray, List.getElem_cons_zero, List.getElem_cons_succ]
              refine wpAnyH_done (by kernel_rfl) ?_ _
              go_wp2_with fail
              refine (hcl _).mono ?_
              rintro e w5 ⟨rfl, hw5⟩
              obtain rfl := hw5.symm
              clear hHeld
              go_wp2_with fail
              refine wp_region_held_drew (S := (fun wX => (wX.cell? ⟨w.heap.size + 1, 1, none⟩ = some (.int .i64 A) ∧ wX.cell? ⟨w.heap.size + 1, 3, none⟩ = some (.int .u64 Wd)) ∧ (wX.cell? ⟨gp, k * 3, none⟩ = some (.int .i64 F) ∧ wX.cell? ⟨gp, k * 3 + 1, none⟩ = some (.int .i64 L) ∧ wX.cell? ⟨gp, k * 3 + 2, none⟩ = some (.int .i64 Q)))) (by kernel_rfl) (HKK.out _ ((Below.refl _ _).drew.drew)) (fun hHeld => ?_)
              refine wpAnyH_take (i := 0) (v := ?_) rfl (by kernel_rfl) (by kernel_rfl) (by kernel_rfl) (fun _ _ _ h => h) (Or.inl ⟨by rfl, ?_⟩) (by assumption) ?_
              rotate_left
              · (intro w hSw; (try dsimp only at hSw); go_simp; try with_reducible rfl)
              simp only [Act.put, List.setIfInBounds_toArray, List.set_cons_zero, List.set_cons_succ, List.getElem_toArray, List.getElem_cons_zero]
              refine wpAnyH_take (i := 1) (v := ?_) rfl (by kernel_rfl) (by kernel_rfl) (by kernel_rfl) (fun _ _ _ h => h) (Or.inl ⟨by rfl, ?_⟩) (by assumption) ?_
              rotate_left
              · (intro w hSw; (try dsimp only at hSw); go_simp; try with_reducible rfl)
              simp only [Act.put, List.setIfInBounds_toArray, List.set_cons_zero, List.set_cons_succ, List.getElem_toArray, List.getElem_cons_zero, List.getElem_cons_succ]
              refine wpAnyH_take (i := 2) (v := ?_) rfl (by kernel_rfl) (by kernel_rfl) (by kernel_rfl) (fun _ _ _ h => h) (Or.inl ⟨by rfl, ?_⟩) (by assumption) ?_
              rotate_left
              · (intro w hSw; (try dsimp only at hSw); go_simp; try with_reducible rfl)
              simp only [Act.put, List.setIfInBounds_toArray, List.set_cons_zero, List.set_cons_succ, List.getElem_toArray, List.getElem_cons_zero, List.getElem_cons_succ]
              refine wpAnyH_take (i := 3) (v := ?_) rfl (by kernel_rfl) (by kernel_rfl) (by kernel_rfl) (fun _ _ _ h => h) (Or.inl ⟨by rfl, ?_⟩) (by assumption) ?_
              rotate_left
              · (intro w hSw; (try dsimp only at hSw); go_simp; try with_reducible rfl)
              simp only [Act.put, List.setIfInBounds_toArray, List.set_cons_zero, List.set_cons_succ, List.getElem_toArray, List.getElem_cons_zero, List.getElem_cons_succ]
              refine wpAnyH_take (i := 4) (v := ?_) rfl (by kernel_rfl) (by kernel_rfl) (by kernel_rfl) (fun _ _ _ h => h) (Or.inl ⟨by rfl, ?_⟩) (by assumption) ?_
              rotate_left
              · (intro w hSw; (try dsimp only at hSw); go_simp; try with_reducible rfl)
              simp only [Act.put, List.setIfInBounds_toArray, List.set_cons_zero, List.set_cons_succ, List.getElem_toArray, List.getElem_cons_zero, List.getElem_cons_succ]
              refine wpAnyH_take (i := 5) (v := ?_) rfl (by kernel_rfl) (by kernel_rfl) (by kernel_rfl) (fun _ _ _ h => h) (Or.inl ⟨by rfl, ?_⟩) (by assumption) ?_
              rotate_left
              · (intro w hSw; (try dsimp only at hSw); go_simp; try with_reducible rfl)
              simp only [Act.put, List.setIfInBounds_toArray, List.set_cons_zero, List.set_cons_succ, List.getElem_toArray, List.getElem_cons_zero, List.getElem_cons_succ]
              refine wpAnyH_take (i := 6) (v := ?_) rfl (by kernel_rfl) (by kernel_rfl) (by kernel_rfl) (fun _ _ _ h => h) (Or.inl ⟨by rfl, ?_⟩) (by assumption) ?_
              rotate_left
              · (intro w hSw; (try dsimp only at hSw); go_simp; try with_reducible rfl)
              simp only [Act.put, List.setIfInBounds_toArray, List.set_cons_zero, List.set_cons_succ, List.getElem_toArray, List.getElem_cons_zero, List.getElem_cons_succ]
              refine wpAnyH_take (i := 7) (v := ?_) rfl (by kernel_rfl) (by kernel_rfl) (by kernel_rfl) (fun _ _ _ h => h) (Or.inl ⟨by rfl, ?_⟩) (by assumption) ?_
              rotate_left
              · (intro w hSw; (try dsimp only at hSw); go_simp; try with_reducible rfl)
              simp only [Act.put, List.setIfInBounds_toArray, List.set_cons_zero, List.set_cons_succ, List.getElem_toArray, List.getElem_cons_zero, List.getElem_cons_succ]
              refine wpAnyH_take (i := 8) (v := ?_) rfl (by kernel_rfl) (by kernel_rfl) (by kernel_rfl) (fun _ _ _ h => h) (Or.inl ⟨by rfl, ?_⟩) (by assumption) ?_
              rotate_left
              · (intro w hSw; (try dsimp only at hSw); go_simp; try with_reducible rfl)
              simp only [Act.put, List.setIfInBounds_toArray, List.set_cons_zero, List.set_cons_succ, List.getElem_toArray, List.getElem_cons_zero, List.getElem_cons_succ]
              refine wpAnyH_take (i := 9) (v := ?_) rfl (by kernel_rfl) (by kernel_rfl) (by kernel_rfl) (fun _ _ _ h => h) (Or.inl ⟨by rfl, ?_⟩) (by assumption) ?_
              rotate_left
              · (intro w hSw; (try dsimp only at hSw); go_simp; try with_reducible rfl)
              simp only [Act.put, List.setIfInBounds_toArray, List.set_cons_zero, List.set_cons_succ, List.getElem_toArray, List.getElem_cons_zero, List.getElem_cons_succ]
              refine wpAnyH_take (i := 10) (v := ?_) rfl (by kernel_rfl) (by kernel_rfl) (by kernel_rfl) (fun _ _ _ h => h) (Or.inl ⟨by rfl, ?_⟩) (by assumption) ?_
              rotate_left
              · (intro w hSw; (try dsimp only at hSw); go_simp; try with_reducible rfl)
              simp only [Act.put, List.setIfInBounds_toArray, List.set_cons_zero, List.set_cons_succ, List.getElem_toArray, List.getElem_cons_zero, List.getElem_cons_succ]
              refine wpAnyH_take (i := 11) (v := ?_) rfl (by kernel_rfl) (by kernel_rfl) (by kernel_rfl) (fun _ _ _ h => h) (Or.inl ⟨by rfl, ?_⟩) (by assumption) ?_
              rotate_left
              · (intro w hSw; (try dsimp only at hSw); go_simp; try with_reducible rfl)
              simp only [Act.put, List.setIfInBounds_toArray, List.set_cons_zero, List.set_cons_succ, List.getElem_toArray, List.getElem_cons_zero, List.getElem_cons_succ]
              refine wpAnyH_done (by kernel_rfl) ?_ _
              clear hHeld
              go_wp2_with fail
              refine (hbx _).mono ?_
              rintro e w6 ⟨rfl, hw6⟩
              obtain rfl := hw6.symm
              clear hw6
              go_wp2_with fail
              go_ret
              exact ⟨rfl, HBB.out.trans ((bW.trans ((Below.refl _ _).drew.drew.mono bW.size)).mono HBB.out.size)⟩
          · have dX1 : (X % 2 == 1) = false := by simpa using hX1
            have dX0 : (X % 2 == 0) = true := by simp; omega
            cases hcb2 : cachedB M L (Q + (A : Int) % 16 * cL) cL
            · have HCCC : Hid (codeTo M o.a (k + 1) = codeTo M o.a k) := HCS.out k (.inr (by rw [HPLC.out, hcb2, Bool.and_false]))
              have HX1 : Hid (¬ X % 2 = 1) := hX1
              simp only [hcb2] at hca
              have HCB : Hid (∀ wX, Below wr.heap.size wr wX → Calls Tryz.prog 115 #[.agg #[.slice s.a1 M.mem.length s.c1, .slice s.a2 M.pend.length s.c2, .slice s.a3 M.tlb.length s.c3, .slice s.a4 M.wc.length s.c4], .int .i64 L, .int .i64 (Q + (A : Int) % 16 * cL), .int .i64 cL] wX fun e w' => e = .returned (.bool false) ∧ Below wX.heap.size wX w') := hca
              clear hX1 hcb2 hca
              go_wp2_with fail
              refine wp_region_held_drew (S := (fun wX => (wX.cell? ⟨w.heap.size + 1, 1, none⟩ = some (.int .i64 A) ∧ wX.cell? ⟨w.heap.size + 1, 3, none⟩ = some (.int .u64 Wd)) ∧ (wX.cell? ⟨gp, k * 3, none⟩ = some (.int .i64 F) ∧ wX.cell? ⟨gp, k * 3 + 1, none⟩ = some (.int .i64 L) ∧ wX.cell? ⟨gp, k * 3 + 2, none⟩ = some (.int .i64 Q)))) (by kernel_rfl) (HKK.out _ ((Below.refl _ _).drew)) (fun hHeld => ?_)
              refine wpAnyH_take (i := 0) (v := ?_) rfl (by kernel_rfl) (by kernel_rfl) (by kernel_rfl) (fun _ _ _ h => h) (Or.inl ⟨by rfl, ?_⟩) (by assumption) ?_
              rotate_left
              · (intro w hSw; (try dsimp only at hSw); go_simp; try with_reducible rfl)
              simp only [Act.put, List.setIfInBounds_toArray, List.set_cons_zero, List.set_cons_succ, List.getElem_toArray, List.getElem_cons_zero]
              refine wpAnyH_take (i := 1) (v := ?_) rfl (by kernel_rfl) (by kernel_rfl) (by kernel_rfl) (fun _ _ _ h => h) (Or.inl ⟨by rfl, ?_⟩) (by assumption) ?_
              rotate_left
              · (intro w hSw; (try dsimp only at hSw); go_simp; try with_reducible rfl)
              simp only [Act.put, List.setIfInBounds_toArray, List.set_cons_zero, List.set_cons_succ, List.getElem_toArray, List.getElem_cons_zero, List.getElem_cons_succ]
              refine wpAnyH_take (i := 2) (v := ?_) rfl (by kernel_rfl) (by kernel_rfl) (by kernel_rfl) (fun _ _ _ h => h) (Or.inl ⟨by rfl, ?_⟩) (by assumption) ?_
              rotate_left
              · (intro w hSw; (try dsimp only at hSw); go_simp; try with_reducible rfl)
              simp only [Act.put, List.setIfInBounds_toArray, List.set_cons_zero, List.set_cons_succ, List.getElem_toArray, List.getElem_cons_zero, List.getElem_cons_succ]
              refine wpAnyH_take (i := 3) (v := ?_) rfl (by kernel_rfl) (by kernel_rfl) (by kernel_rfl) (fun _ _ _ h => h) (Or.inl ⟨by rfl, ?_⟩) (by assumption) ?_
              rotate_left
              · (intro w hSw; (try dsimp only at hSw); go_simp; try with_reducible rfl)
              simp only [Act.put, List.setIfInBounds_toArray, List.set_cons_zero, List.set_cons_succ, List.getElem_toArray, List.getElem_cons_zero, List.getElem_cons_succ]
              refine wpAnyH_take (i := 4) (v := ?_) rfl (by kernel_rfl) (by kernel_rfl) (by kernel_rfl) (fun _ _ _ h => h) (Or.inl ⟨by rfl, ?_⟩) (by assumption) ?_
              rotate_left
              · (intro w hSw; (try dsimp only at hSw); go_simp; try with_reducible rfl)
              simp only [Act.put, List.setIfInBounds_toArray, List.set_cons_zero, List.set_cons_succ, List.getElem_toArray, List.getElem_cons_zero, List.getElem_cons_succ]
              refine wpAnyH_take (i := 5) (v := ?_) rfl (by kernel_rfl) (by kernel_rfl) (by kernel_rfl) (fun _ _ _ h => h) (Or.inl ⟨by rfl, ?_⟩) (by assumption) ?_
              rotate_left
              · (intro w hSw; (try dsimp only at hSw); go_simp; try with_reducible rfl)
              simp only [Act.put, List.setIfInBounds_toArray, List.set_cons_zero, List.set_cons_succ, List.getElem_toArray, List.getElem_cons_zero, List.getElem_cons_succ]
              refine wpAnyH_take (i := 6) (v := ?_) rfl (by kernel_rfl) (by kernel_rfl) (by kernel_rfl) (fun _ _ _ h => h) (Or.inl ⟨by rfl, ?_⟩) (by assumption) ?_
              rotate_left
              · (intro w hSw; (try dsimp only at hSw); go_simp; try with_reducible rfl)
              simp only [Act.put, List.setIfInBounds_toArray, List.set_cons_zero, List.set_cons_succ, List.getElem_toArray, List.getElem_cons_zero, List.getElem_cons_succ]
              refine wpAnyH_take (i := 7) (v := ?_) rfl (by kernel_rfl) (by kernel_rfl) (by kernel_rfl) (fun _ _ _ h => h) (Or.inl ⟨by rfl, ?_⟩) (by assumption) ?_
              rotate_left
              · (intro w hSw; (try dsimp only at hSw); go_simp; try with_reducible rfl)
              simp only [Act.put, List.setIfInBounds_toArray, List.set_cons_zero, List.set_cons_succ, List.getElem_toArray, List.getElem_cons_zero, List.getElem_cons_succ]
              refine wpAnyH_take (i := 8) (v := ?_) rfl (by kernel_rfl) (by kernel_rfl) (by kernel_rfl) (fun _ _ _ h => h) (Or.inl ⟨by rfl, ?_⟩) (by assumption) ?_
              rotate_left
              · (intro w hSw; (try dsimp only at hSw); go_simp; try with_reducible rfl)
              simp only [Act.put, List.setIfInBounds_toArray, List.set_cons_zero, List.set_cons_succ, List.getElem_toArray, List.getElem_cons_zero, List.getElem_cons_succ]
              refine wpAnyH_done (by kernel_rfl) ?_ _
              go_wp2_with fail
              refine (hcl _).mono ?_
              rintro e w5 ⟨rfl, hw5⟩
              obtain rfl := hw5.symm
              clear hHeld
              go_wp2_with fail
              refine wp_region_held_drew (S := (fun wX => (wX.cell? ⟨w.heap.size + 1, 1, none⟩ = some (.int .i64 A) ∧ wX.cell? ⟨w.heap.size + 1, 3, none⟩ = some (.int .u64 Wd)) ∧ (wX.cell? ⟨gp, k * 3, none⟩ = some (.int .i64 F) ∧ wX.cell? ⟨gp, k * 3 + 1, none⟩ = some (.int .i64 L) ∧ wX.cell? ⟨gp, k * 3 + 2, none⟩ = some (.int .i64 Q)))) (by kernel_rfl) (HKK.out _ ((Below.refl _ _).drew.drew)) (fun hHeld => ?_)
              refine wpAnyH_take (i := 0) (v := ?_) rfl (by kernel_rfl) (by kernel_rfl) (by kernel_rfl) (fun _ _ _ h => h) (Or.inl ⟨by rfl, ?_⟩) (by assumption) ?_
              rotate_left
              · (intro w hSw; (try dsimp only at hSw); go_simp; try with_reducible rfl)
              simp only [Act.put, List.setIfInBounds_toArray, List.set_cons_zero, List.set_cons_succ, List.getElem_toArray, List.getElem_cons_zero]
              refine wpAnyH_take (i := 1) (v := ?_) rfl (by kernel_rfl) (by kernel_rfl) (by kernel_rfl) (fun _ _ _ h => h) (Or.inl ⟨by rfl, ?_⟩) (by assumption) ?_
              rotate_left
              · (intro w hSw; (try dsimp only at hSw); go_simp; try with_reducible rfl)
              simp only [Act.put, List.setIfInBounds_toArray, List.set_cons_zero, List.set_cons_succ, List.getElem_toArray, List.getElem_cons_zero, List.getElem_cons_succ]
              refine wpAnyH_take (i := 2) (v := ?_) rfl (by kernel_rfl) (by kernel_rfl) (by kernel_rfl) (fun _ _ _ h => h) (Or.inl ⟨by rfl, ?_⟩) (by assumption) ?_
              rotate_left
              · (intro w hSw; (try dsimp only at hSw); go_simp; try with_reducible rfl)
              simp only [Act.put, List.setIfInBounds_toArray, List.set_cons_zero, List.set_cons_succ, List.getElem_toArray, List.getElem_cons_zero, List.getElem_cons_succ]
              refine wpAnyH_take (i := 3) (v := ?_) rfl (by kernel_rfl) (by kernel_rfl) (by kernel_rfl) (fun _ _ _ h => h) (Or.inl ⟨by rfl, ?_⟩) (by assumption) ?_
              rotate_left
              · (intro w hSw; (try dsimp only at hSw); go_simp; try with_reducible rfl)
              simp only [Act.put, List.setIfInBounds_toArray, List.set_cons_zero, List.set_cons_succ, List.getElem_toArray, List.getElem_cons_zero, List.getElem_cons_succ]
              refine wpAnyH_take (i := 4) (v := ?_) rfl (by kernel_rfl) (by kernel_rfl) (by kernel_rfl) (fun _ _ _ h => h) (Or.inl ⟨by rfl, ?_⟩) (by assumption) ?_
              rotate_left
              · (intro w hSw; (try dsimp only at hSw); go_simp; try with_reducible rfl)
              simp only [Act.put, List.setIfInBounds_toArray, List.set_cons_zero, List.set_cons_succ, List.getElem_toArray, List.getElem_cons_zero, List.getElem_cons_succ]
              refine wpAnyH_take (i := 5) (v := ?_) rfl (by kernel_rfl) (by kernel_rfl) (by kernel_rfl) (fun _ _ _ h => h) (Or.inl ⟨by rfl, ?_⟩) (by assumption) ?_
              rotate_left
              · (intro w hSw; (try dsimp only at hSw); go_simp; try with_reducible rfl)
              simp only [Act.put, List.setIfInBounds_toArray, List.set_cons_zero, List.set_cons_succ, List.getElem_toArray, List.getElem_cons_zero, List.getElem_cons_succ]
              refine wpAnyH_take (i := 6) (v := ?_) rfl (by kernel_rfl) (by kernel_rfl) (by kernel_rfl) (fun _ _ _ h => h) (Or.inl ⟨by rfl, ?_⟩) (by assumption) ?_
              rotate_left
              · (intro w hSw; (try dsimp only at hSw); go_simp; try with_reducible rfl)
              simp only [Act.put, List.setIfInBounds_toArray, List.set_cons_zero, List.set_cons_succ, List.getElem_toArray, List.getElem_cons_zero, List.getElem_cons_succ]
              refine wpAnyH_take (i := 7) (v := ?_) rfl (by kernel_rfl) (by kernel_rfl) (by kernel_rfl) (fun _ _ _ h => h) (Or.inl ⟨by rfl, ?_⟩) (by assumption) ?_
              rotate_left
              · (intro w hSw; (try dsimp only at hSw); go_simp; try with_reducible rfl)
              simp only [Act.put, List.setIfInBounds_toArray, List.set_cons_zero, List.set_cons_succ, List.getElem_toArray, List.getElem_cons_zero, List.getElem_cons_succ]
              refine wpAnyH_take (i := 8) (v := ?_) rfl (by kernel_rfl) (by kernel_rfl) (by kernel_rfl) (fun _ _ _ h => h) (Or.inl ⟨by rfl, ?_⟩) (by assumption) ?_
              rotate_left
              · (intro w hSw; (try dsimp only at hSw); go_simp; try with_reducible rfl)
              simp only [Act.put, List.setIfInBounds_toArray, List.set_cons_zero, List.set_cons_succ, List.getElem_toArray, List.getElem_cons_zero, List.getElem_cons_succ]
              refine wpAnyH_take (i := 9) (v := ?_) rfl (by kernel_rfl) (by kernel_rfl) (by kernel_rfl) (fun _ _ _ h => h) (Or.inl ⟨by rfl, ?_⟩) (by assumption) ?_
              rotate_left
              · (intro w hSw; (try dsimp only at hSw); go_simp; try with_reducible rfl)
              simp only [Act.put, List.setIfInBounds_toArray, List.set_cons_zero, List.set_cons_succ, List.getElem_toArray, List.getElem_cons_zero, List.getElem_cons_succ]
              refine wpAnyH_take (i := 10) (v := ?_) rfl (by kernel_rfl) (by kernel_rfl) (by kernel_rfl) (fun _ _ _ h => h) (Or.inl ⟨by rfl, ?_⟩) (by assumption) ?_
              rotate_left
              · (intro w hSw; (try dsimp only at hSw); go_simp; try with_reducible rfl)
              simp only [Act.put, List.setIfInBounds_toArray, List.set_cons_zero, List.set_cons_succ, List.getElem_toArray, List.getElem_cons_zero, List.getElem_cons_succ]
              refine wpAnyH_take (i := 11) (v := ?_) rfl (by kernel_rfl) (by kernel_rfl) (by kernel_rfl) (fun _ _ _ h => h) (Or.inl ⟨by rfl, ?_⟩) (by assumption) ?_
              rotate_left
              · (intro w hSw; (try dsimp only at hSw); go_simp; try with_reducible rfl)
              simp only [Act.put, List.setIfInBounds_toArray, List.set_cons_zero, List.set_cons_succ, List.getElem_toArray, List.getElem_cons_zero, List.getElem_cons_succ]
              refine wpAnyH_done (by kernel_rfl) ?_ _
              clear hHeld
              go_wp2_with fail
              refine (hbx _).mono ?_
              rintro e w6 ⟨rfl, hw6⟩
              obtain rfl := hw6.symm
              clear hw6
              go_wp2_with fail
              refine wp_region_held_drew (S := (fun wX => (wX.cell? ⟨w.heap.size + 1, 1, none⟩ = some (.int .i64 A) ∧ wX.cell? ⟨w.heap.size + 1, 3, none⟩ = some (.int .u64 Wd)) ∧ (wX.cell? ⟨gp, k * 3, none⟩ = some (.int .i64 F) ∧ wX.cell? ⟨gp, k * 3 + 1, none⟩ = some (.int .i64 L) ∧ wX.cell? ⟨gp, k * 3 + 2, none⟩ = some (.int .i64 Q)) ∧ (wX.cell? ⟨w.heap.size, 0, none⟩ = some (.slice s.a1 M.mem.length s.c1) ∧ wX.cell? ⟨w.heap.size, 1, none⟩ = some (.slice s.a2 M.pend.length s.c2) ∧ wX.cell? ⟨w.heap.size, 2, none⟩ = some (.slice s.a3 M.tlb.length s.c3) ∧ wX.cell? ⟨w.heap.size, 3, none⟩ = some (.slice s.a4 M.wc.length s.c4)))) (by kernel_rfl) (HKX.out _ HD15) (fun hHeld => ?_)
              refine wpAnyH_take (i := 0) (v := ?_) rfl (by kernel_rfl) (by kernel_rfl) (by kernel_rfl) (fun _ _ _ h => h) (Or.inl ⟨by rfl, ?_⟩) (by assumption) ?_
              rotate_left
              · (intro w hSw; (try dsimp only at hSw); go_simp; try with_reducible rfl)
              simp only [Act.put, List.setIfInBounds_toArray, List.set_cons_zero, List.set_cons_succ, List.getElem_toArray, List.getElem_cons_zero]
              refine wpAnyH_ready (rs := [1]) (by kernel_rfl) (by simp) ?_
              refine AllReadyH.cons rfl (fun K hK => ?_) AllReadyH.nil
              go_simp
              go_at_call 113
              refine (hbx _).mono ?_
              rintro e w5 ⟨rfl, hw5⟩
              obtain rfl := hw5.symm
              go_wp2_with fail
              refine hK.out _ _ (HKX.out _ HD15) (fun hHeld2 => ?_)
              clear hK K
              refine wpAnyH_take (i := 2) (v := ?_) rfl (by kernel_rfl) (by kernel_rfl) (by kernel_rfl) (fun _ _ _ h => h) (Or.inl ⟨by rfl, ?_⟩) (by assumption) ?_
              rotate_left
              · (intro w hSw; (try dsimp only at hSw); go_simp; try with_reducible rfl)
              simp only [Act.put, List.setIfInBounds_toArray, List.set_cons_zero, List.set_cons_succ, List.getElem_toArray, List.getElem_cons_zero, List.getElem_cons_succ]
              refine wpAnyH_take (i := 3) (v := ?_) rfl (by kernel_rfl) (by kernel_rfl) (by kernel_rfl) (fun _ _ _ h => h) (Or.inl ⟨by rfl, ?_⟩) (by assumption) ?_
              rotate_left
              · (intro w hSw; (try dsimp only at hSw); go_simp; try with_reducible rfl)
              simp only [Act.put, List.setIfInBounds_toArray, List.set_cons_zero, List.set_cons_succ, List.getElem_toArray, List.getElem_cons_zero, List.getElem_cons_succ]
              refine wpAnyH_take (i := 4) (v := ?_) rfl (by kernel_rfl) (by kernel_rfl) (by kernel_rfl) (fun _ _ _ h => h) (Or.inl ⟨by rfl, ?_⟩) (by assumption) ?_
              rotate_left
              · (intro w hSw; (try dsimp only at hSw); go_simp; try with_reducible rfl)
              simp only [Act.put, List.setIfInBounds_toArray, List.set_cons_zero, List.set_cons_succ, List.getElem_toArray, List.getElem_cons_zero, List.getElem_cons_succ]
              refine wpAnyH_take (i := 5) (v := ?_) rfl (by kernel_rfl) (by kernel_rfl) (by kernel_rfl) (fun _ _ _ h => h) (Or.inl ⟨by rfl, ?_⟩) (by assumption) ?_
              rotate_left
              · (intro w hSw; (try dsimp only at hSw); go_simp; try with_reducible rfl)
              simp only [Act.put, List.setIfInBounds_toArray, List.set_cons_zero, List.set_cons_succ, List.getElem_toArray, List.getElem_cons_zero, List.getElem_cons_succ]
              refine wpAnyH_take (i := 6) (v := ?_) rfl (by kernel_rfl) (by kernel_rfl) (by kernel_rfl) (fun _ _ _ h => h) (Or.inl ⟨by rfl, ?_⟩) (by assumption) ?_
              rotate_left
              · (intro w hSw; (try dsimp only at hSw); go_simp; try with_reducible rfl)
              simp only [Act.put, List.setIfInBounds_toArray, List.set_cons_zero, List.set_cons_succ, List.getElem_toArray, List.getElem_cons_zero, List.getElem_cons_succ]
              refine wpAnyH_take (i := 7) (v := ?_) rfl (by kernel_rfl) (by kernel_rfl) (by kernel_rfl) (fun _ _ _ h => h) (Or.inl ⟨by rfl, ?_⟩) (by assumption) ?_
              rotate_left
              · (intro w hSw; (try dsimp only at hSw); go_simp; try with_reducible rfl)
              simp only [Act.put, List.setIfInBounds_toArray, List.set_cons_zero, List.set_cons_succ, List.getElem_toArray, List.getElem_cons_zero, List.getElem_cons_succ]
              refine wpAnyH_take (i := 8) (v := ?_) rfl (by kernel_rfl) (by kernel_rfl) (by kernel_rfl) (fun _ _ _ h => h) (Or.inl ⟨by rfl, ?_⟩) (by assumption) ?_
              rotate_left
              · (intro w hSw; (try dsimp only at hSw); go_simp; try with_reducible rfl)
              simp only [Act.put, List.setIfInBounds_toArray, List.set_cons_zero, List.set_cons_succ, List.getElem_toArray, List.getElem_cons_zero, List.getElem_cons_succ]
              refine wpAnyH_take (i := 9) (v := ?_) rfl (by kernel_rfl) (by kernel_rfl) (by kernel_rfl) (fun _ _ _ h => h) (Or.inl ⟨by rfl, ?_⟩) (by assumption) ?_
              rotate_left
              · (intro w hSw; (try dsimp only at hSw); go_simp; try with_reducible rfl)
              simp only [Act.put, List.setIfInBounds_toArray, List.set_cons_zero, List.set_cons_succ, List.getElem_toArray, List.getElem_cons_zero, List.getElem_cons_succ]
              refine wpAnyH_take (i := 10) (v := ?_) rfl (by kernel_rfl) (by kernel_rfl) (by kernel_rfl) (fun _ _ _ h => h) (Or.inl ⟨by rfl, ?_⟩) (by assumption) ?_
              rotate_left
              · (intro w hSw; (try dsimp only at hSw); go_simp; try with_reducible rfl)
              simp only [Act.put, List.setIfInBounds_toArray, List.set_cons_zero, List.set_cons_succ, List.getElem_toArray, List.getElem_cons_zero, List.getElem_cons_succ]
              refine wpAnyH_take (i := 11) (v := ?_) rfl (by kernel_rfl) (by kernel_rfl) (by kernel_rfl) (fun _ _ _ h => h) (Or.inl ⟨by rfl, ?_⟩) (by assumption) ?_
              rotate_left
              · (intro w hSw; (try dsimp only at hSw); go_simp; try with_reducible rfl)
              simp only [Act.put, List.setIfInBounds_toArray, List.set_cons_zero, List.set_cons_succ, List.getElem_toArray, List.getElem_cons_zero, List.getElem_cons_succ]
              refine wpAnyH_ready (rs := [12]) (by kernel_rfl) (by simp) ?_
              refine AllReadyH.cons rfl (fun K hK => ?_) AllReadyH.nil
              go_simp
              go_at_call 115
              refine (HCB.out _ HD15).mono ?_
              rintro e w6 ⟨rfl, hb6⟩
              go_wp2_with fail
              refine hK.out _ _ (HKX.out _ (HD15.trans (hb6.mono HD15.size))) (fun hHeld2 => ?_)
              clear hK K
              refine wpAnyH_take (i := 13) (v := ?_) rfl (by kernel_rfl) (by kernel_rfl) (by kernel_rfl) (fun _ _ _ h => h) (Or.inl ⟨by rfl, ?_⟩) (by assumption) ?_
              rotate_left
              · (intro w hSw; (try dsimp only at hSw); go_simp; try with_reducible rfl)
              simp only [Act.put, List.setIfInBounds_toArray, List.set_cons_zero, List.set_cons_succ, List.getElem_toArray, List.getElem_cons_zero, List.getElem_cons_succ]
              refine wpAnyH_done (by kernel_rfl) ?_ _
              go_wp2_with fail
              go_roundw
              case rel =>
                refine ⟨k + 1, by omega, by rw [HCCC.out], by go_num, fun h1 h2 j hj => ?_, HB.out.trans ((HD15.trans (hb6.mono HD15.size)).mono HB.out.size)⟩
                exact absurd h1 HX1.out
              case measure => simp [intOf]; omega
            · have HCCC : Hid (codeTo M o.a (k + 1) = 3) := HC3.out k hX1 (by rw [HPLC.out, hcb2, decide_eq_true HFF.out]; rfl)
              have HX1 : Hid (¬ X % 2 = 1) := hX1
              simp only [hcb2] at hca
              have HCB : Hid (∀ wX, Below wr.heap.size wr wX → Calls Tryz.prog 115 #[.agg #[.slice s.a1 M.mem.length s.c1, .slice s.a2 M.pend.length s.c2, .slice s.a3 M.tlb.length s.c3, .slice s.a4 M.wc.length s.c4], .int .i64 L, .int .i64 (Q + (A : Int) % 16 * cL), .int .i64 cL] wX fun e w' => e = .returned (.bool true) ∧ Below wX.heap.size wX w') := hca
              clear hX1 hcb2 hca
              go_wp2_with fail
              refine wp_region_held_drew (S := (fun wX => (wX.cell? ⟨w.heap.size + 1, 1, none⟩ = some (.int .i64 A) ∧ wX.cell? ⟨w.heap.size + 1, 3, none⟩ = some (.int .u64 Wd)) ∧ (wX.cell? ⟨gp, k * 3, none⟩ = some (.int .i64 F) ∧ wX.cell? ⟨gp, k * 3 + 1, none⟩ = some (.int .i64 L) ∧ wX.cell? ⟨gp, k * 3 + 2, none⟩ = some (.int .i64 Q)))) (by kernel_rfl) (HKK.out _ ((Below.refl _ _).drew)) (fun hHeld => ?_)
              refine wpAnyH_take (i := 0) (v := ?_) rfl (by kernel_rfl) (by kernel_rfl) (by kernel_rfl) (fun _ _ _ h => h) (Or.inl ⟨by rfl, ?_⟩) (by assumption) ?_
              rotate_left
              · (intro w hSw; (try dsimp only at hSw); go_simp; try with_reducible rfl)
              simp only [Act.put, List.setIfInBounds_toArray, List.set_cons_zero, List.set_cons_succ, List.getElem_toArray, List.getElem_cons_zero]
              refine wpAnyH_take (i := 1) (v := ?_) rfl (by kernel_rfl) (by kernel_rfl) (by kernel_rfl) (fun _ _ _ h => h) (Or.inl ⟨by rfl, ?_⟩) (by assumption) ?_
              rotate_left
              · (intro w hSw; (try dsimp only at hSw); go_simp; try with_reducible rfl)
              simp only [Act.put, List.setIfInBounds_toArray, List.set_cons_zero, List.set_cons_succ, List.getElem_toArray, List.getElem_cons_zero, List.getElem_cons_succ]
              refine wpAnyH_take (i := 2) (v := ?_) rfl (by kernel_rfl) (by kernel_rfl) (by kernel_rfl) (fun _ _ _ h => h) (Or.inl ⟨by rfl, ?_⟩) (by assumption) ?_
              rotate_left
              · (intro w hSw; (try dsimp only at hSw); go_simp; try with_reducible rfl)
              simp only [Act.put, List.setIfInBounds_toArray, List.set_cons_zero, List.set_cons_succ, List.getElem_toArray, List.getElem_cons_zero, List.getElem_cons_succ]
              refine wpAnyH_take (i := 3) (v := ?_) rfl (by kernel_rfl) (by kernel_rfl) (by kernel_rfl) (fun _ _ _ h => h) (Or.inl ⟨by rfl, ?_⟩) (by assumption) ?_
              rotate_left
              · (intro w hSw; (try dsimp only at hSw); go_simp; try with_reducible rfl)
              simp only [Act.put, List.setIfInBounds_toArray, List.set_cons_zero, List.set_cons_succ, List.getElem_toArray, List.getElem_cons_zero, List.getElem_cons_succ]
              refine wpAnyH_take (i := 4) (v := ?_) rfl (by kernel_rfl) (by kernel_rfl) (by kernel_rfl) (fun _ _ _ h => h) (Or.inl ⟨by rfl, ?_⟩) (by assumption) ?_
              rotate_left
              · (intro w hSw; (try dsimp only at hSw); go_simp; try with_reducible rfl)
              simp only [Act.put, List.setIfInBounds_toArray, List.set_cons_zero, List.set_cons_succ, List.getElem_toArray, List.getElem_cons_zero, List.getElem_cons_succ]
              refine wpAnyH_take (i := 5) (v := ?_) rfl (by kernel_rfl) (by kernel_rfl) (by kernel_rfl) (fun _ _ _ h => h) (Or.inl ⟨by rfl, ?_⟩) (by assumption) ?_
              rotate_left
              · (intro w hSw; (try dsimp only at hSw); go_simp; try with_reducible rfl)
              simp only [Act.put, List.setIfInBounds_toArray, List.set_cons_zero, List.set_cons_succ, List.getElem_toArray, List.getElem_cons_zero, List.getElem_cons_succ]
              refine wpAnyH_take (i := 6) (v := ?_) rfl (by kernel_rfl) (by kernel_rfl) (by kernel_rfl) (fun _ _ _ h => h) (Or.inl ⟨by rfl, ?_⟩) (by assumption) ?_
              rotate_left
              · (intro w hSw; (try dsimp only at hSw); go_simp; try with_reducible rfl)
              simp only [Act.put, List.setIfInBounds_toArray, List.set_cons_zero, List.set_cons_succ, List.getElem_toArray, List.getElem_cons_zero, List.getElem_cons_succ]
              refine wpAnyH_take (i := 7) (v := ?_) rfl (by kernel_rfl) (by kernel_rfl) (by kernel_rfl) (fun _ _ _ h => h) (Or.inl ⟨by rfl, ?_⟩) (by assumption) ?_
              rotate_left
              · (intro w hSw; (try dsimp only at hSw); go_simp; try with_reducible rfl)
              simp only [Act.put, List.setIfInBounds_toArray, List.set_cons_zero, List.set_cons_succ, List.getElem_toArray, List.getElem_cons_zero, List.getElem_cons_succ]
              refine wpAnyH_take (i := 8) (v := ?_) rfl (by kernel_rfl) (by kernel_rfl) (by kernel_rfl) (fun _ _ _ h => h) (Or.inl ⟨by rfl, ?_⟩) (by assumption) ?_
              rotate_left
              · (intro w hSw; (try dsimp only at hSw); go_simp; try with_reducible rfl)
              simp only [Act.put, List.setIfInBounds_toArray, List.set_cons_zero, List.set_cons_succ, List.getElem_toArray, List.getElem_cons_zero, List.getElem_cons_succ]
              refine wpAnyH_done (by kernel_rfl) ?_ _
              go_wp2_with fail
              refine (hcl _).mono ?_
              rintro e w5 ⟨rfl, hw5⟩
              obtain rfl := hw5.symm
              clear hHeld
              go_wp2_with fail
              refine wp_region_held_drew (S := (fun wX => (wX.cell? ⟨w.heap.size + 1, 1, none⟩ = some (.int .i64 A) ∧ wX.cell? ⟨w.heap.size + 1, 3, none⟩ = some (.int .u64 Wd)) ∧ (wX.cell? ⟨gp, k * 3, none⟩ = some (.int .i64 F) ∧ wX.cell? ⟨gp, k * 3 + 1, none⟩ = some (.int .i64 L) ∧ wX.cell? ⟨gp, k * 3 + 2, none⟩ = some (.int .i64 Q)))) (by kernel_rfl) (HKK.out _ ((Below.refl _ _).drew.drew)) (fun hHeld => ?_)
              refine wpAnyH_take (i := 0) (v := ?_) rfl (by kernel_rfl) (by kernel_rfl) (by kernel_rfl) (fun _ _ _ h => h) (Or.inl ⟨by rfl, ?_⟩) (by assumption) ?_
              rotate_left
              · (intro w hSw; (try dsimp only at hSw); go_simp; try with_reducible rfl)
              simp only [Act.put, List.setIfInBounds_toArray, List.set_cons_zero, List.set_cons_succ, List.getElem_toArray, List.getElem_cons_zero]
              refine wpAnyH_take (i := 1) (v := ?_) rfl (by kernel_rfl) (by kernel_rfl) (by kernel_rfl) (fun _ _ _ h => h) (Or.inl ⟨by rfl, ?_⟩) (by assumption) ?_
              rotate_left
              · (intro w hSw; (try dsimp only at hSw); go_simp; try with_reducible rfl)
              simp only [Act.put, List.setIfInBounds_toArray, List.set_cons_zero, List.set_cons_succ, List.getElem_toArray, List.getElem_cons_zero, List.getElem_cons_succ]
              refine wpAnyH_take (i := 2) (v := ?_) rfl (by kernel_rfl) (by kernel_rfl) (by kernel_rfl) (fun _ _ _ h => h) (Or.inl ⟨by rfl, ?_⟩) (by assumption) ?_
              rotate_left
              · (intro w hSw; (try dsimp only at hSw); go_simp; try with_reducible rfl)
              simp only [Act.put, List.setIfInBounds_toArray, List.set_cons_zero, List.set_cons_succ, List.getElem_toArray, List.getElem_cons_zero, List.getElem_cons_succ]
              refine wpAnyH_take (i := 3) (v := ?_) rfl (by kernel_rfl) (by kernel_rfl) (by kernel_rfl) (fun _ _ _ h => h) (Or.inl ⟨by rfl, ?_⟩) (by assumption) ?_
              rotate_left
              · (intro w hSw; (try dsimp only at hSw); go_simp; try with_reducible rfl)
              simp only [Act.put, List.setIfInBounds_toArray, List.set_cons_zero, List.set_cons_succ, List.getElem_toArray, List.getElem_cons_zero, List.getElem_cons_succ]
              refine wpAnyH_take (i := 4) (v := ?_) rfl (by kernel_rfl) (by kernel_rfl) (by kernel_rfl) (fun _ _ _ h => h) (Or.inl ⟨by rfl, ?_⟩) (by assumption) ?_
              rotate_left
              · (intro w hSw; (try dsimp only at hSw); go_simp; try with_reducible rfl)
              simp only [Act.put, List.setIfInBounds_toArray, List.set_cons_zero, List.set_cons_succ, List.getElem_toArray, List.getElem_cons_zero, List.getElem_cons_succ]
              refine wpAnyH_take (i := 5) (v := ?_) rfl (by kernel_rfl) (by kernel_rfl) (by kernel_rfl) (fun _ _ _ h => h) (Or.inl ⟨by rfl, ?_⟩) (by assumption) ?_
              rotate_left
              · (intro w hSw; (try dsimp only at hSw); go_simp; try with_reducible rfl)
              simp only [Act.put, List.setIfInBounds_toArray, List.set_cons_zero, List.set_cons_succ, List.getElem_toArray, List.getElem_cons_zero, List.getElem_cons_succ]
              refine wpAnyH_take (i := 6) (v := ?_) rfl (by kernel_rfl) (by kernel_rfl) (by kernel_rfl) (fun _ _ _ h => h) (Or.inl ⟨by rfl, ?_⟩) (by assumption) ?_
              rotate_left
              · (intro w hSw; (try dsimp only at hSw); go_simp; try with_reducible rfl)
              simp only [Act.put, List.setIfInBounds_toArray, List.set_cons_zero, List.set_cons_succ, List.getElem_toArray, List.getElem_cons_zero, List.getElem_cons_succ]
              refine wpAnyH_take (i := 7) (v := ?_) rfl (by kernel_rfl) (by kernel_rfl) (by kernel_rfl) (fun _ _ _ h => h) (Or.inl ⟨by rfl, ?_⟩) (by assumption) ?_
              rotate_left
              · (intro w hSw; (try dsimp only at hSw); go_simp; try with_reducible rfl)
              simp only [Act.put, List.setIfInBounds_toArray, List.set_cons_zero, List.set_cons_succ, List.getElem_toArray, List.getElem_cons_zero, List.getElem_cons_succ]
              refine wpAnyH_take (i := 8) (v := ?_) rfl (by kernel_rfl) (by kernel_rfl) (by kernel_rfl) (fun _ _ _ h => h) (Or.inl ⟨by rfl, ?_⟩) (by assumption) ?_
              rotate_left
              · (intro w hSw; (try dsimp only at hSw); go_simp; try with_reducible rfl)
              simp only [Act.put, List.setIfInBounds_toArray, List.set_cons_zero, List.set_cons_succ, List.getElem_toArray, List.getElem_cons_zero, List.getElem_cons_succ]
              refine wpAnyH_take (i := 9) (v := ?_) rfl (by kernel_rfl) (by kernel_rfl) (by kernel_rfl) (fun _ _ _ h => h) (Or.inl ⟨by rfl, ?_⟩) (by assumption) ?_
              rotate_left
              · (intro w hSw; (try dsimp only at hSw); go_simp; try with_reducible rfl)
              simp only [Act.put, List.setIfInBounds_toArray, List.set_cons_zero, List.set_cons_succ, List.getElem_toArray, List.getElem_cons_zero, List.getElem_cons_succ]
              refine wpAnyH_take (i := 10) (v := ?_) rfl (by kernel_rfl) (by kernel_rfl) (by kernel_rfl) (fun _ _ _ h => h) (Or.inl ⟨by rfl, ?_⟩) (by assumption) ?_
              rotate_left
              · (intro w hSw; (try dsimp only at hSw); go_simp; try with_reducible rfl)
              simp only [Act.put, List.setIfInBounds_toArray, List.set_cons_zero, List.set_cons_succ, List.getElem_toArray, List.getElem_cons_zero, List.getElem_cons_succ]
              refine wpAnyH_take (i := 11) (v := ?_) rfl (by kernel_rfl) (by kernel_rfl) (by kernel_rfl) (fun _ _ _ h => h) (Or.inl ⟨by rfl, ?_⟩) (by assumption) ?_
              rotate_left
              · (intro w hSw; (try dsimp only at hSw); go_simp; try with_reducible rfl)
              simp only [Act.put, List.setIfInBounds_toArray, List.set_cons_zero, List.set_cons_succ, List.getElem_toArray, List.getElem_cons_zero, List.getElem_cons_succ]
              refine wpAnyH_done (by kernel_rfl) ?_ _
              clear hHeld
              go_wp2_with fail
              refine (hbx _).mono ?_
              rintro e w6 ⟨rfl, hw6⟩
              obtain rfl := hw6.symm
              clear hw6
              go_wp2_with fail
              refine wp_region_held_drew (S := (fun wX => (wX.cell? ⟨w.heap.size + 1, 1, none⟩ = some (.int .i64 A) ∧ wX.cell? ⟨w.heap.size + 1, 3, none⟩ = some (.int .u64 Wd)) ∧ (wX.cell? ⟨gp, k * 3, none⟩ = some (.int .i64 F) ∧ wX.cell? ⟨gp, k * 3 + 1, none⟩ = some (.int .i64 L) ∧ wX.cell? ⟨gp, k * 3 + 2, none⟩ = some (.int .i64 Q)) ∧ (wX.cell? ⟨w.heap.size, 0, none⟩ = some (.slice s.a1 M.mem.length s.c1) ∧ wX.cell? ⟨w.heap.size, 1, none⟩ = some (.slice s.a2 M.pend.length s.c2) ∧ wX.cell? ⟨w.heap.size, 2, none⟩ = some (.slice s.a3 M.tlb.length s.c3) ∧ wX.cell? ⟨w.heap.size, 3, none⟩ = some (.slice s.a4 M.wc.length s.c4)))) (by kernel_rfl) (HKX.out _ HD15) (fun hHeld => ?_)
              refine wpAnyH_take (i := 0) (v := ?_) rfl (by kernel_rfl) (by kernel_rfl) (by kernel_rfl) (fun _ _ _ h => h) (Or.inl ⟨by rfl, ?_⟩) (by assumption) ?_
              rotate_left
              · (intro w hSw; (try dsimp only at hSw); go_simp; try with_reducible rfl)
              simp only [Act.put, List.setIfInBounds_toArray, List.set_cons_zero, List.set_cons_succ, List.getElem_toArray, List.getElem_cons_zero]
              refine wpAnyH_ready (rs := [1]) (by kernel_rfl) (by simp) ?_
              refine AllReadyH.cons rfl (fun K hK => ?_) AllReadyH.nil
              go_simp
              go_at_call 113
              refine (hbx _).mono ?_
              rintro e w5 ⟨rfl, hw5⟩
              obtain rfl := hw5.symm
              go_wp2_with fail
              refine hK.out _ _ (HKX.out _ HD15) (fun hHeld2 => ?_)
              clear hK K
              refine wpAnyH_take (i := 2) (v := ?_) rfl (by kernel_rfl) (by kernel_rfl) (by kernel_rfl) (fun _ _ _ h => h) (Or.inl ⟨by rfl, ?_⟩) (by assumption) ?_
              rotate_left
              · (intro w hSw; (try dsimp only at hSw); go_simp; try with_reducible rfl)
              simp only [Act.put, List.setIfInBounds_toArray, List.set_cons_zero, List.set_cons_succ, List.getElem_toArray, List.getElem_cons_zero, List.getElem_cons_succ]
              refine wpAnyH_take (i := 3) (v := ?_) rfl (by kernel_rfl) (by kernel_rfl) (by kernel_rfl) (fun _ _ _ h => h) (Or.inl ⟨by rfl, ?_⟩) (by assumption) ?_
              rotate_left
              · (intro w hSw; (try dsimp only at hSw); go_simp; try with_reducible rfl)
              simp only [Act.put, List.setIfInBounds_toArray, List.set_cons_zero, List.set_cons_succ, List.getElem_toArray, List.getElem_cons_zero, List.getElem_cons_succ]
              refine wpAnyH_take (i := 4) (v := ?_) rfl (by kernel_rfl) (by kernel_rfl) (by kernel_rfl) (fun _ _ _ h => h) (Or.inl ⟨by rfl, ?_⟩) (by assumption) ?_
              rotate_left
              · (intro w hSw; (try dsimp only at hSw); go_simp; try with_reducible rfl)
              simp only [Act.put, List.setIfInBounds_toArray, List.set_cons_zero, List.set_cons_succ, List.getElem_toArray, List.getElem_cons_zero, List.getElem_cons_succ]
              refine wpAnyH_take (i := 5) (v := ?_) rfl (by kernel_rfl) (by kernel_rfl) (by kernel_rfl) (fun _ _ _ h => h) (Or.inl ⟨by rfl, ?_⟩) (by assumption) ?_
              rotate_left
              · (intro w hSw; (try dsimp only at hSw); go_simp; try with_reducible rfl)
              simp only [Act.put, List.setIfInBounds_toArray, List.set_cons_zero, List.set_cons_succ, List.getElem_toArray, List.getElem_cons_zero, List.getElem_cons_succ]
              refine wpAnyH_take (i := 6) (v := ?_) rfl (by kernel_rfl) (by kernel_rfl) (by kernel_rfl) (fun _ _ _ h => h) (Or.inl ⟨by rfl, ?_⟩) (by assumption) ?_
              rotate_left
              · (intro w hSw; (try dsimp only at hSw); go_simp; try with_reducible rfl)
              simp only [Act.put, List.setIfInBounds_toArray, List.set_cons_zero, List.set_cons_succ, List.getElem_toArray, List.getElem_cons_zero, List.getElem_cons_succ]
              refine wpAnyH_take (i := 7) (v := ?_) rfl (by kernel_rfl) (by kernel_rfl) (by kernel_rfl) (fun _ _ _ h => h) (Or.inl ⟨by rfl, ?_⟩) (by assumption) ?_
              rotate_left
              · (intro w hSw; (try dsimp only at hSw); go_simp; try with_reducible rfl)
              simp only [Act.put, List.setIfInBounds_toArray, List.set_cons_zero, List.set_cons_succ, List.getElem_toArray, List.getElem_cons_zero, List.getElem_cons_succ]
              refine wpAnyH_take (i := 8) (v := ?_) rfl (by kernel_rfl) (by kernel_rfl) (by kernel_rfl) (fun _ _ _ h => h) (Or.inl ⟨by rfl, ?_⟩) (by assumption) ?_
              rotate_left
              · (intro w hSw; (try dsimp only at hSw); go_simp; try with_reducible rfl)
              simp only [Act.put, List.setIfInBounds_toArray, List.set_cons_zero, List.set_cons_succ, List.getElem_toArray, List.getElem_cons_zero, List.getElem_cons_succ]
              refine wpAnyH_take (i := 9) (v := ?_) rfl (by kernel_rfl) (by kernel_rfl) (by kernel_rfl) (fun _ _ _ h => h) (Or.inl ⟨by rfl, ?_⟩) (by assumption) ?_
              rotate_left
              · (intro w hSw; (try dsimp only at hSw); go_simp; try with_reducible rfl)
              simp only [Act.put, List.setIfInBounds_toArray, List.set_cons_zero, List.set_cons_succ, List.getElem_toArray, List.getElem_cons_zero, List.getElem_cons_succ]
              refine wpAnyH_take (i := 10) (v := ?_) rfl (by kernel_rfl) (by kernel_rfl) (by kernel_rfl) (fun _ _ _ h => h) (Or.inl ⟨by rfl, ?_⟩) (by assumption) ?_
              rotate_left
              · (intro w hSw; (try dsimp only at hSw); go_simp; try with_reducible rfl)
              simp only [Act.put, List.setIfInBounds_toArray, List.set_cons_zero, List.set_cons_succ, List.getElem_toArray, List.getElem_cons_zero, List.getElem_cons_succ]
              refine wpAnyH_take (i := 11) (v := ?_) rfl (by kernel_rfl) (by kernel_rfl) (by kernel_rfl) (fun _ _ _ h => h) (Or.inl ⟨by rfl, ?_⟩) (by assumption) ?_
              rotate_left
              · (intro w hSw; (try dsimp only at hSw); go_simp; try with_reducible rfl)
              simp only [Act.put, List.setIfInBounds_toArray, List.set_cons_zero, List.set_cons_succ, List.getElem_toArray, List.getElem_cons_zero, List.getElem_cons_succ]
              refine wpAnyH_ready (rs := [12]) (by kernel_rfl) (by simp) ?_
              refine AllReadyH.cons rfl (fun K hK => ?_) AllReadyH.nil
              go_simp
              go_at_call 115
              refine (HCB.out _ HD15).mono ?_
              rintro e w6 ⟨rfl, hb6⟩
              go_wp2_with fail
              refine hK.out _ _ (HKX.out _ (HD15.trans (hb6.mono HD15.size))) (fun hHeld2 => ?_)
              clear hK K
              refine wpAnyH_take (i := 13) (v := ?_) rfl (by kernel_rfl) (by kernel_rfl) (by kernel_rfl) (fun _ _ _ h => h) (Or.inl ⟨by rfl, ?_⟩) (by assumption) ?_
              rotate_left
              · (intro w hSw; (try dsimp only at hSw); go_simp; try with_reducible rfl)
              simp only [Act.put, List.setIfInBounds_toArray, List.set_cons_zero, List.set_cons_succ, List.getElem_toArray, List.getElem_cons_zero, List.getElem_cons_succ]
              refine wpAnyH_done (by kernel_rfl) ?_ _
              go_wp2_with fail
              go_roundw
              case rel =>
                refine ⟨k + 1, by omega, by rw [HCCC.out], by go_num, fun h1 h2 j hj => ?_, HB.out.trans ((HD15.trans (hb6.mono HD15.size)).mono HB.out.size)⟩
                exact absurd h1 HX1.out
              case measure => simp [intOf]; omega
        · have dF : (F == (A : Int) / 16) = false := by simpa using hF
          have HCC := HCS.out k (.inr (by rw [HPLC.out, decide_eq_false hF]; rfl))
          have HCCC : Hid (codeTo M o.a (k + 1) = _) := HCC
          have HNF : Hid (¬ (pAt ps k).fr = (A : Int) / 16) := by rw [HE.out]; exact hF
          clear hF hca HCC
          go_wp2_with fail
          refine wp_region_held_drew (S := (fun wX => (wX.cell? ⟨w.heap.size + 1, 1, none⟩ = some (.int .i64 A) ∧ wX.cell? ⟨w.heap.size + 1, 3, none⟩ = some (.int .u64 Wd)) ∧ (wX.cell? ⟨gp, k * 3, none⟩ = some (.int .i64 F) ∧ wX.cell? ⟨gp, k * 3 + 1, none⟩ = some (.int .i64 L) ∧ wX.cell? ⟨gp, k * 3 + 2, none⟩ = some (.int .i64 Q)))) (by kernel_rfl) (HKK.out _ ((Below.refl _ _).drew)) (fun hHeld => ?_)
          refine wpAnyH_take (i := 0) (v := ?_) rfl (by kernel_rfl) (by kernel_rfl) (by kernel_rfl) (fun _ _ _ h => h) (Or.inl ⟨by rfl, ?_⟩) (by assumption) ?_
          rotate_left
          · (intro w hSw; (try dsimp only at hSw); go_simp; try with_reducible rfl)
          simp only [Act.put, List.setIfInBounds_toArray, List.set_cons_zero, List.set_cons_succ, List.getElem_toArray, List.getElem_cons_zero]
          refine wpAnyH_take (i := 1) (v := ?_) rfl (by kernel_rfl) (by kernel_rfl) (by kernel_rfl) (fun _ _ _ h => h) (Or.inl ⟨by rfl, ?_⟩) (by assumption) ?_
          rotate_left
          · (intro w hSw; (try dsimp only at hSw); go_simp; try with_reducible rfl)
          simp only [Act.put, List.setIfInBounds_toArray, List.set_cons_zero, List.set_cons_succ, List.getElem_toArray, List.getElem_cons_zero, List.getElem_cons_succ]
          refine wpAnyH_take (i := 2) (v := ?_) rfl (by kernel_rfl) (by kernel_rfl) (by kernel_rfl) (fun _ _ _ h => h) (Or.inl ⟨by rfl, ?_⟩) (by assumption) ?_
          rotate_left
          · (intro w hSw; (try dsimp only at hSw); go_simp; try with_reducible rfl)
          simp only [Act.put, List.setIfInBounds_toArray, List.set_cons_zero, List.set_cons_succ, List.getElem_toArray, List.getElem_cons_zero, List.getElem_cons_succ]
          refine wpAnyH_take (i := 3) (v := ?_) rfl (by kernel_rfl) (by kernel_rfl) (by kernel_rfl) (fun _ _ _ h => h) (Or.inl ⟨by rfl, ?_⟩) (by assumption) ?_
          rotate_left
          · (intro w hSw; (try dsimp only at hSw); go_simp; try with_reducible rfl)
          simp only [Act.put, List.setIfInBounds_toArray, List.set_cons_zero, List.set_cons_succ, List.getElem_toArray, List.getElem_cons_zero, List.getElem_cons_succ]
          refine wpAnyH_take (i := 4) (v := ?_) rfl (by kernel_rfl) (by kernel_rfl) (by kernel_rfl) (fun _ _ _ h => h) (Or.inl ⟨by rfl, ?_⟩) (by assumption) ?_
          rotate_left
          · (intro w hSw; (try dsimp only at hSw); go_simp; try with_reducible rfl)
          simp only [Act.put, List.setIfInBounds_toArray, List.set_cons_zero, List.set_cons_succ, List.getElem_toArray, List.getElem_cons_zero, List.getElem_cons_succ]
          refine wpAnyH_take (i := 5) (v := ?_) rfl (by kernel_rfl) (by kernel_rfl) (by kernel_rfl) (fun _ _ _ h => h) (Or.inl ⟨by rfl, ?_⟩) (by assumption) ?_
          rotate_left
          · (intro w hSw; (try dsimp only at hSw); go_simp; try with_reducible rfl)
          simp only [Act.put, List.setIfInBounds_toArray, List.set_cons_zero, List.set_cons_succ, List.getElem_toArray, List.getElem_cons_zero, List.getElem_cons_succ]
          refine wpAnyH_take (i := 6) (v := ?_) rfl (by kernel_rfl) (by kernel_rfl) (by kernel_rfl) (fun _ _ _ h => h) (Or.inl ⟨by rfl, ?_⟩) (by assumption) ?_
          rotate_left
          · (intro w hSw; (try dsimp only at hSw); go_simp; try with_reducible rfl)
          simp only [Act.put, List.setIfInBounds_toArray, List.set_cons_zero, List.set_cons_succ, List.getElem_toArray, List.getElem_cons_zero, List.getElem_cons_succ]
          refine wpAnyH_take (i := 7) (v := ?_) rfl (by kernel_rfl) (by kernel_rfl) (by kernel_rfl) (fun _ _ _ h => h) (Or.inl ⟨by rfl, ?_⟩) (by assumption) ?_
          rotate_left
          · (intro w hSw; (try dsimp only at hSw); go_simp; try with_reducible rfl)
          simp only [Act.put, List.setIfInBounds_toArray, List.set_cons_zero, List.set_cons_succ, List.getElem_toArray, List.getElem_cons_zero, List.getElem_cons_succ]
          refine wpAnyH_take (i := 8) (v := ?_) rfl (by kernel_rfl) (by kernel_rfl) (by kernel_rfl) (fun _ _ _ h => h) (Or.inl ⟨by rfl, ?_⟩) (by assumption) ?_
          rotate_left
          · (intro w hSw; (try dsimp only at hSw); go_simp; try with_reducible rfl)
          simp only [Act.put, List.setIfInBounds_toArray, List.set_cons_zero, List.set_cons_succ, List.getElem_toArray, List.getElem_cons_zero, List.getElem_cons_succ]
          refine wpAnyH_done (by kernel_rfl) ?_ _
          go_wp2_with fail
          go_roundw
          case rel =>
            refine ⟨k + 1, by omega, by rw [HCCC.out], by go_num, fun h1 h2 j hj => ?_, HB.out.drew⟩
            by_cases e : j = k
            · rw [e]; exact HNF.out
            · exact hall.out h1 h2 j (by omega)
          case measure => simp [intOf]; omega
      · have HR := HEND.out HWZ.out (fun h1 h2 j hj => hall.out h1 h2 j (by omega))
        obtain rfl : k = ps.length := by omega
        have HRR : Hid (cde = _) := HR
        have L9 : ¬ (ps.length : Int) < (ps.length : Int) := by omega
        clear HR
        go_wp2_with fail
        go_ret
        exact ⟨by rw [HRR.out]; rfl, HBB.out.trans (bW.mono HBB.out.size)⟩
end Go.Proofs.YtiiejckfcnmhoabGreat
namespace Go.Proofs.YtiiejckfcnmhoabGreat
open Go.ChangeShapes Go.WideShapes Go.ChangeAt Go.RowKit
set_option linter.unusedVariables false
attribute [local go_sem ↓] Go.wp_at_zero Go.wp_at_succ

set_option maxRecDepth 100000 in
set_option maxHeartbeats 8000000 in
theorem stepS_dsb (s : SV) (M : Mach) (b : Nat) (A Bb W : Int) (w : World) (hs : M.Small) (hv : validB M = true) (hok : WOk M) (hop : opB M ⟨2, A, Bb, W⟩ = true) (h : MRow w b (s.mv M) M) :
    Calls Tryz.prog 14 #[.agg #[.slice s.a1 M.mem.length s.c1, .slice s.a2 M.pend.length s.c2, .slice s.a3 M.tlb.length s.c3, .slice s.a4 M.wc.length s.c4], .agg #[.int .i64 2, .int .i64 A, .int .i64 Bb, .int .u64 W]] w fun e w' => ∃ s' : SV, e = .returned (.tuple #[.agg #[.slice s'.a1 (⟨lateL M, [], M.tlb.filter (fun e => !e.doom), M.wc.filter (fun e => !e.doom)⟩ : Mach).mem.length s'.c1, .slice s'.a2 (⟨lateL M, [], M.tlb.filter (fun e => !e.doom), M.wc.filter (fun e => !e.doom)⟩ : Mach).pend.length s'.c2, .slice s'.a3 (⟨lateL M, [], M.tlb.filter (fun e => !e.doom), M.wc.filter (fun e => !e.doom)⟩ : Mach).tlb.length s'.c3, .slice s'.a4 (⟨lateL M, [], M.tlb.filter (fun e => !e.doom), M.wc.filter (fun e => !e.doom)⟩ : Mach).wc.length s'.c4], .int .i64 0]) ∧ MRow w' w.heap.size (s'.mv (⟨lateL M, [], M.tlb.filter (fun e => !e.doom), M.wc.filter (fun e => !e.doom)⟩ : Mach)) (⟨lateL M, [], M.tlb.filter (fun e => !e.doom), M.wc.filter (fun e => !e.doom)⟩ : Mach) ∧ Below w.heap.size w w' := by
  obtain ⟨iT, hiT, hzT0, hzT1, hzT2⟩ := info_parts infoTlb
  obtain ⟨iC, hiC, hzC0, hzC1, hzC2⟩ := info_parts infoWc
  have y3s := hs.t
  have y4s := hs.c
  have HLAT : Hid (∀ wX, MRow wX b (s.mv M) M → Calls Tryz.prog 69 #[.agg #[.slice s.a1 M.mem.length s.c1, .slice s.a2 M.pend.length s.c2, .slice s.a3 M.tlb.length s.c3, .slice s.a4 M.wc.length s.c4]] wX fun e w' => ∃ g c, e = .returned (.agg #[.slice (some ⟨g, 0, none⟩) M.mem.length c]) ∧ ERow eWord w' wX.heap.size (.slice (some ⟨g, 0, none⟩) M.mem.length c) (lateL M) ∧ Below wX.heap.size wX w') := fun wX hX => latest_any s M b wX hs (by have := nfr_mul M.mem.length hok.n0; omega) (fun i hi => valid_pend hv i hi) hX
  obtain ⟨wb, hwb⟩ : ∃ wb, wb = ((w.alloc (.cells #[.slice s.a1 M.mem.length s.c1, .slice s.a2 M.pend.length s.c2, .slice s.a3 M.tlb.length s.c3, .slice s.a4 M.wc.length s.c4] 36)).alloc (.cells #[.int .i64 2, .int .i64 A, .int .i64 Bb, .int .u64 W] 51)).alloc (.cells #[.slice none 0 0, .slice none 0 0, .slice none 0 0, .slice none 0 0] 36) := ⟨_, rfl⟩
  have hbb : Below w.heap.size w wb := by rw [hwb]; exact (((Below.refl _ _).alloc (Nat.le_refl _) _).alloc (by simp) _).alloc (by simp; omega) _
  have hzb : wb.heap.size = w.heap.size + 3 := by rw [hwb]; simp
  have HBOX : Hid (∀ wX, Below wb.heap.size wb wX → (wX.cell? ⟨w.heap.size, 0, none⟩ = some (.slice s.a1 M.mem.length s.c1) ∧ wX.cell? ⟨w.heap.size, 1, none⟩ = some (.slice s.a2 M.pend.length s.c2) ∧ wX.cell? ⟨w.heap.size, 2, none⟩ = some (.slice s.a3 M.tlb.length s.c3) ∧ wX.cell? ⟨w.heap.size, 3, none⟩ = some (.slice s.a4 M.wc.length s.c4)) ∧ (wX.cell? ⟨w.heap.size + 1, 0, none⟩ = some (.int .i64 2) ∧ wX.cell? ⟨w.heap.size + 1, 1, none⟩ = some (.int .i64 A) ∧ wX.cell? ⟨w.heap.size + 1, 2, none⟩ = some (.int .i64 Bb) ∧ wX.cell? ⟨w.heap.size + 1, 3, none⟩ = some (.int .u64 W)) ∧ (wX.cell? ⟨w.heap.size + 2, 0, none⟩ = some (.slice none 0 0) ∧ wX.cell? ⟨w.heap.size + 2, 1, none⟩ = some (.slice none 0 0) ∧ wX.cell? ⟨w.heap.size + 2, 2, none⟩ = some (.slice none 0 0) ∧ wX.cell? ⟨w.heap.size + 2, 3, none⟩ = some (.slice none 0 0)) ∧ (wX.frozen? ⟨w.heap.size + 2, 0, none⟩ = false ∧ wX.frozen? ⟨w.heap.size + 2, 1, none⟩ = false ∧ wX.frozen? ⟨w.heap.size + 2, 2, none⟩ = false ∧ wX.frozen? ⟨w.heap.size + 2, 3, none⟩ = false) ∧ w.heap.size < wX.heap.size ∧ w.heap.size + 1 < wX.heap.size ∧ w.heap.size + 2 < wX.heap.size) := fun wX hX => by
    have hsz := hX.size
    refine ⟨⟨?_, ?_, ?_, ?_⟩, ⟨?_, ?_, ?_, ?_⟩, ⟨?_, ?_, ?_, ?_⟩, ⟨?_, ?_, ?_, ?_⟩, by omega, by omega, by omega⟩
    iterate 12 (exact (hX.cell (by simp; omega)).trans (by rw [hwb]; simp [go_sem]))
    iterate 4 (exact (hX.frozen (by simp; omega)).trans (by rw [hwb]; simp [go_sem]))
  have hvm := specValid_any s M b wb hs (h.below hbb)
  rw [hv, hwb] at hvm
  have HM : Hid (∀ wX, Below wb.heap.size wb wX → MRow wX b (s.mv M) M) := fun wX hX => h.below (hbb.trans (hX.mono (by omega)))
  have HCP : Hid (∀ wX, Below wb.heap.size wb wX → _) := fun wX hX => copyM_any s M b wX hs (HM.out wX hX)
  have HWF : Hid (∀ wX, Calls Tryz.prog 66 #[.agg #[.slice s.a1 M.mem.length s.c1, .slice s.a2 M.pend.length s.c2, .slice s.a3 M.tlb.length s.c3, .slice s.a4 M.wc.length s.c4], .agg #[.int .i64 2, .int .i64 A, .int .i64 Bb, .int .u64 W]] wX fun e w' => e = .returned (.bool (opB M ⟨2, A, Bb, W⟩)) ∧ Below wX.heap.size wX w') := fun wX => wellS_any s M 2 A Bb W wX hs
  have HWB : Hid (wb = _) := hwb
  have HBB : Hid (Below _ w wb) := hbb
  have HZ : Hid (wb.heap.size = w.heap.size + 3) := hzb
  have HVV : Hid (validB M = true) := hv
  clear hwb hbb hzb h hv
  go_enter Tryz.func14, Tryz.ntmps14
  go_wp2_with fail
  refine hvm.mono ?_
  rintro e w1 ⟨rfl, hb1'⟩
  have hb1 : Below wb.heap.size wb w1 := by rw [HWB.out]; exact hb1'
  have HB1 : Hid (Below wb.heap.size wb w1) := hb1
  clear hb1' hvm
  obtain ⟨⟨q0, q1, q2, q3⟩, _, _, _, N0, N1, N2⟩ := HBOX.out w1 hb1
  clear hb1
  go_wp2_with fail
  refine (HCP.out w1 HB1.out).mono ?_
  rintro e w2 ⟨s1, rfl, hr2, hap2, hb2⟩
  obtain ⟨wO, hwO⟩ : ∃ wO, wO = w2.alloc (.cells #[.slice s1.a1 M.mem.length s1.c1, .slice s1.a2 M.pend.length s1.c2, .slice s1.a3 M.tlb.length s1.c3, .slice s1.a4 M.wc.length s1.c4] 36) := ⟨_, rfl⟩
  have hzO : wO.heap.size = w2.heap.size + 1 := by rw [hwO]; simp
  have b2 : Below wb.heap.size wb w2 := HB1.out.trans (hb2.mono HB1.out.size)
  have bO : Below wb.heap.size wb wO := by rw [hwO]; exact b2.alloc b2.size _
  have rO : MRow wO w1.heap.size (s1.mv M) M := by rw [hwO]; exact hr2.below ((Below.refl _ _).alloc (Nat.le_refl _) _)
  have HOB : Hid (∀ wX, Below wO.heap.size wO wX → (wX.cell? ⟨w2.heap.size, 0, none⟩ = some (.slice s1.a1 M.mem.length s1.c1) ∧ wX.cell? ⟨w2.heap.size, 1, none⟩ = some (.slice s1.a2 M.pend.length s1.c2) ∧ wX.cell? ⟨w2.heap.size, 2, none⟩ = some (.slice s1.a3 M.tlb.length s1.c3) ∧ wX.cell? ⟨w2.heap.size, 3, none⟩ = some (.slice s1.a4 M.wc.length s1.c4)) ∧ (wX.frozen? ⟨w2.heap.size, 0, none⟩ = false ∧ wX.frozen? ⟨w2.heap.size, 1, none⟩ = false ∧ wX.frozen? ⟨w2.heap.size, 2, none⟩ = false ∧ wX.frozen? ⟨w2.heap.size, 3, none⟩ = false)) := fun wX hX => by
    refine ⟨⟨?_, ?_, ?_, ?_⟩, ?_, ?_, ?_, ?_⟩
    iterate 4 (exact (hX.cell (by simp; omega)).trans (by rw [hwO]; simp [go_sem]))
    iterate 4 (exact (hX.frozen (by simp; omega)).trans (by rw [hwO]; simp [go_sem]))
  obtain ⟨⟨q0, q1, q2, q3⟩, ⟨p0, p1, p2, p3⟩, _, _, N0, N1, N2⟩ := HBOX.out w2 b2
  have hwf := HWF.out wO
  rw [hop, hwO] at hwf
  have HWO : Hid (wO = _) := hwO
  have HRO : Hid (MRow wO w1.heap.size (s1.mv M) M) := rO
  have HO2 : Hid (∀ k, (s1.mv M).owns k → w1.heap.size ≤ k ∧ k < w2.heap.size) := hr2.own
  have HAP : Hid ((s1.mv M).apart) := hap2
  have HBO : Hid (Below wb.heap.size wb wO) := bO
  have HZO : Hid (wO.heap.size = w2.heap.size + 1) := hzO
  have HS12 : Hid (w1.heap.size ≤ w2.heap.size) := hb2.size
  have N3 : w.heap.size + 2 < w2.heap.size := N2
  clear hr2 hb2 hwO b2 bO rO hzO hap2
  go_wp2_with fail
  refine hwf.mono ?_
  rintro e w3 ⟨rfl, hb3'⟩
  have hb3 : Below wO.heap.size wO w3 := by rw [HWO.out]; exact hb3'
  have b3 : Below wb.heap.size wb w3 := HBO.out.trans (hb3.mono HBO.out.size)
  have HB3 : Hid (Below wb.heap.size wb w3) := b3
  have HBO3 : Hid (Below wO.heap.size wO w3) := hb3
  obtain ⟨⟨q0, q1, q2, q3⟩, ⟨p0, p1, p2, p3⟩, ⟨r0, r1, r2, r3⟩, ⟨z0, z1, z2, z3⟩, N0, N1, N2⟩ := HBOX.out w3 b3
  obtain ⟨⟨o0, o1, o2, o3⟩, y0, y1, y2, y3⟩ := HOB.out w3 hb3
  clear hwf hb3' hb3 b3
  clear q0 q1 q2 q3 r0 r1 r2 r3 z0 z1 z2 z3 o0 o1 o2 o3 y0 y1 y2 y3
  go_wp2_with fail
  obtain ⟨wE, hwE⟩ : ∃ wE, wE = (w3.alloc (.cells #[] 81)).alloc (.cells #[] 113) := ⟨_, rfl⟩
  have hzE : wE.heap.size = w3.heap.size + 2 := by rw [hwE]; simp
  have bE3 : Below w3.heap.size w3 wE := by rw [hwE]; exact ((Below.refl _ _).alloc (Nat.le_refl _) _).alloc (by simp) _
  have HBwE : Hid (Below wb.heap.size wb wE) := HB3.out.trans (bE3.mono HB3.out.size)
  have HOE : Hid (Below wO.heap.size wO wE) := HBO3.out.trans (bE3.mono HBO3.out.size)
  have rT0 : ERow eTlb wE wb.heap.size (.slice (some ⟨w3.heap.size, 0, none⟩) 0 0) [] := by
    rw [hwE]
    exact (ERow.empty eTlb w3 wb.heap.size HB3.out.size).below ((Below.refl _ _).alloc (Nat.le_refl _) _)
  have rW0 : ERow eWc wE wb.heap.size (.slice (some ⟨w3.heap.size + 1, 0, none⟩) 0 0) [] := by
    rw [hwE]
    have h := ERow.empty eWc (w3.alloc (.cells #[] 81)) wb.heap.size (by have := HB3.out.size; simp; omega)
    rw [show (w3.alloc (.cells #[] 81)).heap.size = w3.heap.size + 1 by simp] at h
    exact h
  have HT0 : Hid (ERow eTlb wE wb.heap.size (.slice (some ⟨w3.heap.size, 0, none⟩) 0 0) []) := rT0
  have HW0 : Hid (ERow eWc wE wb.heap.size (.slice (some ⟨w3.heap.size + 1, 0, none⟩) 0 0) []) := rW0
  have HZwE : Hid (wb.heap.size ≤ w3.heap.size ∧ wE.heap.size = w3.heap.size + 2) := ⟨HB3.out.size, hzE⟩
  rw [← hwE]
  have HWE : Hid (wE = _) := hwE
  clear hwE hzE bE3 rT0 rW0
  go_loopw [8, 10] (fun vv iv wr => ∃ t gv cv : Nat, t ≤ M.tlb.length ∧ iv = .int .i64 t ∧ vv = .slice (some ⟨gv, 0, none⟩) (keepT M.tlb t).length cv ∧ ERow eTlb wr wb.heap.size (.slice (some ⟨gv, 0, none⟩) (keepT M.tlb t).length cv) (keepT M.tlb t) ∧ (gv = w3.heap.size ∨ wE.heap.size ≤ gv) ∧ Touch (fun k => k = w3.heap.size) wE wr) (fun _ iv _ => M.tlb.length - (intOf iv).toNat)
  case atStart =>
    refine ⟨0, w3.heap.size, 0, Nat.zero_le _, rfl, ?_, ?_, .inl rfl, Touch.none _⟩
    · rfl
    · exact HT0.out
  case round =>
    obtain ⟨t, gv, cv, ht, rfl, rfl, hrow, hgv, htc⟩ := hrel
    have hsz := htc.size
    have bW : Below wb.heap.size wb wr := Touch.below HBwE.out htc HBwE.out.size (fun k hk => by have := HZwE.out; omega)
    have hszb := bW.size
    obtain ⟨⟨q0, q1, q2, q3⟩, ⟨p0, p1, p2, p3⟩, _, _, N0, N1, N2⟩ := HBOX.out wr bW
    have hKL : (keepT M.tlb t).length ≤ t := keepT_le M.tlb t
    by_cases hlt : t < M.tlb.length
    · obtain ⟨E0, hE⟩ : ∃ E0, eAt eTlb M.tlb t = E0 := ⟨_, rfl⟩
      obtain ⟨P, S, O, R, D⟩ := E0
      obtain ⟨g, hg1, hg2⟩ := tlbS_cells (show ERow eTlb wr b (.slice s.a3 M.tlb.length s.c3) M.tlb from (HM.out wr bW).t)
      obtain ⟨hae, hgl⟩ := hg1 (by omega)
      obtain ⟨k0, k1, k2, k3, k4⟩ := hg2 t P S O R D hlt hE wr rfl
      rw [hae] at q2
      have HE : Hid (eAt eTlb M.tlb t = _) := hE
      have L1 : (0 : Int) ≤ (t : Int) := by omega
      have L2 : (t : Int) < (M.tlb.length : Int) := by omega
      have HTC : Hid (Touch (fun k => k = w3.heap.size) wE wr) := htc
      have HGV : Hid (gv = w3.heap.size ∨ wE.heap.size ≤ gv) := hgv
      have HROW : Hid (ERow eTlb wr wb.heap.size (.slice (some ⟨gv, 0, none⟩) (keepT M.tlb t).length cv) (keepT M.tlb t)) := hrow
      clear hE hg1 hg2 hae hrow htc hgv bW
      have hks := keepT_succ M.tlb t hlt
      rw [show eAt eTE M.tlb t = ⟨P, S, O, R, D⟩ from HE.out] at hks
      dsimp only at hks
      cases D
      · have HKT : Hid (keepT M.tlb (t + 1) = keepT M.tlb t ++ [⟨P, S, O, R, false⟩]) := by rw [hks]; rfl
        have HEC : Hid (eTlb.enc ⟨P, S, O, R, false⟩ = [.int .i64 P, .int .i64 S, .int .i64 O, .int .i64 R, .bool false]) := (rfl : eTlb.enc ⟨P, S, O, R, false⟩ = [.int .i64 P, .int .i64 S, .int .i64 O, .int .i64 R, .bool false])
        have HY : Hid (Touch (fun k => k = w3.heap.size) wE wr) := HTC
        have HRY : Hid (ERow eTlb wr wb.heap.size (.slice (some ⟨gv, 0, none⟩) (keepT M.tlb t).length cv) (keepT M.tlb t)) := HROW
        clear hks
        have HOWN : Hid (wr.ownsRow wb.heap.size 81 5 (.slice (some ⟨gv, 0, none⟩) (keepT M.tlb t).length cv) (keepT M.tlb t).length (ecells eTlb (keepT M.tlb t))) := HRY.out
        have hyw : wb.heap.size ≤ wr.heap.size := by have := HY.out.size; have := HBwE.out.size; omega
        go_wp2_with (at_builtin; refine wpList_append_lies _ rfl (.tmp 75) (.tmp 81) 33 rfl wb.heap.size 81 iT _ 5 40 Tryz.underlying33 hiT hzT0 hzT1 hzT2 rfl (by omega) _ _ _ rfl (World.ownsRow.alloc HOWN.out _) ⟨wr.heap.size, 0, none⟩ 1 1 [.int .i64 P, .int .i64 S, .int .i64 O, .int .i64 R, .bool false] rfl rfl ?c1 ?c2 (by omega) ?c3 ?c4 ?c5 (wr.heap.size + 1) ?c6 ?_)
        case c1 => exact World.news_of_block (heap_alloc_new wr (.cells #[.int .i64 P, .int .i64 S, .int .i64 O, .int .i64 R, .bool false] 81))
        case c2 => intro u hu; simp at hu; rcases hu with rfl | rfl | rfl | rfl | rfl <;> rfl
        case c3 => unfold maxLen; omega
        case c4 => omega
        case c5 => simp; omega
        case c6 => simp
        intro g1 cap1 wn hown hgrow hat hlt3
        rw [own_slice] at hgrow hat
        have hnew : ERow eTlb wn wb.heap.size (.slice (some ⟨g1, 0, none⟩) ((keepT M.tlb t).length + 1) cap1) ((keepT M.tlb t) ++ [⟨P, S, O, R, false⟩]) := ERow.snocL (m := (keepT M.tlb t).length + 1) rfl (by rw [HEC.out]; exact hown)
        have hog : oOf (some (⟨gv, 0, none⟩ : Addr)) = some gv := rfl
        have hys := HY.out.size
        have hgn : g1 = w3.heap.size ∨ wE.heap.size ≤ g1 := by
          rcases hat with h' | h'
          · rw [hog] at h'
            obtain rfl : gv = g1 := by simpa using h'
            exact HGV.out
          · exact .inr (by omega)
        have htn : Touch (fun k => k = w3.heap.size) wE wn := HY.out.then (S' := fun k => gv = k) ⟨hgrow.os, hgrow.tape, hgrow.output, by have := hgrow.size; simp at this; omega, fun k hk hn => (hgrow.block k (by simp; omega) (fun e => hn (by rw [hog] at e; simpa using e.symm))).trans (heap_alloc_old wr _ hk)⟩ (fun k hk e => by rcases HGV.out with h' | h' <;> omega)
        have HNEW : Hid (ERow eTlb wn wb.heap.size (.slice (some ⟨g1, 0, none⟩) ((keepT M.tlb t).length + 1) cap1) ((keepT M.tlb t) ++ [⟨P, S, O, R, false⟩])) := hnew
        have HGN : Hid (g1 = w3.heap.size ∨ wE.heap.size ≤ g1) := hgn
        have HTN : Hid (Touch (fun k => k = w3.heap.size) wE wn) := htn
        clear hown hgrow hat hnew hgn htn hys k0 k1 k2 k3 k4 q0 q1 q2 q3 p0 p1 p2 p3
        go_wp2_with fail
        go_roundw
        case rel =>
          refine ⟨t + 1, g1, cap1, by omega, by go_num, ?_, ?_, HGN.out, HTN.out⟩
          · rw [HKT.out, List.length_append]; rfl
          · rw [HKT.out, List.length_append]; exact HNEW.out
        case measure => simp [intOf]; omega
      · have HKT : Hid (keepT M.tlb (t + 1) = keepT M.tlb t) := by rw [hks]; rfl
        clear hks
        go_wp2_with fail
        go_roundw
        case rel =>
          refine ⟨t + 1, gv, cv, by omega, by go_num, ?_, ?_, HGV.out, HTC.out⟩
          · rw [HKT.out]
          · rw [HKT.out]; exact HROW.out
        case measure => simp [intOf]; omega
    · obtain rfl : t = M.tlb.length := by omega
      have LF : ¬ (M.tlb.length : Int) < (M.tlb.length : Int) := by omega
      have HBwT : Hid (Below wb.heap.size wb wr) := bW
      have HROWT : Hid (ERow eTlb wr wb.heap.size (.slice (some ⟨gv, 0, none⟩) (keepT M.tlb M.tlb.length).length cv) (keepT M.tlb M.tlb.length)) := hrow
      have HGVT : Hid (gv = w3.heap.size ∨ wE.heap.size ≤ gv) := hgv
      have HTCT : Hid (Touch (fun k => k = w3.heap.size) wE wr) := htc
      have HZwT : Hid (wb.heap.size ≤ w3.heap.size + 1 ∧ wE.heap.size ≤ wr.heap.size ∧ wE.heap.size = w3.heap.size + 2) := ⟨by have := HZwE.out; omega, hsz, HZwE.out.2⟩
      clear hrow hgv htc bW hsz hszb hKL hlt ht
      go_wp2_with fail
      obtain ⟨wT, e0⟩ : ∃ x, x = wr := ⟨_, rfl⟩
      subst e0
      obtain ⟨gT, e0⟩ : ∃ x, x = gv := ⟨_, rfl⟩
      subst e0
      obtain ⟨cT, e0⟩ : ∃ x, x = cv := ⟨_, rfl⟩
      subst e0
      clear q0 q1 q2 q3 p0 p1 p2 p3 N0 N1 N2 LF
      go_loopw [9, 11] (fun vv iv wr => ∃ t gv cv : Nat, t ≤ M.wc.length ∧ iv = .int .i64 t ∧ vv = .slice (some ⟨gv, 0, none⟩) (keepW M.wc t).length cv ∧ ERow eWc wr wb.heap.size (.slice (some ⟨gv, 0, none⟩) (keepW M.wc t).length cv) (keepW M.wc t) ∧ (gv = (w3.heap.size + 1) ∨ wT.heap.size ≤ gv) ∧ Touch (fun k => k = (w3.heap.size + 1)) wT wr) (fun _ iv _ => M.wc.length - (intOf iv).toNat)
      case atStart =>
        refine ⟨0, w3.heap.size + 1, 0, Nat.zero_le _, rfl, ?_, ?_, .inl rfl, Touch.none _⟩
        · rfl
        · exact HW0.out.touch HTCT.out (fun k h1 h2 => by simp [Value.ownBlock] at h1; omega)
      case round =>
        obtain ⟨t, gv, cv, ht, rfl, rfl, hrow, hgv, htc⟩ := hrel
        have hsz := htc.size
        have bW : Below wb.heap.size wb wr := Touch.below HBwT.out htc HBwT.out.size (fun k hk => by have := HZwT.out; omega)
        have hszb := bW.size
        obtain ⟨⟨q0, q1, q2, q3⟩, ⟨p0, p1, p2, p3⟩, _, _, N0, N1, N2⟩ := HBOX.out wr bW
        have hKL : (keepW M.wc t).length ≤ t := keepW_le M.wc t
        by_cases hlt : t < M.wc.length
        · obtain ⟨E0, hE⟩ : ∃ E0, eAt eWc M.wc t = E0 := ⟨_, rfl⟩
          obtain ⟨L, P, T, D⟩ := E0
          obtain ⟨g, hg1, hg2⟩ := wcS_cells (show ERow eWc wr b (.slice s.a4 M.wc.length s.c4) M.wc from (HM.out wr bW).c)
          obtain ⟨hae, hgl⟩ := hg1 (by omega)
          obtain ⟨k0, k1, k2, k3⟩ := hg2 t L P T D hlt hE wr rfl
          rw [hae] at q3
          have HE : Hid (eAt eWc M.wc t = _) := hE
          have L1 : (0 : Int) ≤ (t : Int) := by omega
          have L2 : (t : Int) < (M.wc.length : Int) := by omega
          have HTC : Hid (Touch (fun k => k = (w3.heap.size + 1)) wT wr) := htc
          have HGV : Hid (gv = (w3.heap.size + 1) ∨ wT.heap.size ≤ gv) := hgv
          have HROW : Hid (ERow eWc wr wb.heap.size (.slice (some ⟨gv, 0, none⟩) (keepW M.wc t).length cv) (keepW M.wc t)) := hrow
          clear hE hg1 hg2 hae hrow htc hgv bW
          have hks := keepW_succ M.wc t hlt
          rw [show eAt eWE M.wc t = ⟨L, P, T, D⟩ from HE.out] at hks
          dsimp only at hks
          cases D
          · have HKT : Hid (keepW M.wc (t + 1) = keepW M.wc t ++ [⟨L, P, T, false⟩]) := by rw [hks]; rfl
            have HEC : Hid (eWc.enc ⟨L, P, T, false⟩ = [.int .i64 L, .int .i64 P, .int .i64 T, .bool false]) := (rfl : eWc.enc ⟨L, P, T, false⟩ = [.int .i64 L, .int .i64 P, .int .i64 T, .bool false])
            have HY : Hid (Touch (fun k => k = (w3.heap.size + 1)) wT wr) := HTC
            have HRY : Hid (ERow eWc wr wb.heap.size (.slice (some ⟨gv, 0, none⟩) (keepW M.wc t).length cv) (keepW M.wc t)) := HROW
            clear hks
            have HOWN : Hid (wr.ownsRow wb.heap.size 113 4 (.slice (some ⟨gv, 0, none⟩) (keepW M.wc t).length cv) (keepW M.wc t).length (ecells eWc (keepW M.wc t))) := HRY.out
            have hyw : wb.heap.size ≤ wr.heap.size := by have := HY.out.size; have := HBwT.out.size; omega
            go_wp2_with (at_builtin; refine wpList_append_lies _ rfl (.tmp 97) (.tmp 103) 34 rfl wb.heap.size 113 iC _ 4 32 Tryz.underlying34 hiC hzC0 hzC1 hzC2 rfl (by omega) _ _ _ rfl (World.ownsRow.alloc HOWN.out _) ⟨wr.heap.size, 0, none⟩ 1 1 [.int .i64 L, .int .i64 P, .int .i64 T, .bool false] rfl rfl ?c1 ?c2 (by omega) ?c3 ?c4 ?c5 (wr.heap.size + 1) ?c6 ?_)
            case c1 => exact World.news_of_block (heap_alloc_new wr (.cells #[.int .i64 L, .int .i64 P, .int .i64 T, .bool false] 113))
            case c2 => intro u hu; simp at hu; rcases hu with rfl | rfl | rfl | rfl <;> rfl
            case c3 => unfold maxLen; omega
            case c4 => omega
            case c5 => simp; omega
            case c6 => simp
            intro g1 cap1 wn hown hgrow hat hlt3
            rw [own_slice] at hgrow hat
            have hnew : ERow eWc wn wb.heap.size (.slice (some ⟨g1, 0, none⟩) ((keepW M.wc t).length + 1) cap1) ((keepW M.wc t) ++ [⟨L, P, T, false⟩]) := ERow.snocL (m := (keepW M.wc t).length + 1) rfl (by rw [HEC.out]; exact hown)
            have hog : oOf (some (⟨gv, 0, none⟩ : Addr)) = some gv := rfl
            have hys := HY.out.size
            have hgn : g1 = (w3.heap.size + 1) ∨ wT.heap.size ≤ g1 := by
              rcases hat with h' | h'
              · rw [hog] at h'
                obtain rfl : gv = g1 := by simpa using h'
                exact HGV.out
              · exact .inr (by omega)
            have htn : Touch (fun k => k = (w3.heap.size + 1)) wT wn := HY.out.then (S' := fun k => gv = k) ⟨hgrow.os, hgrow.tape, hgrow.output, by have := hgrow.size; simp at this; omega, fun k hk hn => (hgrow.block k (by simp; omega) (fun e => hn (by rw [hog] at e; simpa using e.symm))).trans (heap_alloc_old wr _ hk)⟩ (fun k hk e => by rcases HGV.out with h' | h' <;> omega)
            have HNEW : Hid (ERow eWc wn wb.heap.size (.slice (some ⟨g1, 0, none⟩) ((keepW M.wc t).length + 1) cap1) ((keepW M.wc t) ++ [⟨L, P, T, false⟩])) := hnew
            have HGN : Hid (g1 = (w3.heap.size + 1) ∨ wT.heap.size ≤ g1) := hgn
            have HTN : Hid (Touch (fun k => k = (w3.heap.size + 1)) wT wn) := htn
            clear hown hgrow hat hnew hgn htn hys k0 k1 k2 k3 q0 q1 q2 q3 p0 p1 p2 p3
            go_wp2_with fail
            go_roundw
            case rel =>
              refine ⟨t + 1, g1, cap1, by omega, by go_num, ?_, ?_, HGN.out, HTN.out⟩
              · rw [HKT.out, List.length_append]; rfl
              · rw [HKT.out, List.length_append]; exact HNEW.out
            case measure => simp [intOf]; omega
          · have HKT : Hid (keepW M.wc (t + 1) = keepW M.wc t) := by rw [hks]; rfl
            clear hks
            go_wp2_with fail
            go_roundw
            case rel =>
              refine ⟨t + 1, gv, cv, by omega, by go_num, ?_, ?_, HGV.out, HTC.out⟩
              · rw [HKT.out]
              · rw [HKT.out]; exact HROW.out
            case measure => simp [intOf]; omega
        · obtain rfl : t = M.wc.length := by omega
          have LF : ¬ (M.wc.length : Int) < (M.wc.length : Int) := by omega
          have HLT := HLAT.out wr (HM.out wr bW)
          have HBwW : Hid (Below wb.heap.size wb wr) := bW
          have HROWW : Hid (ERow eWc wr wb.heap.size (.slice (some ⟨gv, 0, none⟩) (keepW M.wc M.wc.length).length cv) (keepW M.wc M.wc.length)) := hrow
          have HGVW : Hid (gv = w3.heap.size + 1 ∨ wT.heap.size ≤ gv) := hgv
          have HTCW : Hid (Touch (fun k => k = w3.heap.size + 1) wT wr) := htc
          have HSW : Hid (wT.heap.size ≤ wr.heap.size) := hsz
          clear hrow hgv htc bW hsz hszb hKL hlt ht
          go_wp2_with fail
          refine HLT.mono ?_
          rintro e w4 ⟨g4, c4, rfl, hr4, hb4⟩
          have HR4 : Hid (ERow eWord w4 wr.heap.size (.slice (some ⟨g4, 0, none⟩) M.mem.length c4) (lateL M)) := hr4
          have HB4 : Hid (Below wr.heap.size wr w4) := hb4
          have HBN4 : Hid (Below wb.heap.size wb w4) := HBwW.out.trans (hb4.mono HBwW.out.size)
          obtain ⟨_, _, ⟨r0, r1, r2, r3⟩, ⟨z0, z1, z2, z3⟩, N0, N1, N2⟩ := HBOX.out w4 HBN4.out
          clear hr4 hb4 HLT q0 q1 q2 q3 p0 p1 p2 p3
          go_wp2_with fail
          obtain ⟨wS, hwS⟩ : ∃ wS, wS = ((((w4.setCell ⟨w.heap.size + 1 + 1, 0, none⟩ (.slice (some ⟨g4, 0, none⟩) M.mem.length c4)).setCell ⟨w.heap.size + 1 + 1, 1, none⟩ (.slice (some ⟨w4.heap.size, 0, none⟩) 0 0)).setCell ⟨w.heap.size + 1 + 1, 2, none⟩ (.slice (some ⟨gT, 0, none⟩) (keepT M.tlb M.tlb.length).length cT)).setCell ⟨w.heap.size + 1 + 1, 3, none⟩ (.slice (some ⟨gv, 0, none⟩) (keepW M.wc M.wc.length).length cv)) := ⟨_, rfl⟩
          rw [← hwS]
          have hTS : Touch (fun k => k = w.heap.size + 2) w4 wS := by
            rw [hwS]
            exact Touch.put (Touch.put (Touch.put (Touch.put (Touch.none _) _ _ (by rfl)) _ _ (by rfl)) _ _ (by rfl)) _ _ (by rfl)
          have hzS : wS.heap.size = w4.heap.size := by rw [hwS]; simp
          have f0 : wS.cell? ⟨w.heap.size + 1 + 1, 0, none⟩ = some (.slice (some ⟨g4, 0, none⟩) M.mem.length c4) := by rw [hwS]; simp [go_sem, r0]
          have f1 : wS.cell? ⟨w.heap.size + 1 + 1, 1, none⟩ = some (.slice (some ⟨w4.heap.size, 0, none⟩) 0 0) := by rw [hwS]; simp [go_sem, r1]
          have f2 : wS.cell? ⟨w.heap.size + 1 + 1, 2, none⟩ = some (.slice (some ⟨gT, 0, none⟩) (keepT M.tlb M.tlb.length).length cT) := by rw [hwS]; simp [go_sem, r2]
          have f3 : wS.cell? ⟨w.heap.size + 1 + 1, 3, none⟩ = some (.slice (some ⟨gv, 0, none⟩) (keepW M.wc M.wc.length).length cv) := by rw [hwS]; simp [go_sem, r3]
          obtain ⟨wF, hwF⟩ : ∃ wF, wF = wS.alloc (.cells #[] 110) := ⟨_, rfl⟩
          rw [← hwF]
          have bF : Below wS.heap.size wS wF := by rw [hwF]; exact (Below.refl _ _).alloc (Nat.le_refl _) _
          have F0 : wF.cell? ⟨w.heap.size + 1 + 1, 0, none⟩ = some (.slice (some ⟨g4, 0, none⟩) M.mem.length c4) := (bF.cell (by simp; omega)).trans f0
          have F1 : wF.cell? ⟨w.heap.size + 1 + 1, 1, none⟩ = some (.slice (some ⟨w4.heap.size, 0, none⟩) 0 0) := (bF.cell (by simp; omega)).trans f1
          have F2 : wF.cell? ⟨w.heap.size + 1 + 1, 2, none⟩ = some (.slice (some ⟨gT, 0, none⟩) (keepT M.tlb M.tlb.length).length cT) := (bF.cell (by simp; omega)).trans f2
          have F3 : wF.cell? ⟨w.heap.size + 1 + 1, 3, none⟩ = some (.slice (some ⟨gv, 0, none⟩) (keepW M.wc M.wc.length).length cv) := (bF.cell (by simp; omega)).trans f3
          have e1 := HZ.out
          have e2 := HBwW.out.size
          have e3 := HZwT.out
          have e4 := HSW.out
          have rw_ : ERow eWord wF w.heap.size (.slice (some ⟨g4, 0, none⟩) M.mem.length c4) (lateL M) := ((HR4.out.touch hTS (fun k h1 h2 => by have := (HR4.out.own k h1).1; omega)).below bF).rebase (by omega)
          have rp_ : ERow eWrite wF w.heap.size (.slice (some ⟨w4.heap.size, 0, none⟩) 0 0) [] := by
            have h := ERow.empty eWrite wS w.heap.size (by omega)
            rw [hzS] at h
            rw [hwF]
            exact h
          have rt_ : ERow eTlb wF w.heap.size (.slice (some ⟨gT, 0, none⟩) (keepT M.tlb M.tlb.length).length cT) (keepT M.tlb M.tlb.length) := by
            refine (((((HROWT.out.touch HTCW.out (fun k h1 h2 => ?_)).below HB4.out).touch hTS (fun k h1 h2 => ?_)).below bF)).rebase (by omega)
            · have h3 : gT = k := by simpa [Value.ownBlock] using h1
              rcases HGVT.out with h4 | h4 <;> omega
            · have := (HROWT.out.own k h1).1; omega
          have rc_ : ERow eWc wF w.heap.size (.slice (some ⟨gv, 0, none⟩) (keepW M.wc M.wc.length).length cv) (keepW M.wc M.wc.length) := by
            refine (((HROWW.out.below HB4.out).touch hTS (fun k h1 h2 => ?_)).below bF).rebase (by omega)
            have := (HROWW.out.own k h1).1; omega
          rw [keepT_end] at rt_ F2
          rw [keepW_end] at rc_ F3
          have hll := lateL_length M
          rw [← hll] at rw_ F0
          have hbF : Below w.heap.size w wF := (Touch.below (HBB.out.trans (HBN4.out.mono HBB.out.size)) hTS (by omega) (fun k hk => by omega)).trans (bF.mono (by omega))
          exact bodyPost_ret (v := .tuple #[.agg #[.slice (some ⟨g4, 0, none⟩) (lateL M).length c4, .slice (some ⟨w4.heap.size, 0, none⟩) 0 0, .slice (some ⟨gT, 0, none⟩) (M.tlb.filter (fun e => !e.doom)).length cT, .slice (some ⟨gv, 0, none⟩) (M.wc.filter (fun e => !e.doom)).length cv], .int .i64 0]) (by simp [results, Tryz.results14, go_sem, F0, F1, F2, F3]) rfl ⟨(⟨some ⟨g4, 0, none⟩, c4, some ⟨w4.heap.size, 0, none⟩, 0, some ⟨gT, 0, none⟩, cT, some ⟨gv, 0, none⟩, cv⟩ : SV), rfl, ⟨rw_, rp_, rt_, rc_⟩, hbF⟩
end Go.Proofs.YtiiejckfcnmhoabGreat
namespace Go.Proofs.YtiiejckfcnmhoabGreat
open Go.ChangeShapes Go.WideShapes Go.ChangeAt Go.RowKit
set_option linter.unusedVariables false
attribute [local go_sem ↓] Go.wp_at_zero Go.wp_at_succ

theorem ERow.rebase2 {α : Type} {E : Elt α} {w : World} {base base' : Nat} {v : Value} {xs : List α} (h : ERow E w base v xs) (hb : ∀ k, v.ownBlock = some k → base' ≤ k) : ERow E w base' v xs := by
  refine ⟨h.1, ?_⟩
  rcases h.2 with hh | ⟨g, cap, cur, e, hg, r⟩
  · exact .inl hh
  · exact .inr ⟨g, cap, cur, e, hb g (by rw [e]; rfl), r⟩
def mapT (a b : Int) (xs : List TlbE) (t : Nat) : List TlbE := (xs.take t).map (doomT a b)
def mapW (a b : Int) (xs : List WcE) (t : Nat) : List WcE := (xs.take t).map (doomW a b)
theorem mapT_succ (a b : Int) (xs : List TlbE) (t : Nat) (h : t < xs.length) : mapT a b xs (t + 1) = mapT a b xs t ++ [doomT a b (eAt eTlb xs t)] := by unfold mapT; rw [take_snoc eTlb xs t h, List.map_append]; rfl
theorem mapW_succ (a b : Int) (xs : List WcE) (t : Nat) (h : t < xs.length) : mapW a b xs (t + 1) = mapW a b xs t ++ [doomW a b (eAt eWc xs t)] := by unfold mapW; rw [take_snoc eWc xs t h, List.map_append]; rfl
theorem mapT_end (a b : Int) (xs : List TlbE) : mapT a b xs xs.length = xs.map (doomT a b) := by unfold mapT; rw [List.take_length]
theorem mapW_end (a b : Int) (xs : List WcE) : mapW a b xs xs.length = xs.map (doomW a b) := by unfold mapW; rw [List.take_length]
theorem mapT_le (a b : Int) (xs : List TlbE) (t : Nat) : (mapT a b xs t).length ≤ t := by unfold mapT; rw [List.length_map, List.length_take]; omega
theorem mapW_le (a b : Int) (xs : List WcE) (t : Nat) : (mapW a b xs t).length ≤ t := by unfold mapW; rw [List.length_map, List.length_take]; omega
theorem op3_rng {M : Mach} {A B W : Int} (h : opB M ⟨3, A, B, W⟩ = true) : (0 ≤ A ∧ A < 100000) ∧ (0 ≤ B ∧ B < 100000) := by
  unfold opB at h
  rw [if_neg (show ¬ (3 : Int) = 1 by decide), if_neg (show ¬ (3 : Int) = 2 by decide), if_pos rfl] at h
  have := of_decide_eq_true h
  dsimp only at this
  omega

set_option maxRecDepth 100000 in
set_option maxHeartbeats 8000000 in
theorem stepS_tlbi (s : SV) (M : Mach) (b : Nat) (A Bb W : Int) (w : World) (hs : M.Small) (hv : validB M = true) (hop : opB M ⟨3, A, Bb, W⟩ = true) (h : MRow w b (s.mv M) M) :
    Calls Tryz.prog 14 #[.agg #[.slice s.a1 M.mem.length s.c1, .slice s.a2 M.pend.length s.c2, .slice s.a3 M.tlb.length s.c3, .slice s.a4 M.wc.length s.c4], .agg #[.int .i64 3, .int .i64 A, .int .i64 Bb, .int .u64 W]] w fun e w' => ∃ s' : SV, e = .returned (.tuple #[.agg #[.slice s'.a1 (⟨M.mem, M.pend, M.tlb.map (doomT A Bb), M.wc.map (doomW A Bb)⟩ : Mach).mem.length s'.c1, .slice s'.a2 (⟨M.mem, M.pend, M.tlb.map (doomT A Bb), M.wc.map (doomW A Bb)⟩ : Mach).pend.length s'.c2, .slice s'.a3 (⟨M.mem, M.pend, M.tlb.map (doomT A Bb), M.wc.map (doomW A Bb)⟩ : Mach).tlb.length s'.c3, .slice s'.a4 (⟨M.mem, M.pend, M.tlb.map (doomT A Bb), M.wc.map (doomW A Bb)⟩ : Mach).wc.length s'.c4], .int .i64 0]) ∧ MRow w' w.heap.size (s'.mv (⟨M.mem, M.pend, M.tlb.map (doomT A Bb), M.wc.map (doomW A Bb)⟩ : Mach)) (⟨M.mem, M.pend, M.tlb.map (doomT A Bb), M.wc.map (doomW A Bb)⟩ : Mach) ∧ Below w.heap.size w w' := by
  obtain ⟨iT, hiT, hzT0, hzT1, hzT2⟩ := info_parts infoTlb
  obtain ⟨iC, hiC, hzC0, hzC1, hzC2⟩ := info_parts infoWc
  have y3s := hs.t
  have y4s := hs.c
  have HAB : Hid ((0 ≤ A ∧ A < 100000) ∧ (0 ≤ Bb ∧ Bb < 100000)) := op3_rng hop
  obtain ⟨wb, hwb⟩ : ∃ wb, wb = ((w.alloc (.cells #[.slice s.a1 M.mem.length s.c1, .slice s.a2 M.pend.length s.c2, .slice s.a3 M.tlb.length s.c3, .slice s.a4 M.wc.length s.c4] 36)).alloc (.cells #[.int .i64 3, .int .i64 A, .int .i64 Bb, .int .u64 W] 51)).alloc (.cells #[.slice none 0 0, .slice none 0 0, .slice none 0 0, .slice none 0 0] 36) := ⟨_, rfl⟩
  have hbb : Below w.heap.size w wb := by rw [hwb]; exact (((Below.refl _ _).alloc (Nat.le_refl _) _).alloc (by simp) _).alloc (by simp; omega) _
  have hzb : wb.heap.size = w.heap.size + 3 := by rw [hwb]; simp
  have HBOX : Hid (∀ wX, Below wb.heap.size wb wX → (wX.cell? ⟨w.heap.size, 0, none⟩ = some (.slice s.a1 M.mem.length s.c1) ∧ wX.cell? ⟨w.heap.size, 1, none⟩ = some (.slice s.a2 M.pend.length s.c2) ∧ wX.cell? ⟨w.heap.size, 2, none⟩ = some (.slice s.a3 M.tlb.length s.c3) ∧ wX.cell? ⟨w.heap.size, 3, none⟩ = some (.slice s.a4 M.wc.length s.c4)) ∧ (wX.cell? ⟨w.heap.size + 1, 0, none⟩ = some (.int .i64 3) ∧ wX.cell? ⟨w.heap.size + 1, 1, none⟩ = some (.int .i64 A) ∧ wX.cell? ⟨w.heap.size + 1, 2, none⟩ = some (.int .i64 Bb) ∧ wX.cell? ⟨w.heap.size + 1, 3, none⟩ = some (.int .u64 W)) ∧ (wX.cell? ⟨w.heap.size + 2, 0, none⟩ = some (.slice none 0 0) ∧ wX.cell? ⟨w.heap.size + 2, 1, none⟩ = some (.slice none 0 0) ∧ wX.cell? ⟨w.heap.size + 2, 2, none⟩ = some (.slice none 0 0) ∧ wX.cell? ⟨w.heap.size + 2, 3, none⟩ = some (.slice none 0 0)) ∧ (wX.frozen? ⟨w.heap.size + 2, 0, none⟩ = false ∧ wX.frozen? ⟨w.heap.size + 2, 1, none⟩ = false ∧ wX.frozen? ⟨w.heap.size + 2, 2, none⟩ = false ∧ wX.frozen? ⟨w.heap.size + 2, 3, none⟩ = false) ∧ w.heap.size < wX.heap.size ∧ w.heap.size + 1 < wX.heap.size ∧ w.heap.size + 2 < wX.heap.size) := fun wX hX => by
    have hsz := hX.size
    refine ⟨⟨?_, ?_, ?_, ?_⟩, ⟨?_, ?_, ?_, ?_⟩, ⟨?_, ?_, ?_, ?_⟩, ⟨?_, ?_, ?_, ?_⟩, by omega, by omega, by omega⟩
    iterate 12 (exact (hX.cell (by simp; omega)).trans (by rw [hwb]; simp [go_sem]))
    iterate 4 (exact (hX.frozen (by simp; omega)).trans (by rw [hwb]; simp [go_sem]))
  have hvm := specValid_any s M b wb hs (h.below hbb)
  rw [hv, hwb] at hvm
  have HM : Hid (∀ wX, Below wb.heap.size wb wX → MRow wX b (s.mv M) M) := fun wX hX => h.below (hbb.trans (hX.mono (by omega)))
  have HCP : Hid (∀ wX, Below wb.heap.size wb wX → _) := fun wX hX => copyM_any s M b wX hs (HM.out wX hX)
  have HWF : Hid (∀ wX, Calls Tryz.prog 66 #[.agg #[.slice s.a1 M.mem.length s.c1, .slice s.a2 M.pend.length s.c2, .slice s.a3 M.tlb.length s.c3, .slice s.a4 M.wc.length s.c4], .agg #[.int .i64 3, .int .i64 A, .int .i64 Bb, .int .u64 W]] wX fun e w' => e = .returned (.bool (opB M ⟨3, A, Bb, W⟩)) ∧ Below wX.heap.size wX w') := fun wX => wellS_any s M 3 A Bb W wX hs
  have HWB : Hid (wb = _) := hwb
  have HBB : Hid (Below _ w wb) := hbb
  have HZ : Hid (wb.heap.size = w.heap.size + 3) := hzb
  have HVV : Hid (validB M = true) := hv
  clear hwb hbb hzb h hv
  go_enter Tryz.func14, Tryz.ntmps14
  go_wp2_with fail
  refine hvm.mono ?_
  rintro e w1 ⟨rfl, hb1'⟩
  have hb1 : Below wb.heap.size wb w1 := by rw [HWB.out]; exact hb1'
  have HB1 : Hid (Below wb.heap.size wb w1) := hb1
  clear hb1' hvm
  obtain ⟨⟨q0, q1, q2, q3⟩, _, _, _, N0, N1, N2⟩ := HBOX.out w1 hb1
  clear hb1
  go_wp2_with fail
  refine (HCP.out w1 HB1.out).mono ?_
  rintro e w2 ⟨s1, rfl, hr2, hap2, hb2⟩
  obtain ⟨wO, hwO⟩ : ∃ wO, wO = w2.alloc (.cells #[.slice s1.a1 M.mem.length s1.c1, .slice s1.a2 M.pend.length s1.c2, .slice s1.a3 M.tlb.length s1.c3, .slice s1.a4 M.wc.length s1.c4] 36) := ⟨_, rfl⟩
  have hzO : wO.heap.size = w2.heap.size + 1 := by rw [hwO]; simp
  have b2 : Below wb.heap.size wb w2 := HB1.out.trans (hb2.mono HB1.out.size)
  have bO : Below wb.heap.size wb wO := by rw [hwO]; exact b2.alloc b2.size _
  have rO : MRow wO w1.heap.size (s1.mv M) M := by rw [hwO]; exact hr2.below ((Below.refl _ _).alloc (Nat.le_refl _) _)
  have HOB : Hid (∀ wX, Below wO.heap.size wO wX → (wX.cell? ⟨w2.heap.size, 0, none⟩ = some (.slice s1.a1 M.mem.length s1.c1) ∧ wX.cell? ⟨w2.heap.size, 1, none⟩ = some (.slice s1.a2 M.pend.length s1.c2) ∧ wX.cell? ⟨w2.heap.size, 2, none⟩ = some (.slice s1.a3 M.tlb.length s1.c3) ∧ wX.cell? ⟨w2.heap.size, 3, none⟩ = some (.slice s1.a4 M.wc.length s1.c4)) ∧ (wX.frozen? ⟨w2.heap.size, 0, none⟩ = false ∧ wX.frozen? ⟨w2.heap.size, 1, none⟩ = false ∧ wX.frozen? ⟨w2.heap.size, 2, none⟩ = false ∧ wX.frozen? ⟨w2.heap.size, 3, none⟩ = false)) := fun wX hX => by
    refine ⟨⟨?_, ?_, ?_, ?_⟩, ?_, ?_, ?_, ?_⟩
    iterate 4 (exact (hX.cell (by simp; omega)).trans (by rw [hwO]; simp [go_sem]))
    iterate 4 (exact (hX.frozen (by simp; omega)).trans (by rw [hwO]; simp [go_sem]))
  obtain ⟨⟨q0, q1, q2, q3⟩, ⟨p0, p1, p2, p3⟩, _, _, N0, N1, N2⟩ := HBOX.out w2 b2
  have hwf := HWF.out wO
  rw [hop, hwO] at hwf
  have HWO : Hid (wO = _) := hwO
  have HRO : Hid (MRow wO w1.heap.size (s1.mv M) M) := rO
  have HO2 : Hid (∀ k, (s1.mv M).owns k → w1.heap.size ≤ k ∧ k < w2.heap.size) := hr2.own
  have HAP : Hid ((s1.mv M).apart) := hap2
  have HBO : Hid (Below wb.heap.size wb wO) := bO
  have HZO : Hid (wO.heap.size = w2.heap.size + 1) := hzO
  have HS12 : Hid (w1.heap.size ≤ w2.heap.size) := hb2.size
  have N3 : w.heap.size + 2 < w2.heap.size := N2
  clear hr2 hb2 hwO b2 bO rO hzO hap2
  go_wp2_with fail
  refine hwf.mono ?_
  rintro e w3 ⟨rfl, hb3'⟩
  have hb3 : Below wO.heap.size wO w3 := by rw [HWO.out]; exact hb3'
  have b3 : Below wb.heap.size wb w3 := HBO.out.trans (hb3.mono HBO.out.size)
  have HB3 : Hid (Below wb.heap.size wb w3) := b3
  have HBO3 : Hid (Below wO.heap.size wO w3) := hb3
  obtain ⟨⟨q0, q1, q2, q3⟩, ⟨p0, p1, p2, p3⟩, ⟨r0, r1, r2, r3⟩, ⟨z0, z1, z2, z3⟩, N0, N1, N2⟩ := HBOX.out w3 b3
  obtain ⟨⟨o0, o1, o2, o3⟩, y0, y1, y2, y3⟩ := HOB.out w3 hb3
  clear hwf hb3' hb3 b3
  clear q0 q1 q2 q3 r0 r1 r2 r3 z0 z1 z2 z3 o0 o1 o2 o3 y0 y1 y2 y3
  go_wp2_with fail
  obtain ⟨wE, hwE⟩ : ∃ wE, wE = (w3.alloc (.cells #[] 81)).alloc (.cells #[] 113) := ⟨_, rfl⟩
  have hzE : wE.heap.size = w3.heap.size + 2 := by rw [hwE]; simp
  have bE3 : Below w3.heap.size w3 wE := by rw [hwE]; exact ((Below.refl _ _).alloc (Nat.le_refl _) _).alloc (by simp) _
  have HBwE : Hid (Below wb.heap.size wb wE) := HB3.out.trans (bE3.mono HB3.out.size)
  have HOE : Hid (Below wO.heap.size wO wE) := HBO3.out.trans (bE3.mono HBO3.out.size)
  have rT0 : ERow eTlb wE wb.heap.size (.slice (some ⟨w3.heap.size, 0, none⟩) 0 0) [] := by
    rw [hwE]
    exact (ERow.empty eTlb w3 wb.heap.size HB3.out.size).below ((Below.refl _ _).alloc (Nat.le_refl _) _)
  have rW0 : ERow eWc wE wb.heap.size (.slice (some ⟨w3.heap.size + 1, 0, none⟩) 0 0) [] := by
    rw [hwE]
    have h := ERow.empty eWc (w3.alloc (.cells #[] 81)) wb.heap.size (by have := HB3.out.size; simp; omega)
    rw [show (w3.alloc (.cells #[] 81)).heap.size = w3.heap.size + 1 by simp] at h
    exact h
  have HT0 : Hid (ERow eTlb wE wb.heap.size (.slice (some ⟨w3.heap.size, 0, none⟩) 0 0) []) := rT0
  have HW0 : Hid (ERow eWc wE wb.heap.size (.slice (some ⟨w3.heap.size + 1, 0, none⟩) 0 0) []) := rW0
  have HZwE : Hid (wb.heap.size ≤ w3.heap.size ∧ wE.heap.size = w3.heap.size + 2) := ⟨HB3.out.size, hzE⟩
  rw [← hwE]
  have HWE : Hid (wE = _) := hwE
  clear hwE hzE bE3 rT0 rW0
  go_loopw [8, 12] (fun vv iv wr => ∃ t gv cv : Nat, t ≤ M.tlb.length ∧ iv = .int .i64 t ∧ vv = .slice (some ⟨gv, 0, none⟩) (mapT A Bb M.tlb t).length cv ∧ ERow eTlb wr wb.heap.size (.slice (some ⟨gv, 0, none⟩) (mapT A Bb M.tlb t).length cv) (mapT A Bb M.tlb t) ∧ (gv = w3.heap.size ∨ wE.heap.size ≤ gv) ∧ Touch (fun k => k = w3.heap.size) wE wr) (fun _ iv _ => M.tlb.length - (intOf iv).toNat)
  case atStart =>
    refine ⟨0, w3.heap.size, 0, Nat.zero_le _, rfl, ?_, ?_, .inl rfl, Touch.none _⟩
    · rfl
    · exact HT0.out
  case round =>
    obtain ⟨t, gv, cv, ht, rfl, rfl, hrow, hgv, htc⟩ := hrel
    have hsz := htc.size
    have bW : Below wb.heap.size wb wr := Touch.below HBwE.out htc HBwE.out.size (fun k hk => by have := HZwE.out; omega)
    have hszb := bW.size
    obtain ⟨⟨q0, q1, q2, q3⟩, ⟨p0, p1, p2, p3⟩, _, _, N0, N1, N2⟩ := HBOX.out wr bW
    have hKL : (mapT A Bb M.tlb t).length ≤ t := mapT_le A Bb M.tlb t
    by_cases hlt : t < M.tlb.length
    · obtain ⟨E0, hE⟩ : ∃ E0, eAt eTlb M.tlb t = E0 := ⟨_, rfl⟩
      obtain ⟨P, S, O, R, D⟩ := E0
      obtain ⟨g, hg1, hg2⟩ := tlbS_cells (show ERow eTlb wr b (.slice s.a3 M.tlb.length s.c3) M.tlb from (HM.out wr bW).t)
      obtain ⟨hae, hgl⟩ := hg1 (by omega)
      obtain ⟨k0, k1, k2, k3, k4⟩ := hg2 t P S O R D hlt hE wr rfl
      rw [hae] at q2
      have HE : Hid (eAt eTlb M.tlb t = _) := hE
      have L1 : (0 : Int) ≤ (t : Int) := by omega
      have L2 : (t : Int) < (M.tlb.length : Int) := by omega
      have HTC : Hid (Touch (fun k => k = w3.heap.size) wE wr) := htc
      have HGV : Hid (gv = w3.heap.size ∨ wE.heap.size ≤ gv) := hgv
      have HROW : Hid (ERow eTlb wr wb.heap.size (.slice (some ⟨gv, 0, none⟩) (mapT A Bb M.tlb t).length cv) (mapT A Bb M.tlb t)) := hrow
      clear hE hg1 hg2 hae hrow htc hgv bW
      have htv := valid_tlb HVV.out t hlt
      rw [show eAt eTlb M.tlb t = ⟨P, S, O, R, D⟩ from HE.out] at htv
      have hts : (0 ≤ P ∧ P < 100000) ∧ (0 ≤ S ∧ S < 100000) := by
        simp only [tlbOkB, pageOk, Bool.and_eq_true, Bool.or_eq_true, decide_eq_true_eq] at htv
        omega
      have hmt := meetS_any A Bb P S HAB.out.1 HAB.out.2 hts.1 hts.2
      rw [meets_comm] at hmt
      have hks := mapT_succ A Bb M.tlb t hlt
      rw [show eAt eTlb M.tlb t = ⟨P, S, O, R, D⟩ from HE.out, show doomT A Bb ⟨P, S, O, R, D⟩ = ⟨P, S, O, R, D || meets P S A Bb⟩ from rfl] at hks
      clear htv hts
      obtain ⟨wB, hwB⟩ : ∃ wB, wB = wr.alloc (.cells #[.int .i64 P, .int .i64 S, .int .i64 O, .int .i64 R, .bool D] 81) := ⟨_, rfl⟩
      have hzB : wB.heap.size = wr.heap.size + 1 := by rw [hwB]; simp
      have bTB : Below wr.heap.size wr wB := by rw [hwB]; exact (Below.refl _ _).alloc (Nat.le_refl _) _
      have hbx : ∀ wX, Below wB.heap.size wB wX → (wX.cell? ⟨wr.heap.size, 0, none⟩ = some (.int .i64 P) ∧ wX.cell? ⟨wr.heap.size, 1, none⟩ = some (.int .i64 S) ∧ wX.cell? ⟨wr.heap.size, 2, none⟩ = some (.int .i64 O) ∧ wX.cell? ⟨wr.heap.size, 3, none⟩ = some (.int .i64 R) ∧ wX.cell? ⟨wr.heap.size, 4, none⟩ = some (.bool D)) ∧ wX.frozen? ⟨wr.heap.size, 4, none⟩ = false := fun wX hX => by
        refine ⟨⟨?_, ?_, ?_, ?_, ?_⟩, ?_⟩
        iterate 5 (exact (hX.cell (by simp; omega)).trans (by rw [hwB]; simp [go_sem]))
        exact (hX.frozen (by simp; omega)).trans (by rw [hwB]; simp [go_sem])
      have HBX : Hid (∀ wX, Below wB.heap.size wB wX → (wX.cell? ⟨wr.heap.size, 0, none⟩ = some (.int .i64 P) ∧ wX.cell? ⟨wr.heap.size, 1, none⟩ = some (.int .i64 S) ∧ wX.cell? ⟨wr.heap.size, 2, none⟩ = some (.int .i64 O) ∧ wX.cell? ⟨wr.heap.size, 3, none⟩ = some (.int .i64 R) ∧ wX.cell? ⟨wr.heap.size, 4, none⟩ = some (.bool D)) ∧ wX.frozen? ⟨wr.heap.size, 4, none⟩ = false) := hbx
      have HWB2 : Hid (wB = _) := hwB
      have HTB : Hid (Below wr.heap.size wr wB) := bTB
      have HZB : Hid (wB.heap.size = wr.heap.size + 1) := hzB
      clear hwB hzB bTB hbx
      cases hm : meets P S A Bb <;> rw [hm] at hmt hks
      · have hkt : mapT A Bb M.tlb (t + 1) = mapT A Bb M.tlb t ++ [⟨P, S, O, R, D⟩] := by rw [hks]; simp
        have HKT : Hid (mapT A Bb M.tlb (t + 1) = mapT A Bb M.tlb t ++ [⟨P, S, O, R, D⟩]) := hkt
        have HEC : Hid (eTlb.enc ⟨P, S, O, R, D⟩ = [.int .i64 P, .int .i64 S, .int .i64 O, .int .i64 R, .bool D]) := (rfl : eTlb.enc ⟨P, S, O, R, D⟩ = [.int .i64 P, .int .i64 S, .int .i64 O, .int .i64 R, .bool D])
        clear hm hks hkt
        go_wp2_with fail
        refine (hmt _).mono ?_
        rintro e w5 ⟨rfl, hw5⟩
        obtain rfl := hw5.symm
        rw [← HWB2.out]
        obtain ⟨⟨b0, b1, b2, b3, b4⟩, bf⟩ := HBX.out wB (Below.refl _ _)
        have hNB : wr.heap.size < wB.heap.size := by have := HZB.out; omega
        have HY : Hid (Touch (fun k => k = w3.heap.size) wE wB) := HTC.out.trans (Touch.of_below HTB.out)
        have HRY : Hid (ERow eTlb wB wb.heap.size (.slice (some ⟨gv, 0, none⟩) (mapT A Bb M.tlb t).length cv) (mapT A Bb M.tlb t)) := HROW.out.below HTB.out
        clear k0 k1 k2 k3 k4 q0 q1 q2 q3 p0 p1 p2 p3 hmt
        have HOWN : Hid (wB.ownsRow wb.heap.size 81 5 (.slice (some ⟨gv, 0, none⟩) (mapT A Bb M.tlb t).length cv) (mapT A Bb M.tlb t).length (ecells eTlb (mapT A Bb M.tlb t))) := HRY.out
        have hyw : wb.heap.size ≤ wB.heap.size := by have := HY.out.size; have := HBwE.out.size; omega
        go_wp2_with (at_builtin; refine wpList_append_lies _ rfl (.tmp 133) (.tmp 135) 33 rfl wb.heap.size 81 iT _ 5 40 Tryz.underlying33 hiT hzT0 hzT1 hzT2 rfl (by omega) _ _ _ rfl (World.ownsRow.alloc HOWN.out _) ⟨wB.heap.size, 0, none⟩ 1 1 [.int .i64 P, .int .i64 S, .int .i64 O, .int .i64 R, .bool D] rfl rfl ?c1 ?c2 (by omega) ?c3 ?c4 ?c5 (wB.heap.size + 1) ?c6 ?_)
        case c1 => exact World.news_of_block (heap_alloc_new wB (.cells #[.int .i64 P, .int .i64 S, .int .i64 O, .int .i64 R, .bool D] 81))
        case c2 => intro u hu; simp at hu; rcases hu with rfl | rfl | rfl | rfl | rfl <;> rfl
        case c3 => unfold maxLen; omega
        case c4 => omega
        case c5 => simp; omega
        case c6 => simp
        intro g1 cap1 wn hown hgrow hat hlt3
        rw [own_slice] at hgrow hat
        have hnew : ERow eTlb wn wb.heap.size (.slice (some ⟨g1, 0, none⟩) ((mapT A Bb M.tlb t).length + 1) cap1) ((mapT A Bb M.tlb t) ++ [⟨P, S, O, R, D⟩]) := ERow.snocL (m := (mapT A Bb M.tlb t).length + 1) rfl (by rw [HEC.out]; exact hown)
        have hog : oOf (some (⟨gv, 0, none⟩ : Addr)) = some gv := rfl
        have hys := HY.out.size
        have hgn : g1 = w3.heap.size ∨ wE.heap.size ≤ g1 := by
          rcases hat with h' | h'
          · rw [hog] at h'
            obtain rfl : gv = g1 := by simpa using h'
            exact HGV.out
          · exact .inr (by omega)
        have htn : Touch (fun k => k = w3.heap.size) wE wn := HY.out.then (S' := fun k => gv = k) ⟨hgrow.os, hgrow.tape, hgrow.output, by have := hgrow.size; simp at this; omega, fun k hk hn => (hgrow.block k (by simp; omega) (fun e => hn (by rw [hog] at e; simpa using e.symm))).trans (heap_alloc_old wB _ hk)⟩ (fun k hk e => by rcases HGV.out with h' | h' <;> omega)
        have HNEW : Hid (ERow eTlb wn wb.heap.size (.slice (some ⟨g1, 0, none⟩) ((mapT A Bb M.tlb t).length + 1) cap1) ((mapT A Bb M.tlb t) ++ [⟨P, S, O, R, D⟩])) := hnew
        have HGN : Hid (g1 = w3.heap.size ∨ wE.heap.size ≤ g1) := hgn
        have HTN : Hid (Touch (fun k => k = w3.heap.size) wE wn) := htn
        clear hown hgrow hat hnew hgn htn hys b0
        go_wp2_with fail
        go_roundw
        case rel =>
          refine ⟨t + 1, g1, cap1, by omega, by go_num, ?_, ?_, HGN.out, HTN.out⟩
          · rw [HKT.out, List.length_append]; rfl
          · rw [HKT.out, List.length_append]; exact HNEW.out
        case measure => simp [intOf]; omega
      · have hkt : mapT A Bb M.tlb (t + 1) = mapT A Bb M.tlb t ++ [⟨P, S, O, R, true⟩] := by rw [hks]; simp
        have HKT : Hid (mapT A Bb M.tlb (t + 1) = mapT A Bb M.tlb t ++ [⟨P, S, O, R, true⟩]) := hkt
        have HEC : Hid (eTlb.enc ⟨P, S, O, R, true⟩ = [.int .i64 P, .int .i64 S, .int .i64 O, .int .i64 R, .bool true]) := (rfl : eTlb.enc ⟨P, S, O, R, true⟩ = [.int .i64 P, .int .i64 S, .int .i64 O, .int .i64 R, .bool true])
        clear hm hks hkt
        go_wp2_with fail
        refine (hmt _).mono ?_
        rintro e w5 ⟨rfl, hw5⟩
        obtain rfl := hw5.symm
        rw [← HWB2.out]
        obtain ⟨⟨b0, b1, b2, b3, b4⟩, bf⟩ := HBX.out wB (Below.refl _ _)
        have hNB : wr.heap.size < wB.heap.size := by have := HZB.out; omega
        obtain ⟨wY, hwY⟩ : ∃ wY, wY = wB.setCell ⟨wr.heap.size, 4, none⟩ (.bool true) := ⟨_, rfl⟩
        have hzY : wY.heap.size = wB.heap.size := by rw [hwY]; simp
        have hTY : Touch (fun k => k = wr.heap.size) wr wY := by rw [hwY]; exact Touch.put (Touch.of_below HTB.out) _ _ (by rfl)
        have HY : Hid (Touch (fun k => k = w3.heap.size) wE wY) := HTC.out.then hTY (fun k hk e => by omega)
        have HRY : Hid (ERow eTlb wY wb.heap.size (.slice (some ⟨gv, 0, none⟩) (mapT A Bb M.tlb t).length cv) (mapT A Bb M.tlb t)) := HROW.out.touch hTY (fun k h1 h2 => by have := (HROW.out.own k h1).2; omega)
        have HWY : Hid (wY = _) := hwY
        clear k0 k1 k2 k3 k4 q0 q1 q2 q3 p0 p1 p2 p3 hmt hTY hwY
        have HOWN : Hid (wY.ownsRow wb.heap.size 81 5 (.slice (some ⟨gv, 0, none⟩) (mapT A Bb M.tlb t).length cv) (mapT A Bb M.tlb t).length (ecells eTlb (mapT A Bb M.tlb t))) := HRY.out
        have hyw : wb.heap.size ≤ wY.heap.size := by have := HY.out.size; have := HBwE.out.size; omega
        go_wp2_with (at_builtin; rw [← HWY.out]; refine wpList_append_lies _ rfl (.tmp 133) (.tmp 135) 33 rfl wb.heap.size 81 iT _ 5 40 Tryz.underlying33 hiT hzT0 hzT1 hzT2 rfl (by omega) _ _ _ rfl (World.ownsRow.alloc HOWN.out _) ⟨wB.heap.size, 0, none⟩ 1 1 [.int .i64 P, .int .i64 S, .int .i64 O, .int .i64 R, .bool true] rfl rfl ?c1 ?c2 (by omega) ?c3 ?c4 ?c5 (wB.heap.size + 1) ?c6 ?_)
        case c1 => rw [← hzY]; exact World.news_of_block (heap_alloc_new wY (.cells #[.int .i64 P, .int .i64 S, .int .i64 O, .int .i64 R, .bool true] 81))
        case c2 => intro u hu; simp at hu; rcases hu with rfl | rfl | rfl | rfl | rfl <;> rfl
        case c3 => unfold maxLen; omega
        case c4 => omega
        case c5 => simp; omega
        case c6 => rw [← hzY]; simp
        intro g1 cap1 wn hown hgrow hat hlt3
        rw [own_slice] at hgrow hat
        have hnew : ERow eTlb wn wb.heap.size (.slice (some ⟨g1, 0, none⟩) ((mapT A Bb M.tlb t).length + 1) cap1) ((mapT A Bb M.tlb t) ++ [⟨P, S, O, R, true⟩]) := ERow.snocL (m := (mapT A Bb M.tlb t).length + 1) rfl (by rw [HEC.out]; exact hown)
        have hog : oOf (some (⟨gv, 0, none⟩ : Addr)) = some gv := rfl
        have hys := HY.out.size
        have hgn : g1 = w3.heap.size ∨ wE.heap.size ≤ g1 := by
          rcases hat with h' | h'
          · rw [hog] at h'
            obtain rfl : gv = g1 := by simpa using h'
            exact HGV.out
          · exact .inr (by omega)
        have htn : Touch (fun k => k = w3.heap.size) wE wn := HY.out.then (S' := fun k => gv = k) ⟨hgrow.os, hgrow.tape, hgrow.output, by have := hgrow.size; simp at this; omega, fun k hk hn => (hgrow.block k (by simp; omega) (fun e => hn (by rw [hog] at e; simpa using e.symm))).trans (heap_alloc_old wY _ hk)⟩ (fun k hk e => by rcases HGV.out with h' | h' <;> omega)
        have HNEW : Hid (ERow eTlb wn wb.heap.size (.slice (some ⟨g1, 0, none⟩) ((mapT A Bb M.tlb t).length + 1) cap1) ((mapT A Bb M.tlb t) ++ [⟨P, S, O, R, true⟩])) := hnew
        have HGN : Hid (g1 = w3.heap.size ∨ wE.heap.size ≤ g1) := hgn
        have HTN : Hid (Touch (fun k => k = w3.heap.size) wE wn) := htn
        clear hown hgrow hat hnew hgn htn hys b0
        go_wp2_with fail
        go_roundw
        case rel =>
          refine ⟨t + 1, g1, cap1, by omega, by go_num, ?_, ?_, HGN.out, HTN.out⟩
          · rw [HKT.out, List.length_append]; rfl
          · rw [HKT.out, List.length_append]; exact HNEW.out
        case measure => simp [intOf]; omega
    · obtain rfl : t = M.tlb.length := by omega
      have LF : ¬ (M.tlb.length : Int) < (M.tlb.length : Int) := by omega
      have HBwT : Hid (Below wb.heap.size wb wr) := bW
      have HROWT : Hid (ERow eTlb wr wb.heap.size (.slice (some ⟨gv, 0, none⟩) (mapT A Bb M.tlb M.tlb.length).length cv) (mapT A Bb M.tlb M.tlb.length)) := hrow
      have HGVT : Hid (gv = w3.heap.size ∨ wE.heap.size ≤ gv) := hgv
      have HTCT : Hid (Touch (fun k => k = w3.heap.size) wE wr) := htc
      have HZwT : Hid (wb.heap.size ≤ w3.heap.size + 1 ∧ wE.heap.size ≤ wr.heap.size ∧ wE.heap.size = w3.heap.size + 2) := ⟨by have := HZwE.out; omega, hsz, HZwE.out.2⟩
      clear hrow hgv htc bW hsz hszb hKL hlt ht
      go_wp2_with fail
      obtain ⟨wT, e0⟩ : ∃ x, x = wr := ⟨_, rfl⟩
      subst e0
      obtain ⟨gT, e0⟩ : ∃ x, x = gv := ⟨_, rfl⟩
      subst e0
      obtain ⟨cT, e0⟩ : ∃ x, x = cv := ⟨_, rfl⟩
      subst e0
      clear q0 q1 q2 q3 p0 p1 p2 p3 N0 N1 N2 LF
      go_loopw [9, 14] (fun vv iv wr => ∃ t gv cv : Nat, t ≤ M.wc.length ∧ iv = .int .i64 t ∧ vv = .slice (some ⟨gv, 0, none⟩) (mapW A Bb M.wc t).length cv ∧ ERow eWc wr wb.heap.size (.slice (some ⟨gv, 0, none⟩) (mapW A Bb M.wc t).length cv) (mapW A Bb M.wc t) ∧ (gv = (w3.heap.size + 1) ∨ wT.heap.size ≤ gv) ∧ Touch (fun k => k = (w3.heap.size + 1)) wT wr) (fun _ iv _ => M.wc.length - (intOf iv).toNat)
      case atStart =>
        refine ⟨0, w3.heap.size + 1, 0, Nat.zero_le _, rfl, ?_, ?_, .inl rfl, Touch.none _⟩
        · rfl
        · exact HW0.out.touch HTCT.out (fun k h1 h2 => by simp [Value.ownBlock] at h1; omega)
      case round =>
        obtain ⟨t, gv, cv, ht, rfl, rfl, hrow, hgv, htc⟩ := hrel
        have hsz := htc.size
        have bW : Below wb.heap.size wb wr := Touch.below HBwT.out htc HBwT.out.size (fun k hk => by have := HZwT.out; omega)
        have hszb := bW.size
        obtain ⟨⟨q0, q1, q2, q3⟩, ⟨p0, p1, p2, p3⟩, _, _, N0, N1, N2⟩ := HBOX.out wr bW
        have hKL : (mapW A Bb M.wc t).length ≤ t := mapW_le A Bb M.wc t
        by_cases hlt : t < M.wc.length
        · obtain ⟨E0, hE⟩ : ∃ E0, eAt eWc M.wc t = E0 := ⟨_, rfl⟩
          obtain ⟨L, P, T, D⟩ := E0
          obtain ⟨g, hg1, hg2⟩ := wcS_cells (show ERow eWc wr b (.slice s.a4 M.wc.length s.c4) M.wc from (HM.out wr bW).c)
          obtain ⟨hae, hgl⟩ := hg1 (by omega)
          obtain ⟨k0, k1, k2, k3⟩ := hg2 t L P T D hlt hE wr rfl
          rw [hae] at q3
          have HE : Hid (eAt eWc M.wc t = _) := hE
          have L1 : (0 : Int) ≤ (t : Int) := by omega
          have L2 : (t : Int) < (M.wc.length : Int) := by omega
          have HTC : Hid (Touch (fun k => k = (w3.heap.size + 1)) wT wr) := htc
          have HGV : Hid (gv = (w3.heap.size + 1) ∨ wT.heap.size ≤ gv) := hgv
          have HROW : Hid (ERow eWc wr wb.heap.size (.slice (some ⟨gv, 0, none⟩) (mapW A Bb M.wc t).length cv) (mapW A Bb M.wc t)) := hrow
          clear hE hg1 hg2 hae hrow htc hgv bW
          have htv := valid_wc HVV.out t hlt
          rw [show eAt eWc M.wc t = ⟨L, P, T, D⟩ from HE.out] at htv
          have hts : (0 ≤ P ∧ P < 100000) ∧ (L = 2 ∨ L = 3) := by
            simp only [wcOkB, pageOk, Bool.and_eq_true, Bool.or_eq_true, decide_eq_true_eq] at htv
            omega
          have hcv := covers_any (L - 1)
          obtain ⟨S, hS⟩ : ∃ S, S = cov (L - 1) := ⟨_, rfl⟩
          have hS2 : S = 16 * cov L := by rw [hS]; rcases hts.2 with rfl | rfl <;> decide
          have hS3 : 0 ≤ S ∧ S < 100000 := by rw [hS]; rcases hts.2 with rfl | rfl <;> decide
          rw [← hS] at hcv
          have hmt := meetS_any A Bb P S HAB.out.1 HAB.out.2 hts.1 hS3
          rw [meets_comm] at hmt
          have W1 : IntKind.i64.wrap (L - 1) = L - 1 := by rw [IntKind.wrap_i64]; omega
          have hks := mapW_succ A Bb M.wc t hlt
          rw [show eAt eWc M.wc t = ⟨L, P, T, D⟩ from HE.out, show doomW A Bb ⟨L, P, T, D⟩ = ⟨L, P, T, D || meets P (16 * cov L) A Bb⟩ from rfl, ← hS2] at hks
          clear htv hts hS hS2 hS3
          obtain ⟨wB, hwB⟩ : ∃ wB, wB = wr.alloc (.cells #[.int .i64 L, .int .i64 P, .int .i64 T, .bool D] 113) := ⟨_, rfl⟩
          have hzB : wB.heap.size = wr.heap.size + 1 := by rw [hwB]; simp
          have bTB : Below wr.heap.size wr wB := by rw [hwB]; exact (Below.refl _ _).alloc (Nat.le_refl _) _
          have hbx : ∀ wX, Below wB.heap.size wB wX → (wX.cell? ⟨wr.heap.size, 0, none⟩ = some (.int .i64 L) ∧ wX.cell? ⟨wr.heap.size, 1, none⟩ = some (.int .i64 P) ∧ wX.cell? ⟨wr.heap.size, 2, none⟩ = some (.int .i64 T) ∧ wX.cell? ⟨wr.heap.size, 3, none⟩ = some (.bool D)) ∧ wX.frozen? ⟨wr.heap.size, 3, none⟩ = false := fun wX hX => by
            refine ⟨⟨?_, ?_, ?_, ?_⟩, ?_⟩
            iterate 4 (exact (hX.cell (by simp; omega)).trans (by rw [hwB]; simp [go_sem]))
            exact (hX.frozen (by simp; omega)).trans (by rw [hwB]; simp [go_sem])
          have HKX : Hid (∀ wX, Below wB.heap.size wB wX → (wX.cell? ⟨w.heap.size + 1, 1, none⟩ = some (.int .i64 A) ∧ wX.cell? ⟨w.heap.size + 1, 2, none⟩ = some (.int .i64 Bb)) ∧ (wX.cell? ⟨wr.heap.size, 0, none⟩ = some (.int .i64 L) ∧ wX.cell? ⟨wr.heap.size, 1, none⟩ = some (.int .i64 P) ∧ wX.cell? ⟨wr.heap.size, 2, none⟩ = some (.int .i64 T) ∧ wX.cell? ⟨wr.heap.size, 3, none⟩ = some (.bool D))) := fun wX hX => ⟨⟨((bTB.trans (hX.mono bTB.size)).cell (by simp; omega)).trans p1, ((bTB.trans (hX.mono bTB.size)).cell (by simp; omega)).trans p2⟩, (hbx wX hX).1⟩
          have HBX : Hid (∀ wX, Below wB.heap.size wB wX → (wX.cell? ⟨wr.heap.size, 0, none⟩ = some (.int .i64 L) ∧ wX.cell? ⟨wr.heap.size, 1, none⟩ = some (.int .i64 P) ∧ wX.cell? ⟨wr.heap.size, 2, none⟩ = some (.int .i64 T) ∧ wX.cell? ⟨wr.heap.size, 3, none⟩ = some (.bool D)) ∧ wX.frozen? ⟨wr.heap.size, 3, none⟩ = false) := hbx
          have HWB2 : Hid (wB = _) := hwB
          have HTB : Hid (Below wr.heap.size wr wB) := bTB
          have HZB : Hid (wB.heap.size = wr.heap.size + 1) := hzB
          clear hwB hzB bTB hbx
          cases hm : meets P S A Bb <;> rw [hm] at hmt hks
          · have hkt : mapW A Bb M.wc (t + 1) = mapW A Bb M.wc t ++ [⟨L, P, T, D⟩] := by rw [hks]; simp
            have HKT : Hid (mapW A Bb M.wc (t + 1) = mapW A Bb M.wc t ++ [⟨L, P, T, D⟩]) := hkt
            have HEC : Hid (eWc.enc ⟨L, P, T, D⟩ = [.int .i64 L, .int .i64 P, .int .i64 T, .bool D]) := (rfl : eWc.enc ⟨L, P, T, D⟩ = [.int .i64 L, .int .i64 P, .int .i64 T, .bool D])
            clear hm hks hkt
            go_wp2_with fail
            rw [← HWB2.out]
            refine wp_region_held_drew (S := (fun wX => (wX.cell? ⟨w.heap.size + 1, 1, none⟩ = some (.int .i64 A) ∧ wX.cell? ⟨w.heap.size + 1, 2, none⟩ = some (.int .i64 Bb)) ∧ (wX.cell? ⟨wr.heap.size, 0, none⟩ = some (.int .i64 L) ∧ wX.cell? ⟨wr.heap.size, 1, none⟩ = some (.int .i64 P) ∧ wX.cell? ⟨wr.heap.size, 2, none⟩ = some (.int .i64 T) ∧ wX.cell? ⟨wr.heap.size, 3, none⟩ = some (.bool D)))) (by kernel_rfl) (HKX.out _ ((Below.refl _ _).drew)) (fun hHeld => ?_)
            refine wpAnyH_take (i := 0) (v := ?_) rfl (by kernel_rfl) (by kernel_rfl) (by kernel_rfl) (fun _ _ _ h => h) (Or.inl ⟨by rfl, ?_⟩) (by assumption) ?_
            rotate_left
            · (intro w hSw; (try dsimp only at hSw); go_simp; try with_reducible rfl)
            simp only [Act.put, List.setIfInBounds_toArray, List.set_cons_zero, List.set_cons_succ, List.getElem_toArray, List.getElem_cons_zero]
            refine wpAnyH_take (i := 1) (v := ?_) rfl (by kernel_rfl) (by kernel_rfl) (by kernel_rfl) (fun _ _ _ h => h) (Or.inl ⟨by rfl, ?_⟩) (by assumption) ?_
            rotate_left
            · (intro w hSw; (try dsimp only at hSw); go_simp; try with_reducible rfl)
            simp only [Act.put, List.setIfInBounds_toArray, List.set_cons_zero, List.set_cons_succ, List.getElem_toArray, List.getElem_cons_zero, List.getElem_cons_succ]
            refine wpAnyH_take (i := 2) (v := ?_) rfl (by kernel_rfl) (by kernel_rfl) (by kernel_rfl) (fun _ _ _ h => h) (Or.inl ⟨by rfl, ?_⟩) (by assumption) ?_
            rotate_left
            · (intro w hSw; (try dsimp only at hSw); go_simp; try with_reducible rfl)
            simp only [Act.put, List.setIfInBounds_toArray, List.set_cons_zero, List.set_cons_succ, List.getElem_toArray, List.getElem_cons_zero, List.getElem_cons_succ]
            refine wpAnyH_take (i := 3) (v := ?_) rfl (by kernel_rfl) (by kernel_rfl) (by kernel_rfl) (fun _ _ _ h => h) (Or.inl ⟨by rfl, ?_⟩) (by assumption) ?_
            rotate_left
            · (intro w hSw; (try dsimp only at hSw); go_simp; try with_reducible rfl)
            simp only [Act.put, List.setIfInBounds_toArray, List.set_cons_zero, List.set_cons_succ, List.getElem_toArray, List.getElem_cons_zero, List.getElem_cons_succ]
            refine wpAnyH_take (i := 4) (v := ?_) rfl (by kernel_rfl) (by kernel_rfl) (by kernel_rfl) (fun _ _ _ h => h) (Or.inl ⟨by rfl, ?_⟩) (by assumption) ?_
            rotate_left
            · (intro w hSw; (try dsimp only at hSw); go_simp; try with_reducible rfl)
            simp only [Act.put, List.setIfInBounds_toArray, List.set_cons_zero, List.set_cons_succ, List.getElem_toArray, List.getElem_cons_zero, List.getElem_cons_succ]
            refine wpAnyH_take (i := 5) (v := ?_) rfl (by kernel_rfl) (by kernel_rfl) (by kernel_rfl) (fun _ _ _ h => h) (Or.inl ⟨by rfl, ?_⟩) (by assumption) ?_
            rotate_left
            · (intro w hSw; (try dsimp only at hSw); go_simp; try with_reducible rfl)
            simp only [Act.put, List.setIfInBounds_toArray, List.set_cons_zero, List.set_cons_succ, List.getElem_toArray, List.getElem_cons_zero, List.getElem_cons_succ]
            refine wpAnyH_take (i := 6) (v := ?_) rfl (by kernel_rfl) (by kernel_rfl) (by kernel_rfl) (fun _ _ _ h => h) (Or.inl ⟨by rfl, ?_⟩) (by assumption) ?_
            rotate_left
            · (intro w hSw; (try dsimp only at hSw); go_simp; try with_reducible rfl)
            simp only [Act.put, List.setIfInBounds_toArray, List.set_cons_zero, List.set_cons_succ, List.getElem_toArray, List.getElem_cons_zero, List.getElem_cons_succ]
            refine wpAnyH_take (i := 7) (v := ?_) rfl (by kernel_rfl) (by kernel_rfl) (by kernel_rfl) (fun _ _ _ h => h) (Or.inl ⟨by rfl, ?_⟩) (by assumption) ?_
            rotate_left
            · (intro w hSw; (try dsimp only at hSw); go_simp; try with_reducible rfl)
            simp only [Act.put, List.setIfInBounds_toArray, List.set_cons_zero, List.set_cons_succ, List.getElem_toArray, List.getElem_cons_zero, List.getElem_cons_succ]
            refine wpAnyH_take (i := 8) (v := ?_) rfl (by kernel_rfl) (by kernel_rfl) (by kernel_rfl) (fun _ _ _ h => h) (Or.inl ⟨by rfl, ?_⟩) (by assumption) ?_
            rotate_left
            · (intro w hSw; (try dsimp only at hSw); go_simp; try with_reducible rfl)
            simp only [Act.put, List.setIfInBounds_toArray, List.set_cons_zero, List.set_cons_succ, List.getElem_toArray, List.getElem_cons_zero, List.getElem_cons_succ]
            refine wpAnyH_ready (rs := [9]) (by kernel_rfl) (by simp) ?_
            refine AllReadyH.cons rfl (fun K hK => ?_) AllReadyH.nil
            go_simp
            go_at_call 71
            refine (hcv _).mono ?_
            rintro e w5 ⟨rfl, hw5⟩
            obtain rfl := hw5.symm
            go_wp2_with fail
            refine hK.out _ _ (HKX.out _ ((Below.refl _ _).drew)) (fun hHeld2 => ?_)
            clear hK K
            refine wpAnyH_ready (rs := [10]) (by kernel_rfl) (by simp) ?_
            refine AllReadyH.cons rfl (fun K hK => ?_) AllReadyH.nil
            go_simp
            go_at_call 70
            refine (hmt _).mono ?_
            rintro e w6 ⟨rfl, hw6⟩
            obtain rfl := hw6.symm
            go_wp2_with fail
            refine hK.out _ _ (HKX.out _ ((Below.refl _ _).drew)) (fun hHeld2 => ?_)
            clear hK K
            refine wpAnyH_done (by kernel_rfl) ?_ _
            obtain ⟨wD, hwD⟩ : ∃ wD, wD = wB.drew := ⟨_, rfl⟩
            have hzD : wD.heap.size = wB.heap.size := by rw [hwD]; rfl
            have bD : Below wB.heap.size wB wD := by rw [hwD]; exact (Below.refl _ _).drew
            rw [← hwD]
            obtain ⟨⟨b0, b1, b2, b3⟩, bf⟩ := HBX.out wD bD
            have HZD : Hid (wD.heap.size = wB.heap.size) := hzD
            clear hwD hHeld hHeld2 hzD
            have hNB : wr.heap.size < wD.heap.size := by have := HZB.out; have := HZD.out; omega
            have HY : Hid (Touch (fun k => k = (w3.heap.size + 1)) wT wD) := HTC.out.trans (Touch.of_below (HTB.out.trans (bD.mono HTB.out.size)))
            have HRY : Hid (ERow eWc wD wb.heap.size (.slice (some ⟨gv, 0, none⟩) (mapW A Bb M.wc t).length cv) (mapW A Bb M.wc t)) := HROW.out.below (HTB.out.trans (bD.mono HTB.out.size))
            clear k0 k1 k2 k3 q0 q1 q2 q3 p0 p1 p2 p3 hmt bD
            have HOWN : Hid (wD.ownsRow wb.heap.size 113 4 (.slice (some ⟨gv, 0, none⟩) (mapW A Bb M.wc t).length cv) (mapW A Bb M.wc t).length (ecells eWc (mapW A Bb M.wc t))) := HRY.out
            have hyw : wb.heap.size ≤ wD.heap.size := by have := HY.out.size; have := HBwT.out.size; omega
            go_wp2_with (at_builtin; refine wpList_append_lies _ rfl (.tmp 161) (.tmp 163) 34 rfl wb.heap.size 113 iC _ 4 32 Tryz.underlying34 hiC hzC0 hzC1 hzC2 rfl (by omega) _ _ _ rfl (World.ownsRow.alloc HOWN.out _) ⟨wD.heap.size, 0, none⟩ 1 1 [.int .i64 L, .int .i64 P, .int .i64 T, .bool D] rfl rfl ?c1 ?c2 (by omega) ?c3 ?c4 ?c5 (wD.heap.size + 1) ?c6 ?_)
            case c1 => exact World.news_of_block (heap_alloc_new wD (.cells #[.int .i64 L, .int .i64 P, .int .i64 T, .bool D] 113))
            case c2 => intro u hu; simp at hu; rcases hu with rfl | rfl | rfl | rfl <;> rfl
            case c3 => unfold maxLen; omega
            case c4 => omega
            case c5 => simp; omega
            case c6 => simp
            intro g1 cap1 wn hown hgrow hat hlt3
            rw [own_slice] at hgrow hat
            have hnew : ERow eWc wn wb.heap.size (.slice (some ⟨g1, 0, none⟩) ((mapW A Bb M.wc t).length + 1) cap1) ((mapW A Bb M.wc t) ++ [⟨L, P, T, D⟩]) := ERow.snocL (m := (mapW A Bb M.wc t).length + 1) rfl (by rw [HEC.out]; exact hown)
            have hog : oOf (some (⟨gv, 0, none⟩ : Addr)) = some gv := rfl
            have hys := HY.out.size
            have hgn : g1 = (w3.heap.size + 1) ∨ wT.heap.size ≤ g1 := by
              rcases hat with h' | h'
              · rw [hog] at h'
                obtain rfl : gv = g1 := by simpa using h'
                exact HGV.out
              · exact .inr (by omega)
            have htn : Touch (fun k => k = (w3.heap.size + 1)) wT wn := HY.out.then (S' := fun k => gv = k) ⟨hgrow.os, hgrow.tape, hgrow.output, by have := hgrow.size; simp at this; omega, fun k hk hn => (hgrow.block k (by simp; omega) (fun e => hn (by rw [hog] at e; simpa using e.symm))).trans (heap_alloc_old wD _ hk)⟩ (fun k hk e => by rcases HGV.out with h' | h' <;> omega)
            have HNEW : Hid (ERow eWc wn wb.heap.size (.slice (some ⟨g1, 0, none⟩) ((mapW A Bb M.wc t).length + 1) cap1) ((mapW A Bb M.wc t) ++ [⟨L, P, T, D⟩])) := hnew
            have HGN : Hid (g1 = (w3.heap.size + 1) ∨ wT.heap.size ≤ g1) := hgn
            have HTN : Hid (Touch (fun k => k = (w3.heap.size + 1)) wT wn) := htn
            clear hown hgrow hat hnew hgn htn hys b0
            go_wp2_with fail
            go_roundw
            case rel =>
              refine ⟨t + 1, g1, cap1, by omega, by go_num, ?_, ?_, HGN.out, HTN.out⟩
              · rw [HKT.out, List.length_append]; rfl
              · rw [HKT.out, List.length_append]; exact HNEW.out
            case measure => simp [intOf]; omega
          · have hkt : mapW A Bb M.wc (t + 1) = mapW A Bb M.wc t ++ [⟨L, P, T, true⟩] := by rw [hks]; simp
            have HKT : Hid (mapW A Bb M.wc (t + 1) = mapW A Bb M.wc t ++ [⟨L, P, T, true⟩]) := hkt
            have HEC : Hid (eWc.enc ⟨L, P, T, true⟩ = [.int .i64 L, .int .i64 P, .int .i64 T, .bool true]) := (rfl : eWc.enc ⟨L, P, T, true⟩ = [.int .i64 L, .int .i64 P, .int .i64 T, .bool true])
            clear hm hks hkt
            go_wp2_with fail
            rw [← HWB2.out]
            refine wp_region_held_drew (S := (fun wX => (wX.cell? ⟨w.heap.size + 1, 1, none⟩ = some (.int .i64 A) ∧ wX.cell? ⟨w.heap.size + 1, 2, none⟩ = some (.int .i64 Bb)) ∧ (wX.cell? ⟨wr.heap.size, 0, none⟩ = some (.int .i64 L) ∧ wX.cell? ⟨wr.heap.size, 1, none⟩ = some (.int .i64 P) ∧ wX.cell? ⟨wr.heap.size, 2, none⟩ = some (.int .i64 T) ∧ wX.cell? ⟨wr.heap.size, 3, none⟩ = some (.bool D)))) (by kernel_rfl) (HKX.out _ ((Below.refl _ _).drew)) (fun hHeld => ?_)
            refine wpAnyH_take (i := 0) (v := ?_) rfl (by kernel_rfl) (by kernel_rfl) (by kernel_rfl) (fun _ _ _ h => h) (Or.inl ⟨by rfl, ?_⟩) (by assumption) ?_
            rotate_left
            · (intro w hSw; (try dsimp only at hSw); go_simp; try with_reducible rfl)
            simp only [Act.put, List.setIfInBounds_toArray, List.set_cons_zero, List.set_cons_succ, List.getElem_toArray, List.getElem_cons_zero]
            refine wpAnyH_take (i := 1) (v := ?_) rfl (by kernel_rfl) (by kernel_rfl) (by kernel_rfl) (fun _ _ _ h => h) (Or.inl ⟨by rfl, ?_⟩) (by assumption) ?_
            rotate_left
            · (intro w hSw; (try dsimp only at hSw); go_simp; try with_reducible rfl)
            simp only [Act.put, List.setIfInBounds_toArray, List.set_cons_zero, List.set_cons_succ, List.getElem_toArray, List.getElem_cons_zero, List.getElem_cons_succ]
            refine wpAnyH_take (i := 2) (v := ?_) rfl (by kernel_rfl) (by kernel_rfl) (by kernel_rfl) (fun _ _ _ h => h) (Or.inl ⟨by rfl, ?_⟩) (by assumption) ?_
            rotate_left
            · (intro w hSw; (try dsimp only at hSw); go_simp; try with_reducible rfl)
            simp only [Act.put, List.setIfInBounds_toArray, List.set_cons_zero, List.set_cons_succ, List.getElem_toArray, List.getElem_cons_zero, List.getElem_cons_succ]
            refine wpAnyH_take (i := 3) (v := ?_) rfl (by kernel_rfl) (by kernel_rfl) (by kernel_rfl) (fun _ _ _ h => h) (Or.inl ⟨by rfl, ?_⟩) (by assumption) ?_
            rotate_left
            · (intro w hSw; (try dsimp only at hSw); go_simp; try with_reducible rfl)
            simp only [Act.put, List.setIfInBounds_toArray, List.set_cons_zero, List.set_cons_succ, List.getElem_toArray, List.getElem_cons_zero, List.getElem_cons_succ]
            refine wpAnyH_take (i := 4) (v := ?_) rfl (by kernel_rfl) (by kernel_rfl) (by kernel_rfl) (fun _ _ _ h => h) (Or.inl ⟨by rfl, ?_⟩) (by assumption) ?_
            rotate_left
            · (intro w hSw; (try dsimp only at hSw); go_simp; try with_reducible rfl)
            simp only [Act.put, List.setIfInBounds_toArray, List.set_cons_zero, List.set_cons_succ, List.getElem_toArray, List.getElem_cons_zero, List.getElem_cons_succ]
            refine wpAnyH_take (i := 5) (v := ?_) rfl (by kernel_rfl) (by kernel_rfl) (by kernel_rfl) (fun _ _ _ h => h) (Or.inl ⟨by rfl, ?_⟩) (by assumption) ?_
            rotate_left
            · (intro w hSw; (try dsimp only at hSw); go_simp; try with_reducible rfl)
            simp only [Act.put, List.setIfInBounds_toArray, List.set_cons_zero, List.set_cons_succ, List.getElem_toArray, List.getElem_cons_zero, List.getElem_cons_succ]
            refine wpAnyH_take (i := 6) (v := ?_) rfl (by kernel_rfl) (by kernel_rfl) (by kernel_rfl) (fun _ _ _ h => h) (Or.inl ⟨by rfl, ?_⟩) (by assumption) ?_
            rotate_left
            · (intro w hSw; (try dsimp only at hSw); go_simp; try with_reducible rfl)
            simp only [Act.put, List.setIfInBounds_toArray, List.set_cons_zero, List.set_cons_succ, List.getElem_toArray, List.getElem_cons_zero, List.getElem_cons_succ]
            refine wpAnyH_take (i := 7) (v := ?_) rfl (by kernel_rfl) (by kernel_rfl) (by kernel_rfl) (fun _ _ _ h => h) (Or.inl ⟨by rfl, ?_⟩) (by assumption) ?_
            rotate_left
            · (intro w hSw; (try dsimp only at hSw); go_simp; try with_reducible rfl)
            simp only [Act.put, List.setIfInBounds_toArray, List.set_cons_zero, List.set_cons_succ, List.getElem_toArray, List.getElem_cons_zero, List.getElem_cons_succ]
            refine wpAnyH_take (i := 8) (v := ?_) rfl (by kernel_rfl) (by kernel_rfl) (by kernel_rfl) (fun _ _ _ h => h) (Or.inl ⟨by rfl, ?_⟩) (by assumption) ?_
            rotate_left
            · (intro w hSw; (try dsimp only at hSw); go_simp; try with_reducible rfl)
            simp only [Act.put, List.setIfInBounds_toArray, List.set_cons_zero, List.set_cons_succ, List.getElem_toArray, List.getElem_cons_zero, List.getElem_cons_succ]
            refine wpAnyH_ready (rs := [9]) (by kernel_rfl) (by simp) ?_
            refine AllReadyH.cons rfl (fun K hK => ?_) AllReadyH.nil
            go_simp
            go_at_call 71
            refine (hcv _).mono ?_
            rintro e w5 ⟨rfl, hw5⟩
            obtain rfl := hw5.symm
            go_wp2_with fail
            refine hK.out _ _ (HKX.out _ ((Below.refl _ _).drew)) (fun hHeld2 => ?_)
            clear hK K
            refine wpAnyH_ready (rs := [10]) (by kernel_rfl) (by simp) ?_
            refine AllReadyH.cons rfl (fun K hK => ?_) AllReadyH.nil
            go_simp
            go_at_call 70
            refine (hmt _).mono ?_
            rintro e w6 ⟨rfl, hw6⟩
            obtain rfl := hw6.symm
            go_wp2_with fail
            refine hK.out _ _ (HKX.out _ ((Below.refl _ _).drew)) (fun hHeld2 => ?_)
            clear hK K
            refine wpAnyH_done (by kernel_rfl) ?_ _
            obtain ⟨wD, hwD⟩ : ∃ wD, wD = wB.drew := ⟨_, rfl⟩
            have hzD : wD.heap.size = wB.heap.size := by rw [hwD]; rfl
            have bD : Below wB.heap.size wB wD := by rw [hwD]; exact (Below.refl _ _).drew
            rw [← hwD]
            obtain ⟨⟨b0, b1, b2, b3⟩, bf⟩ := HBX.out wD bD
            have HZD : Hid (wD.heap.size = wB.heap.size) := hzD
            clear hwD hHeld hHeld2 hzD
            have hNB : wr.heap.size < wD.heap.size := by have := HZB.out; have := HZD.out; omega
            obtain ⟨wY, hwY⟩ : ∃ wY, wY = wD.setCell ⟨wr.heap.size, 3, none⟩ (.bool true) := ⟨_, rfl⟩
            have hzY : wY.heap.size = wD.heap.size := by rw [hwY]; simp
            have hTY : Touch (fun k => k = wr.heap.size) wr wY := by rw [hwY]; exact Touch.put (Touch.of_below (HTB.out.trans (bD.mono HTB.out.size))) _ _ (by rfl)
            have HY : Hid (Touch (fun k => k = (w3.heap.size + 1)) wT wY) := HTC.out.then hTY (fun k hk e => by omega)
            have HRY : Hid (ERow eWc wY wb.heap.size (.slice (some ⟨gv, 0, none⟩) (mapW A Bb M.wc t).length cv) (mapW A Bb M.wc t)) := HROW.out.touch hTY (fun k h1 h2 => by have := (HROW.out.own k h1).2; omega)
            have HWY : Hid (wY = _) := hwY
            clear k0 k1 k2 k3 q0 q1 q2 q3 p0 p1 p2 p3 hmt hTY hwY bD
            have HOWN : Hid (wY.ownsRow wb.heap.size 113 4 (.slice (some ⟨gv, 0, none⟩) (mapW A Bb M.wc t).length cv) (mapW A Bb M.wc t).length (ecells eWc (mapW A Bb M.wc t))) := HRY.out
            have hyw : wb.heap.size ≤ wY.heap.size := by have := HY.out.size; have := HBwT.out.size; omega
            go_wp2_with (at_builtin; rw [← HWY.out]; refine wpList_append_lies _ rfl (.tmp 161) (.tmp 163) 34 rfl wb.heap.size 113 iC _ 4 32 Tryz.underlying34 hiC hzC0 hzC1 hzC2 rfl (by omega) _ _ _ rfl (World.ownsRow.alloc HOWN.out _) ⟨wD.heap.size, 0, none⟩ 1 1 [.int .i64 L, .int .i64 P, .int .i64 T, .bool true] rfl rfl ?c1 ?c2 (by omega) ?c3 ?c4 ?c5 (wD.heap.size + 1) ?c6 ?_)
            case c1 => rw [← hzY]; exact World.news_of_block (heap_alloc_new wY (.cells #[.int .i64 L, .int .i64 P, .int .i64 T, .bool true] 113))
            case c2 => intro u hu; simp at hu; rcases hu with rfl | rfl | rfl | rfl <;> rfl
            case c3 => unfold maxLen; omega
            case c4 => omega
            case c5 => simp; omega
            case c6 => rw [← hzY]; simp
            intro g1 cap1 wn hown hgrow hat hlt3
            rw [own_slice] at hgrow hat
            have hnew : ERow eWc wn wb.heap.size (.slice (some ⟨g1, 0, none⟩) ((mapW A Bb M.wc t).length + 1) cap1) ((mapW A Bb M.wc t) ++ [⟨L, P, T, true⟩]) := ERow.snocL (m := (mapW A Bb M.wc t).length + 1) rfl (by rw [HEC.out]; exact hown)
            have hog : oOf (some (⟨gv, 0, none⟩ : Addr)) = some gv := rfl
            have hys := HY.out.size
            have hgn : g1 = (w3.heap.size + 1) ∨ wT.heap.size ≤ g1 := by
              rcases hat with h' | h'
              · rw [hog] at h'
                obtain rfl : gv = g1 := by simpa using h'
                exact HGV.out
              · exact .inr (by omega)
            have htn : Touch (fun k => k = (w3.heap.size + 1)) wT wn := HY.out.then (S' := fun k => gv = k) ⟨hgrow.os, hgrow.tape, hgrow.output, by have := hgrow.size; simp at this; omega, fun k hk hn => (hgrow.block k (by simp; omega) (fun e => hn (by rw [hog] at e; simpa using e.symm))).trans (heap_alloc_old wY _ hk)⟩ (fun k hk e => by rcases HGV.out with h' | h' <;> omega)
            have HNEW : Hid (ERow eWc wn wb.heap.size (.slice (some ⟨g1, 0, none⟩) ((mapW A Bb M.wc t).length + 1) cap1) ((mapW A Bb M.wc t) ++ [⟨L, P, T, true⟩])) := hnew
            have HGN : Hid (g1 = (w3.heap.size + 1) ∨ wT.heap.size ≤ g1) := hgn
            have HTN : Hid (Touch (fun k => k = (w3.heap.size + 1)) wT wn) := htn
            clear hown hgrow hat hnew hgn htn hys b0
            go_wp2_with fail
            go_roundw
            case rel =>
              refine ⟨t + 1, g1, cap1, by omega, by go_num, ?_, ?_, HGN.out, HTN.out⟩
              · rw [HKT.out, List.length_append]; rfl
              · rw [HKT.out, List.length_append]; exact HNEW.out
            case measure => simp [intOf]; omega
        · obtain rfl : t = M.wc.length := by omega
          have LF : ¬ (M.wc.length : Int) < (M.wc.length : Int) := by omega
          have HBwW : Hid (Below wb.heap.size wb wr) := bW
          have HROWW : Hid (ERow eWc wr wb.heap.size (.slice (some ⟨gv, 0, none⟩) (mapW A Bb M.wc M.wc.length).length cv) (mapW A Bb M.wc M.wc.length)) := hrow
          have HGVW : Hid (gv = w3.heap.size + 1 ∨ wT.heap.size ≤ gv) := hgv
          have HTCW : Hid (Touch (fun k => k = w3.heap.size + 1) wT wr) := htc
          have HSW : Hid (wT.heap.size ≤ wr.heap.size) := hsz
          have bOT : Below wO.heap.size wO wT := Touch.below HOE.out HTCT.out HOE.out.size (fun k hk => by have := HBO3.out.size; omega)
          have bOW : Below wO.heap.size wO wr := Touch.below bOT htc bOT.size (fun k hk => by have := HBO3.out.size; omega)
          have HOW : Hid (Below wO.heap.size wO wr) := bOW
          obtain ⟨⟨o0, o1, o2, o3⟩, y0, y1, y2, y3⟩ := HOB.out wr bOW
          obtain ⟨_, _, ⟨r0, r1, r2, r3⟩, ⟨z0, z1, z2, z3⟩, _, _, _⟩ := HBOX.out wr bW
          have N5 : w2.heap.size < wr.heap.size := by have := bOW.size; have := HZO.out; omega
          have N6 : ¬ w2.heap.size = w.heap.size + 2 := by omega
          clear hrow hgv htc bW hsz hszb hKL hlt ht bOT bOW
          go_wp2_with fail
          obtain ⟨wM, hwM⟩ : ∃ wM, wM = (wr.setCell ⟨w2.heap.size, 2, none⟩ (.slice (some ⟨gT, 0, none⟩) (mapT A Bb M.tlb M.tlb.length).length cT)).setCell ⟨w2.heap.size, 3, none⟩ (.slice (some ⟨gv, 0, none⟩) (mapW A Bb M.wc M.wc.length).length cv) := ⟨_, rfl⟩
          rw [← hwM]
          have HTM : Hid (Touch (fun k => k = w2.heap.size) wr wM) := by rw [hwM]; exact Touch.put (Touch.put (Touch.none _) _ _ (by rfl)) _ _ (by rfl)
          have HBN : Hid (Below wb.heap.size wb wM) := Touch.below HBwW.out HTM.out HBwW.out.size (fun k hk => by have := HZ.out; omega)
          obtain ⟨_, _, ⟨r0, r1, r2, r3⟩, _, _, _, _⟩ := HBOX.out wM HBN.out
          obtain ⟨wF, hwF⟩ : ∃ wF, wF = ((((wM.setCell ⟨w.heap.size + 1 + 1, 0, none⟩ (.slice s1.a1 M.mem.length s1.c1)).setCell ⟨w.heap.size + 1 + 1, 1, none⟩ (.slice s1.a2 M.pend.length s1.c2)).setCell ⟨w.heap.size + 1 + 1, 2, none⟩ (.slice (some ⟨gT, 0, none⟩) (mapT A Bb M.tlb M.tlb.length).length cT)).setCell ⟨w.heap.size + 1 + 1, 3, none⟩ (.slice (some ⟨gv, 0, none⟩) (mapW A Bb M.wc M.wc.length).length cv)) := ⟨_, rfl⟩
          rw [← hwF]
          have hTF : Touch (fun k => k = w.heap.size + 2) wM wF := by
            rw [hwF]
            exact Touch.put (Touch.put (Touch.put (Touch.put (Touch.none _) _ _ (by rfl)) _ _ (by rfl)) _ _ (by rfl)) _ _ (by rfl)
          have f0 : wF.cell? ⟨w.heap.size + 1 + 1, 0, none⟩ = some (.slice s1.a1 M.mem.length s1.c1) := by rw [hwF]; simp [go_sem, r0]
          have f1 : wF.cell? ⟨w.heap.size + 1 + 1, 1, none⟩ = some (.slice s1.a2 M.pend.length s1.c2) := by rw [hwF]; simp [go_sem, r1]
          have f2 : wF.cell? ⟨w.heap.size + 1 + 1, 2, none⟩ = some (.slice (some ⟨gT, 0, none⟩) (mapT A Bb M.tlb M.tlb.length).length cT) := by rw [hwF]; simp [go_sem, r2]
          have f3 : wF.cell? ⟨w.heap.size + 1 + 1, 3, none⟩ = some (.slice (some ⟨gv, 0, none⟩) (mapW A Bb M.wc M.wc.length).length cv) := by rw [hwF]; simp [go_sem, r3]
          have rF : MRow wF w1.heap.size ((⟨s1.a1, s1.c1, s1.a2, s1.c2, some ⟨gT, 0, none⟩, cT, some ⟨gv, 0, none⟩, cv⟩ : SV).mv (⟨M.mem, M.pend, M.tlb.map (doomT A Bb), M.wc.map (doomW A Bb)⟩ : Mach)) (⟨M.mem, M.pend, M.tlb.map (doomT A Bb), M.wc.map (doomW A Bb)⟩ : Mach) := by
            have e1 := HB1.out.size
            have e2 := HZ.out
            have e3 := HS12.out
            have e4 := HZO.out
            have e5 := HBO3.out.size
            have e6 := HZwT.out
            have e7 := HB3.out.size
            have hr := HRO.out.below HOW.out
            have key : ∀ {α : Type} {E : Elt α} {v : Value} {xs : List α}, ERow E wr w1.heap.size v xs → (∀ k, v.ownBlock = some k → k < w2.heap.size) → ERow E wF w1.heap.size v xs := fun hr hk => by
              refine (hr.touch HTM.out (fun k h1 h2 => by have := hk k h1; omega)).touch hTF (fun k h1 h2 => ?_)
              have := (hr.own k h1).1
              omega
            refine ⟨key hr.w (fun k h1 => (HO2.out k (.inl h1)).2), key hr.p (fun k h1 => (HO2.out k (.inr (.inl h1))).2), ?_, ?_⟩
            · show ERow eTlb wF w1.heap.size (.slice (some ⟨gT, 0, none⟩) (M.tlb.map (doomT A Bb)).length cT) (M.tlb.map (doomT A Bb))
              rw [← mapT_end]
              have h0 : ∀ k, (Value.slice (some ⟨gT, 0, none⟩) (mapT A Bb M.tlb M.tlb.length).length cT).ownBlock = some k → gT = k := fun k h1 => by simpa [Value.ownBlock] using h1
              refine (((HROWT.out.touch HTCW.out (fun k h1 h2 => ?_)).touch HTM.out (fun k h1 h2 => ?_)).touch hTF (fun k h1 h2 => ?_)).rebase2 (fun k h1 => ?_)
              · have h3 := h0 k h1; rcases HGVT.out with h4 | h4 <;> omega
              · have h3 := h0 k h1; rcases HGVT.out with h4 | h4 <;> omega
              · have h3 := h0 k h1; rcases HGVT.out with h4 | h4 <;> omega
              · have h3 := h0 k h1; rcases HGVT.out with h4 | h4 <;> omega
            · show ERow eWc wF w1.heap.size (.slice (some ⟨gv, 0, none⟩) (M.wc.map (doomW A Bb)).length cv) (M.wc.map (doomW A Bb))
              rw [← mapW_end]
              have h0 : ∀ k, (Value.slice (some ⟨gv, 0, none⟩) (mapW A Bb M.wc M.wc.length).length cv).ownBlock = some k → gv = k := fun k h1 => by simpa [Value.ownBlock] using h1
              refine ((HROWW.out.touch HTM.out (fun k h1 h2 => ?_)).touch hTF (fun k h1 h2 => ?_)).rebase2 (fun k h1 => ?_)
              · have h3 := h0 k h1; rcases HGVW.out with h4 | h4 <;> omega
              · have h3 := h0 k h1; rcases HGVW.out with h4 | h4 <;> omega
              · have h3 := h0 k h1; rcases HGVW.out with h4 | h4 <;> omega
          have hbF : Below w.heap.size w wF := Touch.below (HBB.out.trans (HBN.out.mono HBB.out.size)) hTF (by have := HBN.out.size; have := HZ.out; omega) (fun k hk => by omega)
          exact bodyPost_ret (v := .tuple #[.agg #[.slice s1.a1 M.mem.length s1.c1, .slice s1.a2 M.pend.length s1.c2, .slice (some ⟨gT, 0, none⟩) (M.tlb.map (doomT A Bb)).length cT, .slice (some ⟨gv, 0, none⟩) (M.wc.map (doomW A Bb)).length cv], .int .i64 0]) (by simp [results, Tryz.results14, go_sem, f0, f1, f2, f3, mapT_end, mapW_end]) rfl ⟨(⟨s1.a1, s1.c1, s1.a2, s1.c2, some ⟨gT, 0, none⟩, cT, some ⟨gv, 0, none⟩, cv⟩ : SV), by first | rfl | simp, rF.rebase (by have := HB1.out.size; have := HZ.out; omega), hbF⟩
end Go.Proofs.YtiiejckfcnmhoabGreat
namespace Go.Proofs.YtiiejckfcnmhoabGreat
open Go.ChangeShapes Go.WideShapes Go.ChangeAt Go.RowKit
set_option linter.unusedVariables false

theorem specStep_any (s : SV) (M : Mach) (b : Nat) (o : OpE) (w : World) (hk : MOk M) (hs : M.Small) (ho : OpOk o) (h : MRow w b (s.mv M) M) :
    Calls Tryz.prog 14 #[.agg #[.slice s.a1 M.mem.length s.c1, .slice s.a2 M.pend.length s.c2, .slice s.a3 M.tlb.length s.c3, .slice s.a4 M.wc.length s.c4], .agg #[.int .i64 o.kind, .int .i64 o.a, .int .i64 o.b, .int .u64 o.word]] w fun e w' => ∃ s' : SV, e = .returned (.tuple #[.agg #[.slice s'.a1 (stepR M o).1.mem.length s'.c1, .slice s'.a2 (stepR M o).1.pend.length s'.c2, .slice s'.a3 (stepR M o).1.tlb.length s'.c3, .slice s'.a4 (stepR M o).1.wc.length s'.c4], .int .i64 (stepR M o).2]) ∧ MRow w' w.heap.size (s'.mv (stepR M o).1) (stepR M o).1 ∧ Below w.heap.size w w' := by
  have ho1 := ho.w.1
  have ho2 : o.word < 18446744073709551616 := by have := ho.w.2; omega
  obtain ⟨K, A, Bb, W⟩ := o
  dsimp only at ho1 ho2 ⊢
  cases hv : validB M with
  | false =>
    have e : stepR M ⟨K, A, Bb, W⟩ = (zM, 9) := by unfold stepR; rw [hv]; rfl
    rw [e]
    exact stepS_bad s M b K A Bb W w hs hv h
  | true =>
    have hok := WOk.of hk hv
    have e : stepR M ⟨K, A, Bb, W⟩ = opM M ⟨K, A, Bb, W⟩ := by unfold stepR; rw [hv]; rfl
    rw [e]
    cases hop : opB M ⟨K, A, Bb, W⟩ with
    | false =>
      have e : opM M ⟨K, A, Bb, W⟩ = (M, 1) := by unfold opM; rw [if_pos hop]
      rw [e]
      exact stepS_ill s M b K A Bb W w hs hv hop h
    | true =>
      have hno : ¬ opB M ⟨K, A, Bb, W⟩ = false := by rw [hop]; decide
      by_cases k1 : K = 1
      · subst k1
        have hA : 0 ≤ A ∧ A < M.mem.length := by
          have := hop
          unfold opB at this
          rw [if_pos rfl] at this
          have := of_decide_eq_true this
          exact ⟨this.1, this.2.1⟩
        obtain ⟨a, ha⟩ : ∃ a : Nat, A = a := ⟨A.toNat, by omega⟩
        have e : opM M ⟨1, A, Bb, W⟩ = (if wrCode M ⟨1, A, Bb, W⟩ = 0 then ⟨M.mem, M.pend ++ [⟨A, W⟩], M.tlb, M.wc⟩ else M, wrCode M ⟨1, A, Bb, W⟩) := by
          unfold opM
          rw [if_neg hno, if_pos rfl]
        rw [e]
        have hcod : ∀ wX, MRow wX b (s.mv M) M → Calls Tryz.prog 67 #[.agg #[.slice s.a1 M.mem.length s.c1, .slice s.a2 M.pend.length s.c2, .slice s.a3 M.tlb.length s.c3, .slice s.a4 M.wc.length s.c4], .agg #[.int .i64 1, .int .i64 A, .int .i64 Bb, .int .u64 W]] wX fun e w' => e = .returned (.int .i64 (wrCode M ⟨1, A, Bb, W⟩)) ∧ Below wX.heap.size wX w' := fun wX hX => by
          have := wrCodeS_any s M b ⟨1, A, Bb, W⟩ a W wX hs hok hv ha rfl (by omega) ho1 ho2 hX
          rw [ha] at this ⊢
          exact this
        by_cases hc : wrCode M ⟨1, A, Bb, W⟩ = 0
        · rw [if_pos hc]
          rw [hc] at hcod ⊢
          exact stepS_wryes s M b A Bb W w hs hv hop hcod h
        · rw [if_neg hc]
          exact stepS_wrno s M b A Bb W w hs hv hop _ hc hcod h
      · by_cases k2 : K = 2
        · subst k2
          have e : opM M ⟨2, A, Bb, W⟩ = (⟨lateL M, [], M.tlb.filter (fun e => !e.doom), M.wc.filter (fun e => !e.doom)⟩, 0) := by
            unfold opM
            rw [if_neg hno, if_neg k1, if_pos rfl]
          rw [e]
          exact stepS_dsb s M b A Bb W w hs hv hok hop h
        · by_cases k3 : K = 3
          · subst k3
            have e : opM M ⟨3, A, Bb, W⟩ = (⟨M.mem, M.pend, M.tlb.map (doomT A Bb), M.wc.map (doomW A Bb)⟩, 0) := by
              unfold opM
              rw [if_neg hno, if_neg k1, if_neg k2, if_pos rfl]
            rw [e]
            exact stepS_tlbi s M b A Bb W w hs hv hop h
          · by_cases k4 : K = 4
            · subst k4
              have e : opM M ⟨4, A, Bb, W⟩ = (M, if inUse M A then 4 else 0) := by
                unfold opM
                rw [if_neg hno, if_neg k1, if_neg k2, if_neg k3]
              rw [e]
              exact stepS_free s M b A Bb W w hs hv hok hop _ rfl h
            · exfalso
              unfold opB at hop
              rw [if_neg k1, if_neg k2, if_neg k3, if_neg k4] at hop
              exact absurd hop (by decide)
end Go.Proofs.YtiiejckfcnmhoabGreat
