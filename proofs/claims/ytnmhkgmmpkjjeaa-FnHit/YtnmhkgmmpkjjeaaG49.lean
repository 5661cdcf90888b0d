import Derived.Test.YtnmhkgmmpkjjeaaG26
import Derived.Test.YtnmhkgmmpkjjeaaG29
import Derived.Test.YtnmhkgmmpkjjeaaG30
namespace Go.Proofs.Ytnmhkgmmpkjjeaa
open Go.ChangeShapes Go.WideShapes Go.ChangeAt Go.RowKit
set_option linter.unusedVariables false
attribute [local go_sem ↓] Go.wp_at_zero Go.wp_at_succ

theorem validNeed_any (n : Int) (w : World) :
    Calls Try.prog 49 #[.int .i64 n] w fun e w' => e = .returned (.bool (needOk n)) ∧ w' = w := by
  by_cases h1 : n = 1
  · subst h1
    have hv : needOk 1 = true := rfl
    rw [hv]
    go_enter Try.func49, Try.ntmps49
    go_wp2
    go_ret
    exact ⟨rfl, rfl⟩
  · have k1 : (n == 1) = false := by simpa using h1
    by_cases h2 : n = 2
    · subst h2
      have hv : needOk 2 = true := rfl
      rw [hv]
      go_enter Try.func49, Try.ntmps49
      go_wp2
      go_ret
      exact ⟨rfl, rfl⟩
    · have k2 : (n == 2) = false := by simpa using h2
      by_cases h4 : n = 4
      · subst h4
        have hv : needOk 4 = true := rfl
        rw [hv]
        go_enter Try.func49, Try.ntmps49
        go_wp2
        go_ret
        exact ⟨rfl, rfl⟩
      · have k4 : (n == 4) = false := by simpa using h4
        have hv : needOk n = false := by simp [needOk, h1, h2, h4]
        rw [hv]
        clear h1 h2 h4 hv
        go_enter Try.func49, Try.ntmps49
        go_wp2
        go_ret
        exact ⟨rfl, rfl⟩

theorem and_need (p need : Int) (hp0 : 0 ≤ p) (hp1 : p ≤ 7) (hn : needOk need = true) : bits .and .i64 p need = p / need % 2 * need := by
  obtain ⟨a, rfl⟩ := Int.eq_ofNat_of_zero_le hp0
  unfold needOk at hn
  simp only [Bool.or_eq_true, decide_eq_true_eq] at hn
  rcases hn with (h | h) | h <;> subst h
  · have h := and_i64 a 0 (by omega) (by omega)
    simp only [Nat.pow_zero] at h
    rw [show ((1 : Nat) : Int) = 1 from rfl] at h
    rw [h]; omega
  · have h := and_i64 a 1 (by omega) (by omega)
    rw [show ((2 ^ 1 : Nat) : Int) = 2 from rfl] at h
    rw [h]; omega
  · have h := and_i64 a 2 (by omega) (by omega)
    rw [show ((2 ^ 2 : Nat) : Int) = 4 from rfl] at h
    rw [h]; omega
theorem seenOf_any (h : HitR) (page need : Int) (hp : 0 ≤ h.perm ∧ h.perm ≤ 7) (hn : needOk need = true) (w : World) :
    Calls Try.prog 114 #[hitV h, .int .i64 page, .int .i64 need] w fun e w' => e = .returned (seenV (seenH page need h)) ∧ Below w.heap.size w w' := by
  have hand := and_need h.perm need hp.1 hp.2 hn
  have hnz : need = 1 ∨ need = 2 ∨ need = 4 := by
    unfold needOk at hn
    simp only [Bool.or_eq_true, decide_eq_true_eq] at hn
    omega
  unfold seenV seenH hitV lookS
  by_cases h1 : h.kind = 1
  · rw [if_pos h1]
    have k1 : (h.kind != 1) = false := by simp [h1]
    by_cases h2 : h.perm / need % 2 = 1
    · rw [if_pos h2]
      have k2 : (bits .and .i64 h.perm need == 0) = false := by rw [hand, h2]; simp; omega
      clear hand hnz h1 h2 hn hp
      generalize h.kind = K at *
      generalize h.out = O at *
      generalize h.perm = P at *
      generalize h.size = S at *
      go_enter Try.func114, Try.ntmps114
      go_wp2_with fail
      exact bodyPost_ret (v := .agg #[.int .i64 page, .int .i64 need, .int .i64 1, .int .i64 O]) (by simp [results, Try.results114, go_sem]) rfl ⟨rfl, ((Below.refl _ _).alloc (Nat.le_refl _) _).alloc (by simp) _⟩
    · rw [if_neg h2]
      have k2 : (bits .and .i64 h.perm need == 0) = true := by rw [hand, show h.perm / need % 2 = 0 by omega]; simp
      clear hand hnz h1 h2 hn hp
      generalize h.kind = K at *
      generalize h.out = O at *
      generalize h.perm = P at *
      generalize h.size = S at *
      go_enter Try.func114, Try.ntmps114
      go_wp2_with fail
      exact bodyPost_ret (v := .agg #[.int .i64 page, .int .i64 need, .int .i64 2, .int .i64 0]) (by simp [results, Try.results114, go_sem]) rfl ⟨rfl, ((Below.refl _ _).alloc (Nat.le_refl _) _).alloc (by simp) _⟩
  · rw [if_neg h1]
    have k1 : (h.kind != 1) = true := by simpa using h1
    clear hand hnz h1 hn hp
    generalize h.kind = K at *
    generalize h.out = O at *
    generalize h.perm = P at *
    generalize h.size = S at *
    go_enter Try.func114, Try.ntmps114
    go_wp2_with fail
    exact bodyPost_ret (v := .agg #[.int .i64 page, .int .i64 need, .int .i64 K, .int .i64 0]) (by simp [results, Try.results114, go_sem]) rfl ⟨rfl, ((Below.refl _ _).alloc (Nat.le_refl _) _).alloc (by simp) _⟩

theorem meets_tlb {e : TlbE} (he : TRng e) (page : Int) (hp : 0 ≤ page) : meets e.page e.size page 1 = tlbCov e page := by
  rw [Bool.eq_iff_iff, cov_iff he page hp]
  unfold meets
  simp only [Bool.and_eq_true, decide_eq_true_eq]
  omega
/-- What lookUp answers. -/
def luV (M : Mach) (page : Int) : Value := .tuple #[if firstC M page < M.tlb.length then hitV (lookUpM M page) else hitV ⟨0, 0, 0, 0⟩, .bool (decide (firstC M page < M.tlb.length))]
set_option maxRecDepth 100000 in
set_option maxHeartbeats 4000000 in
theorem lookUp_any (gu b0 B : Nat) (L : Bool) (u : UV) (M : Mach) (page : Int) (w : World) (hp0 : 0 ≤ page) (hp1 : page < 4096) (hn : M.tlb.length ≤ 256) (hv : ∀ i, i < M.tlb.length → TRng (eAt eTlb M.tlb i) ∧ 0 ≤ (eAt eTlb M.tlb i).out ∧ (eAt eTlb M.tlb i).out < 65536) (h : UM w gu b0 B L u M) :
    Calls Try.prog 113 #[.pointer (some ⟨gu, 0, none⟩), .int .i64 page] w fun r w' => r = .returned (luV M page) ∧ Below w.heap.size w w' := by
  have hlt := h.lt
  have q3 := h.q3
  obtain ⟨g, hg⟩ : ∃ g, 0 < M.tlb.length → u.a4 = some ⟨g, 0, none⟩ ∧ g < w.heap.size ∧ ∀ wX, Below w.heap.size w wX → ∀ i, i < M.tlb.length → wX.cell? ⟨g, i * 5, none⟩ = some (.int .i64 (eAt eTlb M.tlb i).page) ∧ wX.cell? ⟨g, i * 5 + 1, none⟩ = some (.int .i64 (eAt eTlb M.tlb i).size) ∧ wX.cell? ⟨g, i * 5 + 2, none⟩ = some (.bool (eAt eTlb M.tlb i).doom) ∧ wX.cell? ⟨g, i * 5 + 3, none⟩ = some (.int .i64 (eAt eTlb M.tlb i).out) ∧ wX.cell? ⟨g, i * 5 + 4, none⟩ = some (.int .i64 (eAt eTlb M.tlb i).perm) := by
    by_cases h0 : M.tlb.length = 0
    · exact ⟨0, fun h' => by omega⟩
    · obtain ⟨ga, ca, hae, haf⟩ := h.t.form
      obtain ⟨g, N, f, hag, _, hr, hN, hf⟩ := haf (by omega)
      have hga : u.a4 = some ⟨g, 0, none⟩ := by
        simp only [Value.slice.injEq] at hae
        exact hae.1.trans hag
      have hN' : M.tlb.length * 5 ≤ N := hN
      refine ⟨g, fun _ => ⟨hga, hr.lt, fun wX hX i hi => ?_⟩⟩
      have hrow : wX.rowIs g 168 N f := hr.of_block (hX.block g hr.lt)
      refine ⟨?_, ?_, ?_, ?_, ?_⟩
      · rw [hrow.cell (i := i * 5) (by omega)]; exact congrArg some (hf i hi 0 (by decide))
      · rw [hrow.cell (i := i * 5 + 1) (by omega)]; exact congrArg some (hf i hi 1 (by decide))
      · rw [hrow.cell (i := i * 5 + 2) (by omega)]; exact congrArg some (hf i hi 2 (by decide))
      · rw [hrow.cell (i := i * 5 + 3) (by omega)]; exact congrArg some (hf i hi 3 (by decide))
      · rw [hrow.cell (i := i * 5 + 4) (by omega)]; exact congrArg some (hf i hi 4 (by decide))
  obtain ⟨wb, hwb⟩ : ∃ wb, wb = w.alloc (.cells #[.int .i64 0, .int .i64 0, .int .i64 0, .int .i64 0] 32) := ⟨_, rfl⟩
  have hbb : Below w.heap.size w wb := by rw [hwb]; exact (Below.refl _ _).alloc (Nat.le_refl _) _
  have hzb : wb.heap.size = w.heap.size + 1 := by rw [hwb]; simp
  have HRES : Hid (∀ wX, Below wb.heap.size wb wX → (wX.cell? ⟨w.heap.size, 0, none⟩ = some (.int .i64 0) ∧ wX.cell? ⟨w.heap.size, 1, none⟩ = some (.int .i64 0) ∧ wX.cell? ⟨w.heap.size, 2, none⟩ = some (.int .i64 0) ∧ wX.cell? ⟨w.heap.size, 3, none⟩ = some (.int .i64 0)) ∧ (wX.frozen? ⟨w.heap.size, 0, none⟩ = false ∧ wX.frozen? ⟨w.heap.size, 1, none⟩ = false ∧ wX.frozen? ⟨w.heap.size, 2, none⟩ = false ∧ wX.frozen? ⟨w.heap.size, 3, none⟩ = false) ∧ w.heap.size < wX.heap.size) := fun wX hX => by
    refine ⟨⟨?_, ?_, ?_, ?_⟩, ⟨?_, ?_, ?_, ?_⟩, by have := hX.size; omega⟩
    iterate 4 (exact (hX.cell (by simp; omega)).trans (by rw [hwb]; simp [go_sem]))
    iterate 4 (exact (hX.frozen (by simp; omega)).trans (by rw [hwb]; simp [go_sem]))
  have HQ : Hid (∀ wX, Below wb.heap.size wb wX → wX.cell? ⟨gu, 3, none⟩ = some (.slice u.a4 M.tlb.length u.c4)) := fun wX hX => ((hbb.trans (hX.mono (by omega))).cell hlt).trans q3
  have HG : Hid _ := hg
  have HV : Hid _ := hv
  have HWB : Hid (wb = _) := hwb
  have HBB : Hid (Below _ w wb) := hbb
  have HZ : Hid (wb.heap.size = w.heap.size + 1) := hzb
  have q3b := HQ.out wb (Below.refl _ _)
  rw [hwb] at q3b
  clear h hv hg hwb hbb hzb q3
  go_enter Try.func113, Try.ntmps113
  go_wp2_with fail
  clear q3b
  go_loopw [6, 14] (fun fv iv wr => ∃ t : Nat, t ≤ M.tlb.length ∧ iv = .int .i64 t ∧ Below wb.heap.size wb wr ∧ ((fv = .pointer none ∧ ∀ j, j < t → tlbCov (eAt eTlb M.tlb j) page = false) ∨ (∃ f : Nat, f < t ∧ fv = .pointer (some ⟨g, f * 5, none⟩) ∧ tlbCov (eAt eTlb M.tlb f) page = true ∧ (∀ j, j < f → tlbCov (eAt eTlb M.tlb j) page = false) ∧ ∀ j, j < t → tlbCov (eAt eTlb M.tlb j) page = true → sameB (eAt eTlb M.tlb f) (eAt eTlb M.tlb j) = true))) (fun _ iv _ => M.tlb.length - (intOf iv).toNat)
  case atStart => exact ⟨0, Nat.zero_le _, rfl, by rw [HWB.out]; exact Below.refl _ _, .inl ⟨rfl, fun j hj => by omega⟩⟩
  case round =>
    obtain ⟨t, ht, rfl, hb, hst⟩ := hrel
    have hsz := hb.size
    have q3r := HQ.out wr hb
    by_cases htl : t < M.tlb.length
    · obtain ⟨hga, hgl, hcl⟩ := HG.out (by omega)
      have bW : Below w.heap.size w wr := HBB.out.trans (hb.mono (by have := HZ.out; omega))
      rw [hga] at q3r
      obtain ⟨e0, e1, e2, e3, e4⟩ := hcl wr bW t htl
      have HCL : Hid _ := hcl
      obtain ⟨xr, xo0, xo1⟩ := HV.out t htl
      have xs := xr.s
      have hcv := covers_hdr g (t * 5) (eAt eTlb M.tlb t).page (eAt eTlb M.tlb t).size page ⟨xr.p0, by have := xr.p1; omega⟩ ⟨by omega, by omega⟩ ⟨hp0, by omega⟩ wr e0 e1
      rw [meets_tlb xr page hp0] at hcv
      have L1 : (0 : Int) ≤ (t : Int) := by omega
      have L2 : (t : Int) < (M.tlb.length : Int) := by omega
      have HB : Hid (Below wb.heap.size wb wr) := hb
      have HBW : Hid (Below w.heap.size w wr) := bW
      clear hb bW hcl xr xo0 xo1 xs e0 e1 e2 e3 e4 hga
      cases hc : tlbCov (eAt eTlb M.tlb t) page
      · rw [hc] at hcv
        have HC : Hid _ := hc
        have HST : Hid _ := hst
        clear hc hst
        go_wp2_with fail
        refine hcv.mono ?_
        rintro e w1 ⟨rfl, hb1⟩
        have HB1 : Hid (Below wb.heap.size wb w1) := HB.out.trans (hb1.mono HB.out.size)
        clear hb1 hcv
        go_wp2_with fail
        go_roundw
        case rel =>
          refine ⟨t + 1, by omega, by go_num, HB1.out, HST.out.elim (fun h => .inl ⟨h.1, fun j hj => if e : j = t then e ▸ HC.out else h.2 j (by omega)⟩) (fun ⟨f, a1, a2, a3, a4, a5⟩ => .inr ⟨f, by omega, a2, a3, a4, fun j hj hcj => if e : j = t then by subst e; rw [HC.out] at hcj; cases hcj else a5 j (by omega) hcj⟩)⟩
        case measure => simp [intOf]; omega
      · rw [hc] at hcv
        have HC : Hid _ := hc
        clear hc
        rcases hst with ⟨rfl, hno⟩ | ⟨f, hf, rfl, hcf, hnf, hsf⟩
        · have HNO : Hid _ := hno
          clear hno
          go_wp2_with fail
          refine hcv.mono ?_
          rintro e w1 ⟨rfl, hb1⟩
          have HB1 : Hid (Below wb.heap.size wb w1) := HB.out.trans (hb1.mono HB.out.size)
          clear hb1 hcv
          go_wp2_with fail
          go_roundw
          case rel =>
            exact ⟨t + 1, by omega, by go_num, HB1.out, .inr ⟨t, by omega, rfl, HC.out, HNO.out, fun j hj hcj => if e : j = t then by subst e; exact sameB_self _ else by rw [HNO.out j (by omega)] at hcj; cases hcj⟩⟩
          case measure => simp [intOf]; omega
        · have HCF : Hid _ := hcf
          have HNF : Hid _ := hnf
          have HSF : Hid _ := hsf
          clear hcf hnf hsf
          go_wp2_with fail
          refine hcv.mono ?_
          rintro e w1 ⟨rfl, hb1⟩
          have B1 : Below w.heap.size w w1 := HBW.out.trans (hb1.mono HBW.out.size)
          obtain ⟨d0, d1, d2, d3, d4⟩ := HCL.out w1 B1 t htl
          obtain ⟨k0, k1, k2, k3, k4⟩ := HCL.out w1 B1 f (by omega)
          have hag := agrees_any g (t * 5) (eAt eTlb M.tlb t) (eAt eTlb M.tlb f) w1 (by have := B1.size; omega) d0 d1 d2 d3 d4
          have HB1 : Hid (Below wb.heap.size wb w1) := HB.out.trans (hb1.mono HB.out.size)
          have hF : firstC M page = f := firstC_at f (by omega) HNF.out HCF.out
          have HF1 : Hid _ := hF
          clear hb1 hcv B1 d0 d1 d2 d3 d4 hF
          cases hsm : sameB (eAt eTlb M.tlb t) (eAt eTlb M.tlb f)
          · rw [hsm] at hag
            have hcl2 : clashC M page = true := clash_yes t htl HC.out (by rw [HF1.out, sameB_comm]; exact hsm)
            have HEQ : Hid (luV M page = .tuple #[hitV ⟨4, 0, 0, 0⟩, .bool true]) := by
              show luV M page = _
              unfold luV lookUpM
              rw [HF1.out, hcl2, if_pos (by omega), decide_eq_true (show f < M.tlb.length by omega)]
              rfl
            clear hsm hcl2
            generalize eAt eTlb M.tlb f = y at *
            go_wp2_with fail
            refine hag.mono ?_
            rintro e w2 ⟨rfl, hb2⟩
            have b2 : Below wb.heap.size wb w2 := HB1.out.trans (hb2.mono HB1.out.size)
            obtain ⟨⟨m0, m1, m2, m3⟩, ⟨n0, n1, n2, n3⟩, N0⟩ := HRES.out w2 b2
            have HB2 : Hid (Below w.heap.size w w2) := HBB.out.trans (b2.mono (by have := HZ.out; omega))
            clear hb2 b2 hag k0 k1 k2 k3 k4
            go_wp2_with fail
            obtain ⟨wF, hwF⟩ : ∃ wF, wF = (((w2.setCell ⟨w.heap.size, 0, none⟩ (.int .i64 4)).setCell ⟨w.heap.size, 1, none⟩ (.int .i64 0)).setCell ⟨w.heap.size, 2, none⟩ (.int .i64 0)).setCell ⟨w.heap.size, 3, none⟩ (.int .i64 0) := ⟨_, rfl⟩
            rw [← hwF]
            have f0 : wF.cell? ⟨w.heap.size, 0, none⟩ = some (.int .i64 4) := by rw [hwF]; simp [go_sem, m0]
            have f1 : wF.cell? ⟨w.heap.size, 1, none⟩ = some (.int .i64 0) := by rw [hwF]; simp [go_sem, m1]
            have f2 : wF.cell? ⟨w.heap.size, 2, none⟩ = some (.int .i64 0) := by rw [hwF]; simp [go_sem, m2]
            have f3 : wF.cell? ⟨w.heap.size, 3, none⟩ = some (.int .i64 0) := by rw [hwF]; simp [go_sem, m3]
            have bF : Below w.heap.size w wF := by
              rw [hwF]
              exact (((HB2.out.setCell (by simp) _).setCell (by simp) _).setCell (by simp) _).setCell (by simp) _
            exact bodyPost_ret (v := .tuple #[.agg #[.int .i64 4, .int .i64 0, .int .i64 0, .int .i64 0], .bool true]) (by simp [results, Try.results113, go_sem, f0, f1, f2, f3]) rfl ⟨by rw [HEQ.out]; rfl, bF⟩
          · rw [hsm] at hag
            have HSM : Hid _ := hsm
            clear hsm
            go_wp2_with fail
            refine hag.mono ?_
            rintro e w2 ⟨rfl, hb2⟩
            have HB2 : Hid (Below wb.heap.size wb w2) := HB1.out.trans (hb2.mono HB1.out.size)
            clear hb2 hag k0 k1 k2 k3 k4
            go_wp2_with fail
            go_roundw
            case rel =>
              exact ⟨t + 1, by omega, by go_num, HB2.out, .inr ⟨f, by omega, rfl, HCF.out, HNF.out, fun j hj hcj => if e : j = t then by subst e; rw [sameB_comm]; exact HSM.out else HSF.out j (by omega) hcj⟩⟩
            case measure => simp [intOf]; omega
    · have e : t = M.tlb.length := by omega
      subst e
      have LF : ¬ (M.tlb.length : Int) < (M.tlb.length : Int) := by omega
      obtain ⟨⟨m0, m1, m2, m3⟩, ⟨n0, n1, n2, n3⟩, N0⟩ := HRES.out wr hb
      have HBW : Hid (Below w.heap.size w wr) := HBB.out.trans (hb.mono (by have := HZ.out; omega))
      have HB : Hid (Below wb.heap.size wb wr) := hb
      rcases hst with ⟨rfl, hno⟩ | ⟨f, hf, rfl, hcf, hnf, hsf⟩
      · have HEQ : Hid (luV M page = .tuple #[hitV ⟨0, 0, 0, 0⟩, .bool false]) := by
          show luV M page = _
          unfold luV
          rw [firstC_none hno, if_neg (by omega), decide_eq_false (by omega)]
        clear hno hb q3r
        go_wp2_with fail
        obtain ⟨wF, hwF⟩ : ∃ wF, wF = (((wr.setCell ⟨w.heap.size, 0, none⟩ (.int .i64 0)).setCell ⟨w.heap.size, 1, none⟩ (.int .i64 0)).setCell ⟨w.heap.size, 2, none⟩ (.int .i64 0)).setCell ⟨w.heap.size, 3, none⟩ (.int .i64 0) := ⟨_, rfl⟩
        rw [← hwF]
        have f0 : wF.cell? ⟨w.heap.size, 0, none⟩ = some (.int .i64 0) := by rw [hwF]; simp [go_sem, m0]
        have f1 : wF.cell? ⟨w.heap.size, 1, none⟩ = some (.int .i64 0) := by rw [hwF]; simp [go_sem, m1]
        have f2 : wF.cell? ⟨w.heap.size, 2, none⟩ = some (.int .i64 0) := by rw [hwF]; simp [go_sem, m2]
        have f3 : wF.cell? ⟨w.heap.size, 3, none⟩ = some (.int .i64 0) := by rw [hwF]; simp [go_sem, m3]
        have bF : Below w.heap.size w wF := by
          rw [hwF]
          exact (((HBW.out.setCell (by simp) _).setCell (by simp) _).setCell (by simp) _).setCell (by simp) _
        exact bodyPost_ret (v := .tuple #[.agg #[.int .i64 0, .int .i64 0, .int .i64 0, .int .i64 0], .bool false]) (by simp [results, Try.results113, go_sem, f0, f1, f2, f3]) rfl ⟨by rw [HEQ.out]; rfl, bF⟩
      · obtain ⟨hga, hgl, hcl⟩ := HG.out (by omega)
        obtain ⟨k0, k1, k2, k3, k4⟩ := hcl wr HBW.out f hf
        obtain ⟨xr, xo0, xo1⟩ := HV.out f hf
        have hht := hit_any g (f * 5) page (eAt eTlb M.tlb f).page (eAt eTlb M.tlb f).size (eAt eTlb M.tlb f).out (eAt eTlb M.tlb f).perm hp0 (by omega) xr.p0 (by have := xr.p1; omega) xo0 (by omega) wr (by omega) k0 k1 k3 k4
        have hF : firstC M page = f := firstC_at f hf hnf hcf
        have hcl2 : clashC M page = false := clash_no (fun t ht hc => by rw [hF]; exact hsf t ht hc)
        have HEQ : Hid (luV M page = .tuple #[hitV ⟨1, (eAt eTlb M.tlb f).out + page - (eAt eTlb M.tlb f).page, (eAt eTlb M.tlb f).perm, (eAt eTlb M.tlb f).size⟩, .bool true]) := by
          show luV M page = _
          unfold luV lookUpM
          rw [hF, hcl2, if_pos hf, decide_eq_true hf]
          rfl
        clear hcl hcf hnf hsf hF hcl2 hga k0 k1 k2 k3 k4 xr xo0 xo1 hb m0 m1 m2 m3 n0 n1 n2 n3 q3r
        generalize eAt eTlb M.tlb f = y at *
        go_wp2_with fail
        refine hht.mono ?_
        rintro e w2 ⟨rfl, hb2⟩
        have b2 : Below wb.heap.size wb w2 := HB.out.trans (hb2.mono HB.out.size)
        obtain ⟨⟨m0, m1, m2, m3⟩, ⟨n0, n1, n2, n3⟩, N0'⟩ := HRES.out w2 b2
        have HB2 : Hid (Below w.heap.size w w2) := HBB.out.trans (b2.mono (by have := HZ.out; omega))
        clear hb2 b2 hht
        go_wp2_with fail
        obtain ⟨wF, hwF⟩ : ∃ wF, wF = (((w2.setCell ⟨w.heap.size, 0, none⟩ (.int .i64 1)).setCell ⟨w.heap.size, 1, none⟩ (.int .i64 (y.out + page - y.page))).setCell ⟨w.heap.size, 2, none⟩ (.int .i64 y.perm)).setCell ⟨w.heap.size, 3, none⟩ (.int .i64 y.size) := ⟨_, rfl⟩
        rw [← hwF]
        have f0 : wF.cell? ⟨w.heap.size, 0, none⟩ = some (.int .i64 1) := by rw [hwF]; simp [go_sem, m0]
        have f1 : wF.cell? ⟨w.heap.size, 1, none⟩ = some (.int .i64 (y.out + page - y.page)) := by rw [hwF]; simp [go_sem, m1]
        have f2 : wF.cell? ⟨w.heap.size, 2, none⟩ = some (.int .i64 y.perm) := by rw [hwF]; simp [go_sem, m2]
        have f3 : wF.cell? ⟨w.heap.size, 3, none⟩ = some (.int .i64 y.size) := by rw [hwF]; simp [go_sem, m3]
        have bF : Below w.heap.size w wF := by
          rw [hwF]
          exact (((HB2.out.setCell (by simp) _).setCell (by simp) _).setCell (by simp) _).setCell (by simp) _
        exact bodyPost_ret (v := .tuple #[.agg #[.int .i64 1, .int .i64 (y.out + page - y.page), .int .i64 y.perm, .int .i64 y.size], .bool true]) (by simp [results, Try.results113, go_sem, f0, f1, f2, f3]) rfl ⟨by rw [HEQ.out]; rfl, bF⟩
end Go.Proofs.Ytnmhkgmmpkjjeaa
