import Derived.Test.YtgabcaldjlenpabGreatUState
import Derived.Test.YtgabcaldjlenpabGreatMAccX
import Derived.Deep.RegionHeld3
import Derived.Test.YtgabcaldjlenpabGreatUBits
import Derived.Test.YtgabcaldjlenpabGreatUWalk
import Derived.Test.YtgabcaldjlenpabGreatUValid
import Derived.Test.YtgabcaldjlenpabGreatUOpen
import Derived.Test.YtgabcaldjlenpabGreatUClose
namespace Go.Proofs.YtgabcaldjlenpabGreat
open Go.ChangeShapes Go.WideShapes Go.ChangeAt Go.RowKit
set_option linter.unusedVariables false
attribute [local go_sem ↓] Go.wp_at_zero Go.wp_at_succ

set_option maxHeartbeats 1000000 in
theorem agrees_any (b o : Nat) (x y : TlbE) (w : World) (hb : b < w.heap.size) (c0 : w.cell? ⟨b, o, none⟩ = some (.int .i64 x.page)) (c1 : w.cell? ⟨b, o + 1, none⟩ = some (.int .i64 x.size)) (c2 : w.cell? ⟨b, o + 2, none⟩ = some (.bool x.doom)) (c3 : w.cell? ⟨b, o + 3, none⟩ = some (.int .i64 x.out)) (c4 : w.cell? ⟨b, o + 4, none⟩ = some (.int .i64 x.perm)) :
    Calls Tryz.prog 130 #[.pointer (some ⟨b, o, none⟩), .agg #[.int .i64 y.page, .int .i64 y.size, .bool y.doom, .int .i64 y.out, .int .i64 y.perm]] w fun r w' => r = .returned (.bool (sameB x y)) ∧ Below w.heap.size w w' := by
  by_cases h0 : x.page = y.page
  · have k0 : (x.page == y.page) = true := by simpa using h0
    by_cases h1 : x.size = y.size
    · have k1 : (x.size == y.size) = true := by simpa using h1
      by_cases h2 : x.out = y.out
      · have k2 : (x.out == y.out) = true := by simpa using h2
        by_cases h3 : x.perm = y.perm
        · have k3 : (x.perm == y.perm) = true := by simpa using h3
          have hs : sameB x y = true := by simp [sameB, h0, h1, h2, h3]
          rw [hs]
          clear hs h0 h1 h2 h3
          go_enter Tryz.func130, Tryz.ntmps130
          go_wp2_with fail
          go_quiet (fail)
          go_wp2_with fail
          go_ret
          exact ⟨rfl, bDrewN ((Below.refl _ _).alloc (Nat.le_refl _) _) _⟩
        · have k3 : (x.perm == y.perm) = false := by simpa using h3
          have hs : sameB x y = false := by simp [sameB, h3]
          rw [hs]
          clear hs h0 h1 h2 h3
          go_enter Tryz.func130, Tryz.ntmps130
          go_wp2_with fail
          go_quiet (fail)
          go_wp2_with fail
          go_ret
          exact ⟨rfl, bDrewN ((Below.refl _ _).alloc (Nat.le_refl _) _) _⟩
      · have k2 : (x.out == y.out) = false := by simpa using h2
        have hs : sameB x y = false := by simp [sameB, h2]
        rw [hs]
        clear hs h0 h1 h2
        go_enter Tryz.func130, Tryz.ntmps130
        go_wp2_with fail
        go_quiet (fail)
        go_wp2_with fail
        go_ret
        exact ⟨rfl, bDrewN ((Below.refl _ _).alloc (Nat.le_refl _) _) _⟩
    · have k1 : (x.size == y.size) = false := by simpa using h1
      have hs : sameB x y = false := by simp [sameB, h1]
      rw [hs]
      clear hs h0 h1
      go_enter Tryz.func130, Tryz.ntmps130
      go_wp2_with fail
      go_quiet (fail)
      go_wp2_with fail
      go_ret
      exact ⟨rfl, bDrewN ((Below.refl _ _).alloc (Nat.le_refl _) _) _⟩
  · have k0 : (x.page == y.page) = false := by simpa using h0
    have hs : sameB x y = false := by simp [sameB, h0]
    rw [hs]
    clear hs h0
    go_enter Tryz.func130, Tryz.ntmps130
    go_wp2_with fail
    go_quiet (fail)
    go_wp2_with fail
    go_ret
    exact ⟨rfl, bDrewN ((Below.refl _ _).alloc (Nat.le_refl _) _) _⟩
end Go.Proofs.YtgabcaldjlenpabGreat
namespace Go.Proofs.YtgabcaldjlenpabGreat
open Go.ChangeShapes Go.WideShapes Go.ChangeAt Go.RowKit
set_option linter.unusedVariables false
attribute [local go_sem ↓] Go.wp_at_zero Go.wp_at_succ

theorem validNeed_any (n : Int) (w : World) :
    Calls Tryz.prog 49 #[.int .i64 n] w fun e w' => e = .returned (.bool (needOk n)) ∧ w' = w := by
  by_cases h1 : n = 1
  · subst h1
    have hv : needOk 1 = true := rfl
    rw [hv]
    go_enter Tryz.func49, Tryz.ntmps49
    go_wp2
    go_ret
    exact ⟨rfl, rfl⟩
  · have k1 : (n == 1) = false := by simpa using h1
    by_cases h2 : n = 2
    · subst h2
      have hv : needOk 2 = true := rfl
      rw [hv]
      go_enter Tryz.func49, Tryz.ntmps49
      go_wp2
      go_ret
      exact ⟨rfl, rfl⟩
    · have k2 : (n == 2) = false := by simpa using h2
      by_cases h4 : n = 4
      · subst h4
        have hv : needOk 4 = true := rfl
        rw [hv]
        go_enter Tryz.func49, Tryz.ntmps49
        go_wp2
        go_ret
        exact ⟨rfl, rfl⟩
      · have k4 : (n == 4) = false := by simpa using h4
        have hv : needOk n = false := by simp [needOk, h1, h2, h4]
        rw [hv]
        clear h1 h2 h4 hv
        go_enter Tryz.func49, Tryz.ntmps49
        go_wp2
        go_ret
        exact ⟨rfl, rfl⟩

theorem and_need (p need : Int) (hp0 : 0 ≤ p) (hp1 : p ≤ 7) (hn : needOk need = true) : bits .and .i64 p need = p / need % 2 * need := by
  obtain ⟨a, rfl⟩ := Int.eq_ofNat_of_zero_le hp0
  unfold needOk at hn
  simp only [Bool.or_eq_true, decide_eq_true_eq] at hn
  rcases hn with (h | h) | h <;> subst h
  · have h := and_i64 a 0 (by omega) (by omega)
    simp only [Nat.pow_zero] at h
    rw [show ((1 : Nat) : Int) = 1 from rfl] at h
    rw [h]; omega
  · have h := and_i64 a 1 (by omega) (by omega)
    rw [show ((2 ^ 1 : Nat) : Int) = 2 from rfl] at h
    rw [h]; omega
  · have h := and_i64 a 2 (by omega) (by omega)
    rw [show ((2 ^ 2 : Nat) : Int) = 4 from rfl] at h
    rw [h]; omega
theorem seenOf_any (h : HitR) (page need : Int) (hp : 0 ≤ h.perm ∧ h.perm ≤ 7) (hn : needOk need = true) (w : World) :
    Calls Tryz.prog 106 #[hitV h, .int .i64 page, .int .i64 need] w fun e w' => e = .returned (seenV (seenH page need h)) ∧ Below w.heap.size w w' := by
  have hand := and_need h.perm need hp.1 hp.2 hn
  have hnz : need = 1 ∨ need = 2 ∨ need = 4 := by
    unfold needOk at hn
    simp only [Bool.or_eq_true, decide_eq_true_eq] at hn
    omega
  unfold seenV seenH hitV lookS
  by_cases h1 : h.kind = 1
  · rw [if_pos h1]
    have k1 : (h.kind != 1) = false := by simp [h1]
    by_cases h2 : h.perm / need % 2 = 1
    · rw [if_pos h2]
      have k2 : (bits .and .i64 h.perm need == 0) = false := by rw [hand, h2]; simp; omega
      clear hand hnz h1 h2 hn hp
      generalize h.kind = K at *
      generalize h.out = O at *
      generalize h.perm = P at *
      generalize h.size = S at *
      go_enter Tryz.func106, Tryz.ntmps106
      go_wp2_with fail
      exact bodyPost_ret (v := .agg #[.int .i64 page, .int .i64 need, .int .i64 1, .int .i64 O]) (by simp [results, Tryz.results106, go_sem]) rfl ⟨rfl, ((Below.refl _ _).alloc (Nat.le_refl _) _).alloc (by simp) _⟩
    · rw [if_neg h2]
      have k2 : (bits .and .i64 h.perm need == 0) = true := by rw [hand, show h.perm / need % 2 = 0 by omega]; simp
      clear hand hnz h1 h2 hn hp
      generalize h.kind = K at *
      generalize h.out = O at *
      generalize h.perm = P at *
      generalize h.size = S at *
      go_enter Tryz.func106, Tryz.ntmps106
      go_wp2_with fail
      exact bodyPost_ret (v := .agg #[.int .i64 page, .int .i64 need, .int .i64 2, .int .i64 0]) (by simp [results, Tryz.results106, go_sem]) rfl ⟨rfl, ((Below.refl _ _).alloc (Nat.le_refl _) _).alloc (by simp) _⟩
  · rw [if_neg h1]
    have k1 : (h.kind != 1) = true := by simpa using h1
    clear hand hnz h1 hn hp
    generalize h.kind = K at *
    generalize h.out = O at *
    generalize h.perm = P at *
    generalize h.size = S at *
    go_enter Tryz.func106, Tryz.ntmps106
    go_wp2_with fail
    exact bodyPost_ret (v := .agg #[.int .i64 page, .int .i64 need, .int .i64 K, .int .i64 0]) (by simp [results, Tryz.results106, go_sem]) rfl ⟨rfl, ((Below.refl _ _).alloc (Nat.le_refl _) _).alloc (by simp) _⟩

theorem meets_tlb {e : TlbE} (he : TRng e) (page : Int) (hp : 0 ≤ page) : meets e.page e.size page 1 = tlbCov e page := by
  rw [Bool.eq_iff_iff, cov_iff he page hp]
  unfold meets
  simp only [Bool.and_eq_true, decide_eq_true_eq]
  omega
/-- What lookUp answers. -/
def luV (M : Mach) (page : Int) : Value := .tuple #[if firstC M page < M.tlb.length then hitV (lookUpM M page) else hitV ⟨0, 0, 0, 0⟩, .bool (decide (firstC M page < M.tlb.length))]
set_option maxRecDepth 100000 in
set_option maxHeartbeats 4000000 in
theorem lookUp_any (gu b0 B : Nat) (L : Bool) (u : UV) (M : Mach) (page : Int) (w : World) (hp0 : 0 ≤ page) (hp1 : page < 4096) (hn : M.tlb.length ≤ 256) (hv : ∀ i, i < M.tlb.length → TRng (eAt eTlb M.tlb i) ∧ 0 ≤ (eAt eTlb M.tlb i).out ∧ (eAt eTlb M.tlb i).out < 65536) (h : UM w gu b0 B L u M) :
    Calls Tryz.prog 104 #[.pointer (some ⟨gu, 0, none⟩), .int .i64 page] w fun r w' => r = .returned (luV M page) ∧ Below w.heap.size w w' := by
  have hlt := h.lt
  have q3 := h.q3
  obtain ⟨g, hg⟩ : ∃ g, 0 < M.tlb.length → u.a4 = some ⟨g, 0, none⟩ ∧ g < w.heap.size ∧ ∀ wX, Below w.heap.size w wX → ∀ i, i < M.tlb.length → wX.cell? ⟨g, i * 5, none⟩ = some (.int .i64 (eAt eTlb M.tlb i).page) ∧ wX.cell? ⟨g, i * 5 + 1, none⟩ = some (.int .i64 (eAt eTlb M.tlb i).size) ∧ wX.cell? ⟨g, i * 5 + 2, none⟩ = some (.bool (eAt eTlb M.tlb i).doom) ∧ wX.cell? ⟨g, i * 5 + 3, none⟩ = some (.int .i64 (eAt eTlb M.tlb i).out) ∧ wX.cell? ⟨g, i * 5 + 4, none⟩ = some (.int .i64 (eAt eTlb M.tlb i).perm) := by
    by_cases h0 : M.tlb.length = 0
    · exact ⟨0, fun h' => by omega⟩
    · obtain ⟨ga, ca, hae, haf⟩ := h.t.form
      obtain ⟨g, N, f, hag, _, hr, hN, hf⟩ := haf (by omega)
      have hga : u.a4 = some ⟨g, 0, none⟩ := by
        simp only [Value.slice.injEq] at hae
        exact hae.1.trans hag
      have hN' : M.tlb.length * 5 ≤ N := hN
      refine ⟨g, fun _ => ⟨hga, hr.lt, fun wX hX i hi => ?_⟩⟩
      have hrow : wX.rowIs g 156 N f := hr.of_block (hX.block g hr.lt)
      refine ⟨?_, ?_, ?_, ?_, ?_⟩
      · rw [hrow.cell (i := i * 5) (by omega)]; exact congrArg some (hf i hi 0 (by decide))
      · rw [hrow.cell (i := i * 5 + 1) (by omega)]; exact congrArg some (hf i hi 1 (by decide))
      · rw [hrow.cell (i := i * 5 + 2) (by omega)]; exact congrArg some (hf i hi 2 (by decide))
      · rw [hrow.cell (i := i * 5 + 3) (by omega)]; exact congrArg some (hf i hi 3 (by decide))
      · rw [hrow.cell (i := i * 5 + 4) (by omega)]; exact congrArg some (hf i hi 4 (by decide))
  obtain ⟨wb, hwb⟩ : ∃ wb, wb = w.alloc (.cells #[.int .i64 0, .int .i64 0, .int .i64 0, .int .i64 0] 87) := ⟨_, rfl⟩
  have hbb : Below w.heap.size w wb := by rw [hwb]; exact (Below.refl _ _).alloc (Nat.le_refl _) _
  have hzb : wb.heap.size = w.heap.size + 1 := by rw [hwb]; simp
  have HRES : Hid (∀ wX, Below wb.heap.size wb wX → (wX.cell? ⟨w.heap.size, 0, none⟩ = some (.int .i64 0) ∧ wX.cell? ⟨w.heap.size, 1, none⟩ = some (.int .i64 0) ∧ wX.cell? ⟨w.heap.size, 2, none⟩ = some (.int .i64 0) ∧ wX.cell? ⟨w.heap.size, 3, none⟩ = some (.int .i64 0)) ∧ (wX.frozen? ⟨w.heap.size, 0, none⟩ = false ∧ wX.frozen? ⟨w.heap.size, 1, none⟩ = false ∧ wX.frozen? ⟨w.heap.size, 2, none⟩ = false ∧ wX.frozen? ⟨w.heap.size, 3, none⟩ = false) ∧ w.heap.size < wX.heap.size) := fun wX hX => by
    refine ⟨⟨?_, ?_, ?_, ?_⟩, ⟨?_, ?_, ?_, ?_⟩, by have := hX.size; omega⟩
    iterate 4 (exact (hX.cell (by simp; omega)).trans (by rw [hwb]; simp [go_sem]))
    iterate 4 (exact (hX.frozen (by simp; omega)).trans (by rw [hwb]; simp [go_sem]))
  have HQ : Hid (∀ wX, Below wb.heap.size wb wX → wX.cell? ⟨gu, 3, none⟩ = some (.slice u.a4 M.tlb.length u.c4)) := fun wX hX => ((hbb.trans (hX.mono (by omega))).cell hlt).trans q3
  have HG : Hid _ := hg
  have HV : Hid _ := hv
  have HWB : Hid (wb = _) := hwb
  have HBB : Hid (Below _ w wb) := hbb
  have HZ : Hid (wb.heap.size = w.heap.size + 1) := hzb
  have q3b := HQ.out wb (Below.refl _ _)
  rw [hwb] at q3b
  clear h hv hg hwb hbb hzb q3
  go_enter Tryz.func104, Tryz.ntmps104
  go_wp2_with fail
  clear q3b
  go_loopw [6, 14] (fun fv iv wr => ∃ t : Nat, t ≤ M.tlb.length ∧ iv = .int .i64 t ∧ Below wb.heap.size wb wr ∧ ((fv = .pointer none ∧ ∀ j, j < t → tlbCov (eAt eTlb M.tlb j) page = false) ∨ (∃ f : Nat, f < t ∧ fv = .pointer (some ⟨g, f * 5, none⟩) ∧ tlbCov (eAt eTlb M.tlb f) page = true ∧ (∀ j, j < f → tlbCov (eAt eTlb M.tlb j) page = false) ∧ ∀ j, j < t → tlbCov (eAt eTlb M.tlb j) page = true → sameB (eAt eTlb M.tlb f) (eAt eTlb M.tlb j) = true))) (fun _ iv _ => M.tlb.length - (intOf iv).toNat)
  case atStart => exact ⟨0, Nat.zero_le _, rfl, by rw [HWB.out]; exact Below.refl _ _, .inl ⟨rfl, fun j hj => by omega⟩⟩
  case round =>
    obtain ⟨t, ht, rfl, hb, hst⟩ := hrel
    have hsz := hb.size
    have q3r := HQ.out wr hb
    by_cases htl : t < M.tlb.length
    · obtain ⟨hga, hgl, hcl⟩ := HG.out (by omega)
      have bW : Below w.heap.size w wr := HBB.out.trans (hb.mono (by have := HZ.out; omega))
      rw [hga] at q3r
      obtain ⟨e0, e1, e2, e3, e4⟩ := hcl wr bW t htl
      have HCL : Hid _ := hcl
      obtain ⟨xr, xo0, xo1⟩ := HV.out t htl
      have xs := xr.s
      have hcv := covers_hdr g (t * 5) (eAt eTlb M.tlb t).page (eAt eTlb M.tlb t).size page ⟨xr.p0, by have := xr.p1; omega⟩ ⟨by omega, by omega⟩ ⟨hp0, by omega⟩ wr e0 e1
      rw [meets_tlb xr page hp0] at hcv
      have L1 : (0 : Int) ≤ (t : Int) := by omega
      have L2 : (t : Int) < (M.tlb.length : Int) := by omega
      have HB : Hid (Below wb.heap.size wb wr) := hb
      have HBW : Hid (Below w.heap.size w wr) := bW
      clear hb bW hcl xr xo0 xo1 xs e0 e1 e2 e3 e4 hga
      cases hc : tlbCov (eAt eTlb M.tlb t) page
      · rw [hc] at hcv
        have HC : Hid _ := hc
        have HST : Hid _ := hst
        clear hc hst
        go_wp2_with fail
        refine hcv.mono ?_
        rintro e w1 ⟨rfl, hb1⟩
        have HB1 : Hid (Below wb.heap.size wb w1) := HB.out.trans (hb1.mono HB.out.size)
        clear hb1 hcv
        go_wp2_with fail
        go_roundw
        case rel =>
          refine ⟨t + 1, by omega, by go_num, HB1.out, HST.out.elim (fun h => .inl ⟨h.1, fun j hj => if e : j = t then e ▸ HC.out else h.2 j (by omega)⟩) (fun ⟨f, a1, a2, a3, a4, a5⟩ => .inr ⟨f, by omega, a2, a3, a4, fun j hj hcj => if e : j = t then by subst e; rw [HC.out] at hcj; cases hcj else a5 j (by omega) hcj⟩)⟩
        case measure => simp [intOf]; omega
      · rw [hc] at hcv
        have HC : Hid _ := hc
        clear hc
        rcases hst with ⟨rfl, hno⟩ | ⟨f, hf, rfl, hcf, hnf, hsf⟩
        · have HNO : Hid _ := hno
          clear hno
          go_wp2_with fail
          refine hcv.mono ?_
          rintro e w1 ⟨rfl, hb1⟩
          have HB1 : Hid (Below wb.heap.size wb w1) := HB.out.trans (hb1.mono HB.out.size)
          clear hb1 hcv
          go_wp2_with fail
          go_roundw
          case rel =>
            exact ⟨t + 1, by omega, by go_num, HB1.out, .inr ⟨t, by omega, rfl, HC.out, HNO.out, fun j hj hcj => if e : j = t then by subst e; exact sameB_self _ else by rw [HNO.out j (by omega)] at hcj; cases hcj⟩⟩
          case measure => simp [intOf]; omega
        · have HCF : Hid _ := hcf
          have HNF : Hid _ := hnf
          have HSF : Hid _ := hsf
          clear hcf hnf hsf
          go_wp2_with fail
          refine hcv.mono ?_
          rintro e w1 ⟨rfl, hb1⟩
          have B1 : Below w.heap.size w w1 := HBW.out.trans (hb1.mono HBW.out.size)
          obtain ⟨d0, d1, d2, d3, d4⟩ := HCL.out w1 B1 t htl
          obtain ⟨k0, k1, k2, k3, k4⟩ := HCL.out w1 B1 f (by omega)
          have hag := agrees_any g (t * 5) (eAt eTlb M.tlb t) (eAt eTlb M.tlb f) w1 (by have := B1.size; omega) d0 d1 d2 d3 d4
          have HB1 : Hid (Below wb.heap.size wb w1) := HB.out.trans (hb1.mono HB.out.size)
          have hF : firstC M page = f := firstC_at f (by omega) HNF.out HCF.out
          have HF1 : Hid _ := hF
          clear hb1 hcv B1 d0 d1 d2 d3 d4 hF
          cases hsm : sameB (eAt eTlb M.tlb t) (eAt eTlb M.tlb f)
          · rw [hsm] at hag
            have hcl2 : clashC M page = true := clash_yes t htl HC.out (by rw [HF1.out, sameB_comm]; exact hsm)
            have HEQ : Hid (luV M page = .tuple #[hitV ⟨4, 0, 0, 0⟩, .bool true]) := by
              show luV M page = _
              unfold luV lookUpM
              rw [HF1.out, hcl2, if_pos (by omega), decide_eq_true (show f < M.tlb.length by omega)]
              rfl
            clear hsm hcl2
            generalize eAt eTlb M.tlb f = y at *
            go_wp2_with fail
            refine hag.mono ?_
            rintro e w2 ⟨rfl, hb2⟩
            have b2 : Below wb.heap.size wb w2 := HB1.out.trans (hb2.mono HB1.out.size)
            obtain ⟨⟨m0, m1, m2, m3⟩, ⟨n0, n1, n2, n3⟩, N0⟩ := HRES.out w2 b2
            have HB2 : Hid (Below w.heap.size w w2) := HBB.out.trans (b2.mono (by have := HZ.out; omega))
            clear hb2 b2 hag k0 k1 k2 k3 k4
            go_wp2_with fail
            obtain ⟨wF, hwF⟩ : ∃ wF, wF = (((w2.setCell ⟨w.heap.size, 0, none⟩ (.int .i64 4)).setCell ⟨w.heap.size, 1, none⟩ (.int .i64 0)).setCell ⟨w.heap.size, 2, none⟩ (.int .i64 0)).setCell ⟨w.heap.size, 3, none⟩ (.int .i64 0) := ⟨_, rfl⟩
            rw [← hwF]
            have f0 : wF.cell? ⟨w.heap.size, 0, none⟩ = some (.int .i64 4) := by rw [hwF]; simp [go_sem, m0]
            have f1 : wF.cell? ⟨w.heap.size, 1, none⟩ = some (.int .i64 0) := by rw [hwF]; simp [go_sem, m1]
            have f2 : wF.cell? ⟨w.heap.size, 2, none⟩ = some (.int .i64 0) := by rw [hwF]; simp [go_sem, m2]
            have f3 : wF.cell? ⟨w.heap.size, 3, none⟩ = some (.int .i64 0) := by rw [hwF]; simp [go_sem, m3]
            have bF : Below w.heap.size w wF := by
              rw [hwF]
              exact (((HB2.out.setCell (by simp) _).setCell (by simp) _).setCell (by simp) _).setCell (by simp) _
            exact bodyPost_ret (v := .tuple #[.agg #[.int .i64 4, .int .i64 0, .int .i64 0, .int .i64 0], .bool true]) (by simp [results, Tryz.results104, go_sem, f0, f1, f2, f3]) rfl ⟨by rw [HEQ.out]; rfl, bF⟩
          · rw [hsm] at hag
            have HSM : Hid _ := hsm
            clear hsm
            go_wp2_with fail
            refine hag.mono ?_
            rintro e w2 ⟨rfl, hb2⟩
            have HB2 : Hid (Below wb.heap.size wb w2) := HB1.out.trans (hb2.mono HB1.out.size)
            clear hb2 hag k0 k1 k2 k3 k4
            go_wp2_with fail
            go_roundw
            case rel =>
              exact ⟨t + 1, by omega, by go_num, HB2.out, .inr ⟨f, by omega, rfl, HCF.out, HNF.out, fun j hj hcj => if e : j = t then by subst e; rw [sameB_comm]; exact HSM.out else HSF.out j (by omega) hcj⟩⟩
            case measure => simp [intOf]; omega
    · have e : t = M.tlb.length := by omega
      subst e
      have LF : ¬ (M.tlb.length : Int) < (M.tlb.length : Int) := by omega
      obtain ⟨⟨m0, m1, m2, m3⟩, ⟨n0, n1, n2, n3⟩, N0⟩ := HRES.out wr hb
      have HBW : Hid (Below w.heap.size w wr) := HBB.out.trans (hb.mono (by have := HZ.out; omega))
      have HB : Hid (Below wb.heap.size wb wr) := hb
      rcases hst with ⟨rfl, hno⟩ | ⟨f, hf, rfl, hcf, hnf, hsf⟩
      · have HEQ : Hid (luV M page = .tuple #[hitV ⟨0, 0, 0, 0⟩, .bool false]) := by
          show luV M page = _
          unfold luV
          rw [firstC_none hno, if_neg (by omega), decide_eq_false (by omega)]
        clear hno hb q3r
        go_wp2_with fail
        obtain ⟨wF, hwF⟩ : ∃ wF, wF = (((wr.setCell ⟨w.heap.size, 0, none⟩ (.int .i64 0)).setCell ⟨w.heap.size, 1, none⟩ (.int .i64 0)).setCell ⟨w.heap.size, 2, none⟩ (.int .i64 0)).setCell ⟨w.heap.size, 3, none⟩ (.int .i64 0) := ⟨_, rfl⟩
        rw [← hwF]
        have f0 : wF.cell? ⟨w.heap.size, 0, none⟩ = some (.int .i64 0) := by rw [hwF]; simp [go_sem, m0]
        have f1 : wF.cell? ⟨w.heap.size, 1, none⟩ = some (.int .i64 0) := by rw [hwF]; simp [go_sem, m1]
        have f2 : wF.cell? ⟨w.heap.size, 2, none⟩ = some (.int .i64 0) := by rw [hwF]; simp [go_sem, m2]
        have f3 : wF.cell? ⟨w.heap.size, 3, none⟩ = some (.int .i64 0) := by rw [hwF]; simp [go_sem, m3]
        have bF : Below w.heap.size w wF := by
          rw [hwF]
          exact (((HBW.out.setCell (by simp) _).setCell (by simp) _).setCell (by simp) _).setCell (by simp) _
        exact bodyPost_ret (v := .tuple #[.agg #[.int .i64 0, .int .i64 0, .int .i64 0, .int .i64 0], .bool false]) (by simp [results, Tryz.results104, go_sem, f0, f1, f2, f3]) rfl ⟨by rw [HEQ.out]; rfl, bF⟩
      · obtain ⟨hga, hgl, hcl⟩ := HG.out (by omega)
        obtain ⟨k0, k1, k2, k3, k4⟩ := hcl wr HBW.out f hf
        obtain ⟨xr, xo0, xo1⟩ := HV.out f hf
        have hht := hit_any g (f * 5) page (eAt eTlb M.tlb f).page (eAt eTlb M.tlb f).size (eAt eTlb M.tlb f).out (eAt eTlb M.tlb f).perm hp0 (by omega) xr.p0 (by have := xr.p1; omega) xo0 (by omega) wr (by omega) k0 k1 k3 k4
        have hF : firstC M page = f := firstC_at f hf hnf hcf
        have hcl2 : clashC M page = false := clash_no (fun t ht hc => by rw [hF]; exact hsf t ht hc)
        have HEQ : Hid (luV M page = .tuple #[hitV ⟨1, (eAt eTlb M.tlb f).out + page - (eAt eTlb M.tlb f).page, (eAt eTlb M.tlb f).perm, (eAt eTlb M.tlb f).size⟩, .bool true]) := by
          show luV M page = _
          unfold luV lookUpM
          rw [hF, hcl2, if_pos hf, decide_eq_true hf]
          rfl
        clear hcl hcf hnf hsf hF hcl2 hga k0 k1 k2 k3 k4 xr xo0 xo1 hb m0 m1 m2 m3 n0 n1 n2 n3 q3r
        generalize eAt eTlb M.tlb f = y at *
        go_wp2_with fail
        refine hht.mono ?_
        rintro e w2 ⟨rfl, hb2⟩
        have b2 : Below wb.heap.size wb w2 := HB.out.trans (hb2.mono HB.out.size)
        obtain ⟨⟨m0, m1, m2, m3⟩, ⟨n0, n1, n2, n3⟩, N0'⟩ := HRES.out w2 b2
        have HB2 : Hid (Below w.heap.size w w2) := HBB.out.trans (b2.mono (by have := HZ.out; omega))
        clear hb2 b2 hht
        go_wp2_with fail
        obtain ⟨wF, hwF⟩ : ∃ wF, wF = (((w2.setCell ⟨w.heap.size, 0, none⟩ (.int .i64 1)).setCell ⟨w.heap.size, 1, none⟩ (.int .i64 (y.out + page - y.page))).setCell ⟨w.heap.size, 2, none⟩ (.int .i64 y.perm)).setCell ⟨w.heap.size, 3, none⟩ (.int .i64 y.size) := ⟨_, rfl⟩
        rw [← hwF]
        have f0 : wF.cell? ⟨w.heap.size, 0, none⟩ = some (.int .i64 1) := by rw [hwF]; simp [go_sem, m0]
        have f1 : wF.cell? ⟨w.heap.size, 1, none⟩ = some (.int .i64 (y.out + page - y.page)) := by rw [hwF]; simp [go_sem, m1]
        have f2 : wF.cell? ⟨w.heap.size, 2, none⟩ = some (.int .i64 y.perm) := by rw [hwF]; simp [go_sem, m2]
        have f3 : wF.cell? ⟨w.heap.size, 3, none⟩ = some (.int .i64 y.size) := by rw [hwF]; simp [go_sem, m3]
        have bF : Below w.heap.size w wF := by
          rw [hwF]
          exact (((HB2.out.setCell (by simp) _).setCell (by simp) _).setCell (by simp) _).setCell (by simp) _
        exact bodyPost_ret (v := .tuple #[.agg #[.int .i64 1, .int .i64 (y.out + page - y.page), .int .i64 y.perm, .int .i64 y.size], .bool true]) (by simp [results, Tryz.results104, go_sem, f0, f1, f2, f3]) rfl ⟨by rw [HEQ.out]; rfl, bF⟩
end Go.Proofs.YtgabcaldjlenpabGreat
namespace Go.Proofs.YtgabcaldjlenpabGreat
open Go.ChangeShapes Go.WideShapes Go.ChangeAt Go.RowKit
set_option linter.unusedVariables false
attribute [local go_sem ↓] Go.wp_at_zero Go.wp_at_succ


theorem Touch.put4 (a : World) (B : Nat) (v0 v1 v2 v3 : Value) : Touch (fun k => k = B) a ((((a.setCell ⟨B, 0, Option.none⟩ v0).setCell ⟨B, 1, Option.none⟩ v1).setCell ⟨B, 2, Option.none⟩ v2).setCell ⟨B, 3, Option.none⟩ v3) := by
  refine ⟨rfl, rfl, rfl, by simp, fun k hk hn => ?_⟩
  have n1 : k ≠ B := hn
  rw [Below.heap_setCell _ _ _ _ (by exact n1), Below.heap_setCell _ _ _ _ (by exact n1), Below.heap_setCell _ _ _ _ (by exact n1), Below.heap_setCell _ _ _ _ (by exact n1)]
set_option maxRecDepth 100000 in
set_option maxHeartbeats 4000000 in
theorem access_any (gu b0 B : Nat) (u : UV) (M : Mach) (page need choice : Int) (w : World) (hp0 : 0 ≤ page) (hp1 : page < 4096) (hc0 : 0 ≤ choice) (hc1 : choice ≤ 65535) (hnd : needOk need = true) (hok : WOk M) (hv : validB M = true) (hB : B ≤ w.heap.size) (h : UM w gu b0 B true u M) :
    Calls Tryz.prog 52 #[.pointer (some ⟨gu, 0, none⟩), .int .i64 page, .int .i64 need, .int .i64 choice] w fun r w' => r = .returned (seenV (accS M page need choice)) ∧ ∃ u', UStep w w' gu b0 B true u u' (accN M page choice) := by
  have hh := has_any choice 7 128 rfl (by omega) hc0 hc1
  obtain ⟨wb, hwb⟩ : ∃ wb, wb = (w.alloc (.cells #[.int .i64 0, .int .i64 0, .int .i64 0, .int .i64 0] 38)).alloc (.cells #[.int .i64 0, .int .i64 0, .int .i64 0, .int .i64 0] 87) := ⟨_, rfl⟩
  have hbb : Below w.heap.size w wb := by rw [hwb]; exact ((Below.refl _ _).alloc (Nat.le_refl _) _).alloc (by simp) _
  have hzb : wb.heap.size = w.heap.size + 2 := by rw [hwb]; simp
  have HRES : Hid (∀ wX, Below wb.heap.size wb wX → (wX.cell? ⟨w.heap.size, 0, none⟩ = some (.int .i64 0) ∧ wX.cell? ⟨w.heap.size, 1, none⟩ = some (.int .i64 0) ∧ wX.cell? ⟨w.heap.size, 2, none⟩ = some (.int .i64 0) ∧ wX.cell? ⟨w.heap.size, 3, none⟩ = some (.int .i64 0)) ∧ (wX.cell? ⟨w.heap.size + 1, 0, none⟩ = some (.int .i64 0) ∧ wX.cell? ⟨w.heap.size + 1, 1, none⟩ = some (.int .i64 0) ∧ wX.cell? ⟨w.heap.size + 1, 2, none⟩ = some (.int .i64 0) ∧ wX.cell? ⟨w.heap.size + 1, 3, none⟩ = some (.int .i64 0)) ∧ (wX.frozen? ⟨w.heap.size, 0, none⟩ = false ∧ wX.frozen? ⟨w.heap.size, 1, none⟩ = false ∧ wX.frozen? ⟨w.heap.size, 2, none⟩ = false ∧ wX.frozen? ⟨w.heap.size, 3, none⟩ = false) ∧ (wX.frozen? ⟨w.heap.size + 1, 0, none⟩ = false ∧ wX.frozen? ⟨w.heap.size + 1, 1, none⟩ = false ∧ wX.frozen? ⟨w.heap.size + 1, 2, none⟩ = false ∧ wX.frozen? ⟨w.heap.size + 1, 3, none⟩ = false) ∧ w.heap.size + 1 < wX.heap.size) := fun wX hX => by
    refine ⟨⟨?_, ?_, ?_, ?_⟩, ⟨?_, ?_, ?_, ?_⟩, ⟨?_, ?_, ?_, ?_⟩, ⟨?_, ?_, ?_, ?_⟩, by have := hX.size; omega⟩
    iterate 8 (exact (hX.cell (by simp; omega)).trans (by rw [hwb]; simp [go_sem]))
    iterate 8 (exact (hX.frozen (by simp; omega)).trans (by rw [hwb]; simp [go_sem]))
  have HUM : Hid (UM w gu b0 B true u M) := h
  obtain ⟨R, hR⟩ : ∃ R, R = walkM M page choice := ⟨_, rfl⟩
  have HWK : Hid (∀ wX, Below w.heap.size w wX → Calls Tryz.prog 105 #[.pointer (some ⟨gu, 0, none⟩), .int .i64 page, .int .i64 choice] wX fun r w' => r = .returned (.agg #[.int .i64 R.2.kind, .int .i64 R.2.out, .int .i64 R.2.perm, .int .i64 R.2.size]) ∧ ∃ u', UStep wX w' gu b0 B true u u' R.1) := fun wX hX => by
    rw [hR]
    exact walk_any gu b0 B true u M page choice wX hp0 hp1 hc0 hc1 hok (by have := hX.size; omega) (fun i hi => by
      have h1 := valid_wc hv i hi
      unfold wcOkB at h1
      simp only [Bool.and_eq_true, Bool.or_eq_true, decide_eq_true_eq] at h1
      have h2 : 0 ≤ (eAt eWc M.wc i).page ∧ (eAt eWc M.wc i).page < 4096 := by simpa [pageOk] using h1.1.1.1.2
      exact ⟨h1.1.1.1.1, h2.1, h2.2, h1.1.1.2⟩) (startM_ok hv page choice) (.inl rfl) (fun _ i hi => (valid_pend hv i hi).1) (h.below hX)
  have HSO : Hid (∀ wX, Calls Tryz.prog 106 #[.agg #[.int .i64 R.2.kind, .int .i64 R.2.out, .int .i64 R.2.perm, .int .i64 R.2.size], .int .i64 page, .int .i64 need] wX fun e w' => e = .returned (seenV (seenH page need R.2)) ∧ Below wX.heap.size wX w') := fun wX => by
    rw [hR]
    exact seenOf_any _ page need (walkM_perm M page choice) hnd wX
  have hent : ∀ i, i < M.tlb.length → (TRng (eAt eTlb M.tlb i) ∧ 0 ≤ (eAt eTlb M.tlb i).out ∧ (eAt eTlb M.tlb i).out < 65536) ∧ 0 ≤ (eAt eTlb M.tlb i).perm ∧ (eAt eTlb M.tlb i).perm ≤ 7 := fun i hi => by
    have h1 := valid_tlb hv i hi
    unfold tlbOkB at h1
    simp only [Bool.and_eq_true, Bool.or_eq_true, decide_eq_true_eq] at h1
    exact ⟨⟨valid_trng hv i hi, h1.1.1.2, h1.1.2⟩, by omega, h1.1.1.1.2⟩
  have HLU : Hid (∀ wX, Below w.heap.size w wX → Calls Tryz.prog 104 #[.pointer (some ⟨gu, 0, none⟩), .int .i64 page] wX fun r w' => r = .returned (luV M page) ∧ Below wX.heap.size wX w') := fun wX hX => lookUp_any gu b0 B true u M page wX hp0 hp1 hok.t (fun i hi => (hent i hi).1) (h.below hX)
  have HLP : Hid (firstC M page < M.tlb.length → 0 ≤ (lookUpM M page).perm ∧ (lookUpM M page).perm ≤ 7) := fun hf => by
    unfold lookUpM
    split
    · exact ⟨by simp, by simp⟩
    · exact (hent _ hf).2
  have HWB : Hid (wb = _) := hwb
  have HBB : Hid (Below _ w wb) := hbb
  have HZ : Hid (wb.heap.size = w.heap.size + 2) := hzb
  -- the end of the walk's way
  have HFIN : Hid (∀ (wA w3 : World) (u' : UV), Below w.heap.size w wA → w.heap.size + 1 < wA.heap.size → UStep wA w3 gu b0 B true u u' R.1 → ∀ ws, Touch (fun k => k = w.heap.size + 1) w3 ws → ∀ w4, Below ws.heap.size ws w4 → ∀ wF, Touch (fun k => k = w.heap.size) w4 wF → UStep w wF gu b0 B true u u' R.1) := by
    intro wA w3 u' hA hs hst ws hT1 w4 hb4 wF hT2
    have hlt : ∀ k, u.wr gu k → k < w.heap.size := fun k hk => h.wr_lt k hk
    have n0 : ¬ u'.wr gu w.heap.size := hst.wr_new (by omega) (fun hk => by have := hlt _ hk; omega)
    have n1 : ¬ u'.wr gu (w.heap.size + 1) := hst.wr_new hs (fun hk => by have := hlt _ hk; omega)
    have s1 : UStep w w3 gu b0 B true u u' R.1 := UStep.seal hA h hst ⟨rfl, rfl, rfl, Nat.le_refl _, fun _ _ _ => rfl⟩
    have s2 : UStep w ws gu b0 B true u u' R.1 := UStep.own h s1 hT1 (by omega) n1
    have s3 : UStep w w4 gu b0 B true u u' R.1 := UStep.trans s2 (UStep.refl s2.um hb4)
    exact UStep.own h s3 hT2 (Nat.le_refl _) n0
  have HNW : Hid (∀ (wA w3 : World) (u' : UV), Below w.heap.size w wA → UStep wA w3 gu b0 B true u u' R.1 → ∀ k, w.heap.size ≤ k → k < wA.heap.size → w3.heap[k]? = wA.heap[k]?) := by
    intro wA w3 u' hA hst k hk hk2
    exact hst.tch.block k hk2 (fun hw => by have := h.wr_lt k hw; omega)
  have HN : Hid (useT M page choice = false → accN M page choice = R.1 ∧ accS M page need choice = seenH page need R.2) := fun hu => by
    unfold accN accS
    rw [hu, hR]
    exact ⟨rfl, rfl⟩
  have HY : Hid (useT M page choice = true → accN M page choice = M ∧ accS M page need choice = seenH page need (lookUpM M page)) := fun hu => by
    unfold accN accS
    rw [hu]
    exact ⟨rfl, rfl⟩
  have HUT : Hid (useT M page choice = (bitI choice 7 && decide (firstC M page < M.tlb.length))) := rfl
  clear hwb hbb hzb h hR hent hok hv
  cases hb7 : bitI choice 7
  · rw [hb7] at hh
    have HV2 : Hid (accN M page choice = R.1 ∧ accS M page need choice = seenH page need R.2) := HN.out (by rw [HUT.out, hb7]; rfl)
    have HA : Hid ((wb.cell? ⟨w.heap.size, 0, none⟩ = some (.int .i64 0) ∧ wb.cell? ⟨w.heap.size, 1, none⟩ = some (.int .i64 0) ∧ wb.cell? ⟨w.heap.size, 2, none⟩ = some (.int .i64 0) ∧ wb.cell? ⟨w.heap.size, 3, none⟩ = some (.int .i64 0)) ∧ (wb.cell? ⟨w.heap.size + 1, 0, none⟩ = some (.int .i64 0) ∧ wb.cell? ⟨w.heap.size + 1, 1, none⟩ = some (.int .i64 0) ∧ wb.cell? ⟨w.heap.size + 1, 2, none⟩ = some (.int .i64 0) ∧ wb.cell? ⟨w.heap.size + 1, 3, none⟩ = some (.int .i64 0)) ∧ (wb.frozen? ⟨w.heap.size, 0, none⟩ = false ∧ wb.frozen? ⟨w.heap.size, 1, none⟩ = false ∧ wb.frozen? ⟨w.heap.size, 2, none⟩ = false ∧ wb.frozen? ⟨w.heap.size, 3, none⟩ = false) ∧ (wb.frozen? ⟨w.heap.size + 1, 0, none⟩ = false ∧ wb.frozen? ⟨w.heap.size + 1, 1, none⟩ = false ∧ wb.frozen? ⟨w.heap.size + 1, 2, none⟩ = false ∧ wb.frozen? ⟨w.heap.size + 1, 3, none⟩ = false)) := by
      obtain ⟨a, b, c, d, _⟩ := HRES.out wb (Below.refl _ _)
      exact ⟨a, b, c, d⟩
    have HSA : Hid (w.heap.size + 1 < wb.heap.size) := by have := HZ.out; show w.heap.size + 1 < wb.heap.size; omega
    clear hb7
    go_enter Tryz.func52, Tryz.ntmps52
    go_wp2_with (go_at_call 103; refine (hh _).mono ?_; rintro e wE ⟨rfl, hwE⟩; obtain rfl := hwE.symm)
    rw [← HWB.out]
    refine (HWK.out wb HBB.out).mono ?_
    rintro r w3 ⟨rfl, u', hst⟩
    have z0 := HNW.out wb w3 u' HBB.out hst w.heap.size (Nat.le_refl _) (by have := HSA.out; omega)
    have z1 := HNW.out wb w3 u' HBB.out hst (w.heap.size + 1) (by omega) HSA.out
    have HST : Hid (UStep wb w3 gu b0 B true u u' R.1) := hst
    obtain ⟨⟨r0, r1, r2, r3⟩, ⟨m0, m1, m2, m3⟩, ⟨g0, g1, g2, g3⟩, ⟨l0, l1, l2, l3⟩⟩ := HA.out
    have HA3 : Hid ((w3.cell? ⟨w.heap.size, 0, none⟩ = some (.int .i64 0) ∧ w3.cell? ⟨w.heap.size, 1, none⟩ = some (.int .i64 0) ∧ w3.cell? ⟨w.heap.size, 2, none⟩ = some (.int .i64 0) ∧ w3.cell? ⟨w.heap.size, 3, none⟩ = some (.int .i64 0)) ∧ (w3.frozen? ⟨w.heap.size, 0, none⟩ = false ∧ w3.frozen? ⟨w.heap.size, 1, none⟩ = false ∧ w3.frozen? ⟨w.heap.size, 2, none⟩ = false ∧ w3.frozen? ⟨w.heap.size, 3, none⟩ = false) ∧ (w3.cell? ⟨w.heap.size + 1, 0, none⟩ = some (.int .i64 0) ∧ w3.cell? ⟨w.heap.size + 1, 1, none⟩ = some (.int .i64 0) ∧ w3.cell? ⟨w.heap.size + 1, 2, none⟩ = some (.int .i64 0) ∧ w3.cell? ⟨w.heap.size + 1, 3, none⟩ = some (.int .i64 0)) ∧ (w3.frozen? ⟨w.heap.size + 1, 0, none⟩ = false ∧ w3.frozen? ⟨w.heap.size + 1, 1, none⟩ = false ∧ w3.frozen? ⟨w.heap.size + 1, 2, none⟩ = false ∧ w3.frozen? ⟨w.heap.size + 1, 3, none⟩ = false)) := by
      refine ⟨⟨?_, ?_, ?_, ?_⟩, ⟨?_, ?_, ?_, ?_⟩, ⟨?_, ?_, ?_, ?_⟩, ?_, ?_, ?_, ?_⟩
      · exact (World.cell?_of_block z0).trans r0
      · exact (World.cell?_of_block z0).trans r1
      · exact (World.cell?_of_block z0).trans r2
      · exact (World.cell?_of_block z0).trans r3
      · exact (World.frozen?_of_block z0).trans g0
      · exact (World.frozen?_of_block z0).trans g1
      · exact (World.frozen?_of_block z0).trans g2
      · exact (World.frozen?_of_block z0).trans g3
      · exact (World.cell?_of_block z1).trans m0
      · exact (World.cell?_of_block z1).trans m1
      · exact (World.cell?_of_block z1).trans m2
      · exact (World.cell?_of_block z1).trans m3
      · exact (World.frozen?_of_block z1).trans l0
      · exact (World.frozen?_of_block z1).trans l1
      · exact (World.frozen?_of_block z1).trans l2
      · exact (World.frozen?_of_block z1).trans l3
    have hsz3 := hst.tch.size
    have hsA := HSA.out
    clear hst z0 z1 r0 r1 r2 r3 m0 m1 m2 m3 g0 g1 g2 g3 l0 l1 l2 l3
    obtain ⟨⟨r0, r1, r2, r3⟩, ⟨g0, g1, g2, g3⟩, ⟨m0, m1, m2, m3⟩, l0, l1, l2, l3⟩ := HA3.out
    obtain ⟨ws, hws⟩ : ∃ ws, ws = ((((w3.setCell ⟨w.heap.size + 1, 0, none⟩ (.int .i64 R.2.kind)).setCell ⟨w.heap.size + 1, 1, none⟩ (.int .i64 R.2.out)).setCell ⟨w.heap.size + 1, 2, none⟩ (.int .i64 R.2.perm)).setCell ⟨w.heap.size + 1, 3, none⟩ (.int .i64 R.2.size)) := ⟨_, rfl⟩
    have hT1 : Touch (fun k => k = w.heap.size + 1) w3 ws := by rw [hws]; exact Touch.put4 w3 _ _ _ _ _
    have hb0 := hT1.block w.heap.size (by omega) (by omega)
    have HS0 : Hid (∀ wX, Below ws.heap.size ws wX → (wX.cell? ⟨w.heap.size, 0, none⟩ = some (.int .i64 0) ∧ wX.cell? ⟨w.heap.size, 1, none⟩ = some (.int .i64 0) ∧ wX.cell? ⟨w.heap.size, 2, none⟩ = some (.int .i64 0) ∧ wX.cell? ⟨w.heap.size, 3, none⟩ = some (.int .i64 0)) ∧ (wX.frozen? ⟨w.heap.size, 0, none⟩ = false ∧ wX.frozen? ⟨w.heap.size, 1, none⟩ = false ∧ wX.frozen? ⟨w.heap.size, 2, none⟩ = false ∧ wX.frozen? ⟨w.heap.size, 3, none⟩ = false)) := fun wX hX => by
      have hz := hT1.size
      refine ⟨⟨?_, ?_, ?_, ?_⟩, ?_, ?_, ?_, ?_⟩
      · exact (hX.cell (by simp; omega)).trans ((World.cell?_of_block hb0).trans r0)
      · exact (hX.cell (by simp; omega)).trans ((World.cell?_of_block hb0).trans r1)
      · exact (hX.cell (by simp; omega)).trans ((World.cell?_of_block hb0).trans r2)
      · exact (hX.cell (by simp; omega)).trans ((World.cell?_of_block hb0).trans r3)
      · exact (hX.frozen (by simp; omega)).trans ((World.frozen?_of_block hb0).trans g0)
      · exact (hX.frozen (by simp; omega)).trans ((World.frozen?_of_block hb0).trans g1)
      · exact (hX.frozen (by simp; omega)).trans ((World.frozen?_of_block hb0).trans g2)
      · exact (hX.frozen (by simp; omega)).trans ((World.frozen?_of_block hb0).trans g3)
    have HT1 : Hid (Touch (fun k => k = w.heap.size + 1) w3 ws) := hT1
    have HWS : Hid (ws = _) := hws
    clear hws hT1 hb0 r0 r1 r2 r3 g0 g1 g2 g3
    go_wp2_with fail
    rw [← HWS.out]
    refine (HSO.out ws).mono ?_
    rintro r w4 ⟨rfl, hb4⟩
    obtain ⟨⟨r0, r1, r2, r3⟩, g0, g1, g2, g3⟩ := HS0.out w4 hb4
    have HFN : Hid _ := HFIN.out wb w3 u' HBB.out HSA.out HST.out ws HT1.out w4 hb4
    obtain ⟨SX, hSX⟩ : ∃ SX, SX = seenH page need R.2 := ⟨_, rfl⟩
    rw [← hSX]
    have HSX : Hid (SX = _) := hSX
    clear hSX m0 m1 m2 m3 l0 l1 l2 l3 hb4
    unfold seenV
    go_wp2_with fail
    obtain ⟨wF, hwF⟩ : ∃ wF, wF = ((((w4.setCell ⟨w.heap.size, 0, none⟩ (.int .i64 SX.page)).setCell ⟨w.heap.size, 1, none⟩ (.int .i64 SX.need)).setCell ⟨w.heap.size, 2, none⟩ (.int .i64 SX.kind)).setCell ⟨w.heap.size, 3, none⟩ (.int .i64 SX.out)) := ⟨_, rfl⟩
    have f0 : wF.cell? ⟨w.heap.size, 0, none⟩ = some (.int .i64 SX.page) := by rw [hwF]; simp [go_sem, r0]
    have f1 : wF.cell? ⟨w.heap.size, 1, none⟩ = some (.int .i64 SX.need) := by rw [hwF]; simp [go_sem, r1]
    have f2 : wF.cell? ⟨w.heap.size, 2, none⟩ = some (.int .i64 SX.kind) := by rw [hwF]; simp [go_sem, r2]
    have f3 : wF.cell? ⟨w.heap.size, 3, none⟩ = some (.int .i64 SX.out) := by rw [hwF]; simp [go_sem, r3]
    have hT2 : Touch (fun k => k = w.heap.size) w4 wF := by rw [hwF]; exact Touch.put4 w4 _ _ _ _ _
    rw [← hwF]
    exact bodyPost_ret (v := .agg #[.int .i64 SX.page, .int .i64 SX.need, .int .i64 SX.kind, .int .i64 SX.out]) (by simp [results, Tryz.results52, go_sem, f0, f1, f2, f3]) rfl ⟨by rw [HV2.out.2, ← HSX.out]; rfl, u', by rw [HV2.out.1]; exact HFN.out wF hT2⟩
  · rw [hb7] at hh
    have hlu := HLU.out wb HBB.out
    rw [HWB.out] at hlu
    by_cases hf : firstC M page < M.tlb.length
    · obtain ⟨v1, v2⟩ := HY.out (by rw [HUT.out, hb7, decide_eq_true hf]; rfl)
      rw [v1, v2]
      have hso := fun wX => seenOf_any (lookUpM M page) page need (HLP.out hf) hnd wX
      have hlv : luV M page = .tuple #[hitV (lookUpM M page), .bool true] := by unfold luV; rw [if_pos hf, decide_eq_true hf]
      rw [hlv] at hlu
      obtain ⟨SX, hSX⟩ : ∃ SX, SX = seenH page need (lookUpM M page) := ⟨_, rfl⟩
      rw [← hSX] at hso ⊢
      unfold hitV at hso hlu
      unfold seenV at hso ⊢
      generalize (lookUpM M page).kind = H0 at *
      generalize (lookUpM M page).out = H1 at *
      generalize (lookUpM M page).perm = H2 at *
      generalize (lookUpM M page).size = H3 at *
      clear hb7 hf v1 v2 hlv hSX
      go_enter Tryz.func52, Tryz.ntmps52
      go_wp2_with (go_at_call 103; refine (hh _).mono ?_; rintro e wE ⟨rfl, hwE⟩; obtain rfl := hwE.symm)
      refine hlu.mono ?_
      rintro r w1 ⟨rfl, hb1'⟩
      have hb1 : Below wb.heap.size wb w1 := by rw [HWB.out]; exact hb1'
      obtain ⟨⟨r0, r1, r2, r3⟩, ⟨m0, m1, m2, m3⟩, ⟨g0, g1, g2, g3⟩, ⟨l0, l1, l2, l3⟩, N1⟩ := HRES.out w1 hb1
      obtain ⟨ws, hws⟩ : ∃ ws, ws = ((((w1.setCell ⟨w.heap.size + 1, 0, none⟩ (.int .i64 H0)).setCell ⟨w.heap.size + 1, 1, none⟩ (.int .i64 H1)).setCell ⟨w.heap.size + 1, 2, none⟩ (.int .i64 H2)).setCell ⟨w.heap.size + 1, 3, none⟩ (.int .i64 H3)) := ⟨_, rfl⟩
      have hT1 : Touch (fun k => k = w.heap.size + 1) w1 ws := by rw [hws]; exact Touch.put4 w1 _ _ _ _ _
      have hb0 := hT1.block w.heap.size (by omega) (by omega)
      have HBS : Hid (Below w.heap.size w ws) := Touch.below (HBB.out.trans (hb1.mono (by have := HZ.out; omega))) hT1 (by omega) (fun k hk => by omega)
      have HS0 : Hid (∀ wX, Below ws.heap.size ws wX → (wX.cell? ⟨w.heap.size, 0, none⟩ = some (.int .i64 0) ∧ wX.cell? ⟨w.heap.size, 1, none⟩ = some (.int .i64 0) ∧ wX.cell? ⟨w.heap.size, 2, none⟩ = some (.int .i64 0) ∧ wX.cell? ⟨w.heap.size, 3, none⟩ = some (.int .i64 0)) ∧ (wX.frozen? ⟨w.heap.size, 0, none⟩ = false ∧ wX.frozen? ⟨w.heap.size, 1, none⟩ = false ∧ wX.frozen? ⟨w.heap.size, 2, none⟩ = false ∧ wX.frozen? ⟨w.heap.size, 3, none⟩ = false)) := fun wX hX => by
        have hz := hT1.size
        refine ⟨⟨?_, ?_, ?_, ?_⟩, ?_, ?_, ?_, ?_⟩
        · exact (hX.cell (by simp; omega)).trans ((World.cell?_of_block hb0).trans r0)
        · exact (hX.cell (by simp; omega)).trans ((World.cell?_of_block hb0).trans r1)
        · exact (hX.cell (by simp; omega)).trans ((World.cell?_of_block hb0).trans r2)
        · exact (hX.cell (by simp; omega)).trans ((World.cell?_of_block hb0).trans r3)
        · exact (hX.frozen (by simp; omega)).trans ((World.frozen?_of_block hb0).trans g0)
        · exact (hX.frozen (by simp; omega)).trans ((World.frozen?_of_block hb0).trans g1)
        · exact (hX.frozen (by simp; omega)).trans ((World.frozen?_of_block hb0).trans g2)
        · exact (hX.frozen (by simp; omega)).trans ((World.frozen?_of_block hb0).trans g3)
      have HWS : Hid (ws = _) := hws
      clear hws hT1 hb0 hb1' hb1 hlu r0 r1 r2 r3 g0 g1 g2 g3
      go_wp2_with fail
      rw [← HWS.out]
      refine (hso ws).mono ?_
      rintro r w4 ⟨rfl, hb4⟩
      obtain ⟨⟨r0, r1, r2, r3⟩, g0, g1, g2, g3⟩ := HS0.out w4 hb4
      have HB4 : Hid (Below w.heap.size w w4) := HBS.out.trans (hb4.mono HBS.out.size)
      clear hb4 hso m0 m1 m2 m3 l0 l1 l2 l3
      go_wp2_with fail
      obtain ⟨wF, hwF⟩ : ∃ wF, wF = ((((w4.setCell ⟨w.heap.size, 0, none⟩ (.int .i64 SX.page)).setCell ⟨w.heap.size, 1, none⟩ (.int .i64 SX.need)).setCell ⟨w.heap.size, 2, none⟩ (.int .i64 SX.kind)).setCell ⟨w.heap.size, 3, none⟩ (.int .i64 SX.out)) := ⟨_, rfl⟩
      have f0 : wF.cell? ⟨w.heap.size, 0, none⟩ = some (.int .i64 SX.page) := by rw [hwF]; simp [go_sem, r0]
      have f1 : wF.cell? ⟨w.heap.size, 1, none⟩ = some (.int .i64 SX.need) := by rw [hwF]; simp [go_sem, r1]
      have f2 : wF.cell? ⟨w.heap.size, 2, none⟩ = some (.int .i64 SX.kind) := by rw [hwF]; simp [go_sem, r2]
      have f3 : wF.cell? ⟨w.heap.size, 3, none⟩ = some (.int .i64 SX.out) := by rw [hwF]; simp [go_sem, r3]
      have hT2 : Touch (fun k => k = w.heap.size) w4 wF := by rw [hwF]; exact Touch.put4 w4 _ _ _ _ _
      rw [← hwF]
      exact bodyPost_ret (v := .agg #[.int .i64 SX.page, .int .i64 SX.need, .int .i64 SX.kind, .int .i64 SX.out]) (by simp [results, Tryz.results52, go_sem, f0, f1, f2, f3]) rfl ⟨rfl, u, UStep.refl HUM.out (Touch.below HB4.out hT2 HB4.out.size (fun k hk => by omega))⟩
    · have HV2 : Hid (accN M page choice = R.1 ∧ accS M page need choice = seenH page need R.2) := HN.out (by rw [HUT.out, hb7, decide_eq_false hf]; rfl)
      have hlv : luV M page = .tuple #[.agg #[.int .i64 0, .int .i64 0, .int .i64 0, .int .i64 0], .bool false] := by unfold luV; rw [if_neg hf, decide_eq_false hf]; rfl
      rw [hlv] at hlu
      clear hb7 hf hlv
      go_enter Tryz.func52, Tryz.ntmps52
      go_wp2_with (go_at_call 103; refine (hh _).mono ?_; rintro e wE ⟨rfl, hwE⟩; obtain rfl := hwE.symm)
      refine hlu.mono ?_
      rintro r w1 ⟨rfl, hb1'⟩
      have hb1 : Below wb.heap.size wb w1 := by rw [HWB.out]; exact hb1'
      obtain ⟨⟨r0, r1, r2, r3⟩, ⟨m0, m1, m2, m3⟩, ⟨g0, g1, g2, g3⟩, ⟨l0, l1, l2, l3⟩, N1⟩ := HRES.out w1 hb1
      obtain ⟨wA, hwA⟩ : ∃ wA, wA = ((((w1.setCell ⟨w.heap.size + 1, 0, none⟩ (.int .i64 0)).setCell ⟨w.heap.size + 1, 1, none⟩ (.int .i64 0)).setCell ⟨w.heap.size + 1, 2, none⟩ (.int .i64 0)).setCell ⟨w.heap.size + 1, 3, none⟩ (.int .i64 0)) := ⟨_, rfl⟩
      have hT1 : Touch (fun k => k = w.heap.size + 1) w1 wA := by rw [hwA]; exact Touch.put4 w1 _ _ _ _ _
      have hb0 := hT1.block w.heap.size (by omega) (by omega)
      have HBA : Hid (Below w.heap.size w wA) := Touch.below (HBB.out.trans (hb1.mono (by have := HZ.out; omega))) hT1 (by omega) (fun k hk => by omega)
      have HSA : Hid (w.heap.size + 1 < wA.heap.size) := by have := hT1.size; show w.heap.size + 1 < wA.heap.size; omega
      have HA : Hid ((wA.cell? ⟨w.heap.size, 0, none⟩ = some (.int .i64 0) ∧ wA.cell? ⟨w.heap.size, 1, none⟩ = some (.int .i64 0) ∧ wA.cell? ⟨w.heap.size, 2, none⟩ = some (.int .i64 0) ∧ wA.cell? ⟨w.heap.size, 3, none⟩ = some (.int .i64 0)) ∧ (wA.cell? ⟨w.heap.size + 1, 0, none⟩ = some (.int .i64 0) ∧ wA.cell? ⟨w.heap.size + 1, 1, none⟩ = some (.int .i64 0) ∧ wA.cell? ⟨w.heap.size + 1, 2, none⟩ = some (.int .i64 0) ∧ wA.cell? ⟨w.heap.size + 1, 3, none⟩ = some (.int .i64 0)) ∧ (wA.frozen? ⟨w.heap.size, 0, none⟩ = false ∧ wA.frozen? ⟨w.heap.size, 1, none⟩ = false ∧ wA.frozen? ⟨w.heap.size, 2, none⟩ = false ∧ wA.frozen? ⟨w.heap.size, 3, none⟩ = false) ∧ (wA.frozen? ⟨w.heap.size + 1, 0, none⟩ = false ∧ wA.frozen? ⟨w.heap.size + 1, 1, none⟩ = false ∧ wA.frozen? ⟨w.heap.size + 1, 2, none⟩ = false ∧ wA.frozen? ⟨w.heap.size + 1, 3, none⟩ = false)) := by
        refine ⟨⟨?_, ?_, ?_, ?_⟩, ⟨?_, ?_, ?_, ?_⟩, ⟨?_, ?_, ?_, ?_⟩, ?_, ?_, ?_, ?_⟩
        · exact (World.cell?_of_block hb0).trans r0
        · exact (World.cell?_of_block hb0).trans r1
        · exact (World.cell?_of_block hb0).trans r2
        · exact (World.cell?_of_block hb0).trans r3
        · rw [hwA]; simp [go_sem, m0]
        · rw [hwA]; simp [go_sem, m1]
        · rw [hwA]; simp [go_sem, m2]
        · rw [hwA]; simp [go_sem, m3]
        · exact (World.frozen?_of_block hb0).trans g0
        · exact (World.frozen?_of_block hb0).trans g1
        · exact (World.frozen?_of_block hb0).trans g2
        · exact (World.frozen?_of_block hb0).trans g3
        · rw [hwA]; simp [go_sem, l0]
        · rw [hwA]; simp [go_sem, l1]
        · rw [hwA]; simp [go_sem, l2]
        · rw [hwA]; simp [go_sem, l3]
      have HWA : Hid (wA = _) := hwA
      clear hwA hT1 hb0 hb1' hb1 hlu r0 r1 r2 r3 g0 g1 g2 g3
      go_wp2_with fail
      rw [← HWA.out]
      clear m0 m1 m2 m3 l0 l1 l2 l3
      refine (HWK.out wA HBA.out).mono ?_
      rintro r w3 ⟨rfl, u', hst⟩
      have z0 := HNW.out wA w3 u' HBA.out hst w.heap.size (Nat.le_refl _) (by have := HSA.out; omega)
      have z1 := HNW.out wA w3 u' HBA.out hst (w.heap.size + 1) (by omega) HSA.out
      have HST : Hid (UStep wA w3 gu b0 B true u u' R.1) := hst
      obtain ⟨⟨r0, r1, r2, r3⟩, ⟨m0, m1, m2, m3⟩, ⟨g0, g1, g2, g3⟩, ⟨l0, l1, l2, l3⟩⟩ := HA.out
      have HA3 : Hid ((w3.cell? ⟨w.heap.size, 0, none⟩ = some (.int .i64 0) ∧ w3.cell? ⟨w.heap.size, 1, none⟩ = some (.int .i64 0) ∧ w3.cell? ⟨w.heap.size, 2, none⟩ = some (.int .i64 0) ∧ w3.cell? ⟨w.heap.size, 3, none⟩ = some (.int .i64 0)) ∧ (w3.frozen? ⟨w.heap.size, 0, none⟩ = false ∧ w3.frozen? ⟨w.heap.size, 1, none⟩ = false ∧ w3.frozen? ⟨w.heap.size, 2, none⟩ = false ∧ w3.frozen? ⟨w.heap.size, 3, none⟩ = false) ∧ (w3.cell? ⟨w.heap.size + 1, 0, none⟩ = some (.int .i64 0) ∧ w3.cell? ⟨w.heap.size + 1, 1, none⟩ = some (.int .i64 0) ∧ w3.cell? ⟨w.heap.size + 1, 2, none⟩ = some (.int .i64 0) ∧ w3.cell? ⟨w.heap.size + 1, 3, none⟩ = some (.int .i64 0)) ∧ (w3.frozen? ⟨w.heap.size + 1, 0, none⟩ = false ∧ w3.frozen? ⟨w.heap.size + 1, 1, none⟩ = false ∧ w3.frozen? ⟨w.heap.size + 1, 2, none⟩ = false ∧ w3.frozen? ⟨w.heap.size + 1, 3, none⟩ = false)) := by
        refine ⟨⟨?_, ?_, ?_, ?_⟩, ⟨?_, ?_, ?_, ?_⟩, ⟨?_, ?_, ?_, ?_⟩, ?_, ?_, ?_, ?_⟩
        · exact (World.cell?_of_block z0).trans r0
        · exact (World.cell?_of_block z0).trans r1
        · exact (World.cell?_of_block z0).trans r2
        · exact (World.cell?_of_block z0).trans r3
        · exact (World.frozen?_of_block z0).trans g0
        · exact (World.frozen?_of_block z0).trans g1
        · exact (World.frozen?_of_block z0).trans g2
        · exact (World.frozen?_of_block z0).trans g3
        · exact (World.cell?_of_block z1).trans m0
        · exact (World.cell?_of_block z1).trans m1
        · exact (World.cell?_of_block z1).trans m2
        · exact (World.cell?_of_block z1).trans m3
        · exact (World.frozen?_of_block z1).trans l0
        · exact (World.frozen?_of_block z1).trans l1
        · exact (World.frozen?_of_block z1).trans l2
        · exact (World.frozen?_of_block z1).trans l3
      have hsz3 := hst.tch.size
      have hsA := HSA.out
      clear hst z0 z1 r0 r1 r2 r3 m0 m1 m2 m3 g0 g1 g2 g3 l0 l1 l2 l3
      obtain ⟨⟨r0, r1, r2, r3⟩, ⟨g0, g1, g2, g3⟩, ⟨m0, m1, m2, m3⟩, l0, l1, l2, l3⟩ := HA3.out
      obtain ⟨ws, hws⟩ : ∃ ws, ws = ((((w3.setCell ⟨w.heap.size + 1, 0, none⟩ (.int .i64 R.2.kind)).setCell ⟨w.heap.size + 1, 1, none⟩ (.int .i64 R.2.out)).setCell ⟨w.heap.size + 1, 2, none⟩ (.int .i64 R.2.perm)).setCell ⟨w.heap.size + 1, 3, none⟩ (.int .i64 R.2.size)) := ⟨_, rfl⟩
      have hT1 : Touch (fun k => k = w.heap.size + 1) w3 ws := by rw [hws]; exact Touch.put4 w3 _ _ _ _ _
      have hb0 := hT1.block w.heap.size (by omega) (by omega)
      have HS0 : Hid (∀ wX, Below ws.heap.size ws wX → (wX.cell? ⟨w.heap.size, 0, none⟩ = some (.int .i64 0) ∧ wX.cell? ⟨w.heap.size, 1, none⟩ = some (.int .i64 0) ∧ wX.cell? ⟨w.heap.size, 2, none⟩ = some (.int .i64 0) ∧ wX.cell? ⟨w.heap.size, 3, none⟩ = some (.int .i64 0)) ∧ (wX.frozen? ⟨w.heap.size, 0, none⟩ = false ∧ wX.frozen? ⟨w.heap.size, 1, none⟩ = false ∧ wX.frozen? ⟨w.heap.size, 2, none⟩ = false ∧ wX.frozen? ⟨w.heap.size, 3, none⟩ = false)) := fun wX hX => by
        have hz := hT1.size
        refine ⟨⟨?_, ?_, ?_, ?_⟩, ?_, ?_, ?_, ?_⟩
        · exact (hX.cell (by simp; omega)).trans ((World.cell?_of_block hb0).trans r0)
        · exact (hX.cell (by simp; omega)).trans ((World.cell?_of_block hb0).trans r1)
        · exact (hX.cell (by simp; omega)).trans ((World.cell?_of_block hb0).trans r2)
        · exact (hX.cell (by simp; omega)).trans ((World.cell?_of_block hb0).trans r3)
        · exact (hX.frozen (by simp; omega)).trans ((World.frozen?_of_block hb0).trans g0)
        · exact (hX.frozen (by simp; omega)).trans ((World.frozen?_of_block hb0).trans g1)
        · exact (hX.frozen (by simp; omega)).trans ((World.frozen?_of_block hb0).trans g2)
        · exact (hX.frozen (by simp; omega)).trans ((World.frozen?_of_block hb0).trans g3)
      have HT1 : Hid (Touch (fun k => k = w.heap.size + 1) w3 ws) := hT1
      have HWS : Hid (ws = _) := hws
      clear hws hT1 hb0 r0 r1 r2 r3 g0 g1 g2 g3
      go_wp2_with fail
      rw [← HWS.out]
      refine (HSO.out ws).mono ?_
      rintro r w4 ⟨rfl, hb4⟩
      obtain ⟨⟨r0, r1, r2, r3⟩, g0, g1, g2, g3⟩ := HS0.out w4 hb4
      have HFN : Hid _ := HFIN.out wA w3 u' HBA.out HSA.out HST.out ws HT1.out w4 hb4
      obtain ⟨SX, hSX⟩ : ∃ SX, SX = seenH page need R.2 := ⟨_, rfl⟩
      rw [← hSX]
      have HSX : Hid (SX = _) := hSX
      clear hSX m0 m1 m2 m3 l0 l1 l2 l3 hb4
      unfold seenV
      go_wp2_with fail
      obtain ⟨wF, hwF⟩ : ∃ wF, wF = ((((w4.setCell ⟨w.heap.size, 0, none⟩ (.int .i64 SX.page)).setCell ⟨w.heap.size, 1, none⟩ (.int .i64 SX.need)).setCell ⟨w.heap.size, 2, none⟩ (.int .i64 SX.kind)).setCell ⟨w.heap.size, 3, none⟩ (.int .i64 SX.out)) := ⟨_, rfl⟩
      have f0 : wF.cell? ⟨w.heap.size, 0, none⟩ = some (.int .i64 SX.page) := by rw [hwF]; simp [go_sem, r0]
      have f1 : wF.cell? ⟨w.heap.size, 1, none⟩ = some (.int .i64 SX.need) := by rw [hwF]; simp [go_sem, r1]
      have f2 : wF.cell? ⟨w.heap.size, 2, none⟩ = some (.int .i64 SX.kind) := by rw [hwF]; simp [go_sem, r2]
      have f3 : wF.cell? ⟨w.heap.size, 3, none⟩ = some (.int .i64 SX.out) := by rw [hwF]; simp [go_sem, r3]
      have hT2 : Touch (fun k => k = w.heap.size) w4 wF := by rw [hwF]; exact Touch.put4 w4 _ _ _ _ _
      rw [← hwF]
      exact bodyPost_ret (v := .agg #[.int .i64 SX.page, .int .i64 SX.need, .int .i64 SX.kind, .int .i64 SX.out]) (by simp [results, Tryz.results52, go_sem, f0, f1, f2, f3]) rfl ⟨by rw [HV2.out.2, ← HSX.out]; rfl, u', by rw [HV2.out.1]; exact HFN.out wF hT2⟩
end Go.Proofs.YtgabcaldjlenpabGreat
namespace Go.Proofs.YtgabcaldjlenpabGreat
open Go.ChangeShapes Go.WideShapes Go.ChangeAt Go.RowKit
set_option linter.unusedVariables false
attribute [local go_sem ↓] Go.wp_at_zero Go.wp_at_succ

set_option maxRecDepth 100000 in
set_option maxHeartbeats 4000000 in
theorem implAcc_any (s : SV) (M : Mach) (b : Nat) (page need choice : Int) (w : World) (hk : MOk M) (hs : M.Small) (h : MRow w b (s.mv M) M) :
    Calls Tryz.prog 9 #[.agg #[.slice s.a1 M.mem.length s.c1, .slice s.a2 M.pend.length s.c2, .slice s.a3 M.tlb.length s.c3, .slice s.a4 M.wc.length s.c4], .int .i64 page, .int .i64 need, .int .i64 choice] w fun e w' => ∃ s' : SV, e = .returned (.tuple #[.agg #[.slice s'.a1 (accM M page need choice).1.mem.length s'.c1, .slice s'.a2 (accM M page need choice).1.pend.length s'.c2, .slice s'.a3 (accM M page need choice).1.tlb.length s'.c3, .slice s'.a4 (accM M page need choice).1.wc.length s'.c4], seenV (accM M page need choice).2]) ∧ MRow w' w.heap.size (s'.mv (accM M page need choice).1) (accM M page need choice).1 ∧ (s'.mv (accM M page need choice).1).apart ∧ Below w.heap.size w w' := by
  obtain ⟨wb, hwb⟩ : ∃ wb, wb = ((w.alloc (.cells #[.slice s.a1 M.mem.length s.c1, .slice s.a2 M.pend.length s.c2, .slice s.a3 M.tlb.length s.c3, .slice s.a4 M.wc.length s.c4] 36)).alloc (.cells #[.slice none 0 0, .slice none 0 0, .slice none 0 0, .slice none 0 0] 36)).alloc (.cells #[.int .i64 0, .int .i64 0, .int .i64 0, .int .i64 0] 38) := ⟨_, rfl⟩
  have hbb : Below w.heap.size w wb := by rw [hwb]; exact (((Below.refl _ _).alloc (Nat.le_refl _) _).alloc (by simp) _).alloc (by simp <;> omega) _
  have hzb : wb.heap.size = w.heap.size + 3 := by rw [hwb]; simp
  have HBOX : Hid (∀ wX, Below wb.heap.size wb wX → (wX.cell? ⟨w.heap.size, 0, none⟩ = some (.slice s.a1 M.mem.length s.c1) ∧ wX.cell? ⟨w.heap.size, 1, none⟩ = some (.slice s.a2 M.pend.length s.c2) ∧ wX.cell? ⟨w.heap.size, 2, none⟩ = some (.slice s.a3 M.tlb.length s.c3) ∧ wX.cell? ⟨w.heap.size, 3, none⟩ = some (.slice s.a4 M.wc.length s.c4)) ∧ (wX.cell? ⟨w.heap.size + 1, 0, none⟩ = some (.slice none 0 0) ∧ wX.cell? ⟨w.heap.size + 1, 1, none⟩ = some (.slice none 0 0) ∧ wX.cell? ⟨w.heap.size + 1, 2, none⟩ = some (.slice none 0 0) ∧ wX.cell? ⟨w.heap.size + 1, 3, none⟩ = some (.slice none 0 0)) ∧ (wX.frozen? ⟨w.heap.size + 1, 0, none⟩ = false ∧ wX.frozen? ⟨w.heap.size + 1, 1, none⟩ = false ∧ wX.frozen? ⟨w.heap.size + 1, 2, none⟩ = false ∧ wX.frozen? ⟨w.heap.size + 1, 3, none⟩ = false) ∧ (wX.cell? ⟨w.heap.size + 1 + 1, 0, none⟩ = some (.int .i64 0) ∧ wX.cell? ⟨w.heap.size + 1 + 1, 1, none⟩ = some (.int .i64 0) ∧ wX.cell? ⟨w.heap.size + 1 + 1, 2, none⟩ = some (.int .i64 0) ∧ wX.cell? ⟨w.heap.size + 1 + 1, 3, none⟩ = some (.int .i64 0)) ∧ (wX.frozen? ⟨w.heap.size + 1 + 1, 0, none⟩ = false ∧ wX.frozen? ⟨w.heap.size + 1 + 1, 1, none⟩ = false ∧ wX.frozen? ⟨w.heap.size + 1 + 1, 2, none⟩ = false ∧ wX.frozen? ⟨w.heap.size + 1 + 1, 3, none⟩ = false) ∧ w.heap.size + 1 + 1 < wX.heap.size) := fun wX hX => by
    have hsz := hX.size
    refine ⟨⟨?_, ?_, ?_, ?_⟩, ⟨?_, ?_, ?_, ?_⟩, ⟨?_, ?_, ?_, ?_⟩, ⟨?_, ?_, ?_, ?_⟩, ⟨?_, ?_, ?_, ?_⟩, by omega⟩
    iterate 8 (exact (hX.cell (by simp; omega)).trans (by rw [hwb]; simp [go_sem]))
    iterate 4 (exact (hX.frozen (by simp; omega)).trans (by rw [hwb]; simp [go_sem]))
    iterate 4 (exact (hX.cell (by simp; omega)).trans (by rw [hwb]; simp [go_sem]))
    iterate 4 (exact (hX.frozen (by simp; omega)).trans (by rw [hwb]; simp [go_sem]))
  have HWB : Hid (wb = _) := hwb
  have HBB : Hid (Below _ w wb) := hbb
  have HZ : Hid (wb.heap.size = w.heap.size + 3) := hzb
  have hvm := validM_any s M b wb hs (h.below hbb)
  rw [hwb] at hvm
  have hpk := validPage_any page
  have hnk := validNeed_any need
  have hck := validChoice_any choice
  have HM : Hid (∀ wX, Below wb.heap.size wb wX → MRow wX b (s.mv M) M) := fun wX hX => h.below (hbb.trans (hX.mono (by omega)))
  have hsm := accM_small hk hs page need choice
  have hno : accOk M page need choice = false → accM M page need choice = (zM, ⟨0, 0, 0, 0⟩) := fun e => by unfold accM; rw [e]; rfl
  have hyes : accOk M page need choice = true → accM M page need choice = (accN M page choice, accS M page need choice) := fun e => by unfold accM; rw [e]; rfl
  have hao : accOk M page need choice = (validB M && pageOk page && choiceOk choice && needOk need) := rfl
  clear hwb hbb hzb h
  cases hv : validB M
  · rw [hno (by rw [hao, hv]; rfl)]
    rw [hv] at hvm
    clear hno hyes hao hsm hv
    go_enter Tryz.func9, Tryz.ntmps9
    go_wp2_with fail
    refine hvm.mono ?_
    rintro e w1 ⟨rfl, hb1'⟩
    have hb1 : Below wb.heap.size wb w1 := by rw [HWB.out]; exact hb1'
    obtain ⟨⟨q0, q1, q2, q3⟩, ⟨r0, r1, r2, r3⟩, ⟨z0, z1, z2, z3⟩, ⟨p0, p1, p2, p3⟩, ⟨x0, x1, x2, x3⟩, N1⟩ := HBOX.out w1 hb1
    have HB1 : Hid (Below w.heap.size w w1) := HBB.out.trans (hb1.mono (by have := HZ.out; omega))
    clear hb1' hb1 hvm
    go_wp2_with fail
    obtain ⟨wF, hwF⟩ : ∃ wF, wF = ((((((((w1.setCell ⟨w.heap.size + 1, 0, none⟩ (.slice none 0 0)).setCell ⟨w.heap.size + 1, 1, none⟩ (.slice none 0 0)).setCell ⟨w.heap.size + 1, 2, none⟩ (.slice none 0 0)).setCell ⟨w.heap.size + 1, 3, none⟩ (.slice none 0 0)).setCell ⟨w.heap.size + 1 + 1, 0, none⟩ (.int .i64 0)).setCell ⟨w.heap.size + 1 + 1, 1, none⟩ (.int .i64 0)).setCell ⟨w.heap.size + 1 + 1, 2, none⟩ (.int .i64 0)).setCell ⟨w.heap.size + 1 + 1, 3, none⟩ (.int .i64 0)) := ⟨_, rfl⟩
    rw [← hwF]
    have hTF : Touch (fun k => k = w.heap.size + 1 ∨ k = w.heap.size + 1 + 1) w1 wF := by
      rw [hwF]
      exact (Touch.put (Touch.put (Touch.put (Touch.put (Touch.put (Touch.put (Touch.put (Touch.put (Touch.none w1) _ _ (.inl rfl)) _ _ (.inl rfl)) _ _ (.inl rfl)) _ _ (.inl rfl)) _ _ (.inr rfl)) _ _ (.inr rfl)) _ _ (.inr rfl)) _ _ (.inr rfl))
    have f0 : wF.cell? ⟨w.heap.size + 1, 0, none⟩ = some (.slice none 0 0) := by rw [hwF]; simp [go_sem, r0]
    have f1 : wF.cell? ⟨w.heap.size + 1, 1, none⟩ = some (.slice none 0 0) := by rw [hwF]; simp [go_sem, r1]
    have f2 : wF.cell? ⟨w.heap.size + 1, 2, none⟩ = some (.slice none 0 0) := by rw [hwF]; simp [go_sem, r2]
    have f3 : wF.cell? ⟨w.heap.size + 1, 3, none⟩ = some (.slice none 0 0) := by rw [hwF]; simp [go_sem, r3]
    have g0 : wF.cell? ⟨w.heap.size + 1 + 1, 0, none⟩ = some (.int .i64 0) := by rw [hwF]; simp [go_sem, p0]
    have g1 : wF.cell? ⟨w.heap.size + 1 + 1, 1, none⟩ = some (.int .i64 0) := by rw [hwF]; simp [go_sem, p1]
    have g2 : wF.cell? ⟨w.heap.size + 1 + 1, 2, none⟩ = some (.int .i64 0) := by rw [hwF]; simp [go_sem, p2]
    have g3 : wF.cell? ⟨w.heap.size + 1 + 1, 3, none⟩ = some (.int .i64 0) := by rw [hwF]; simp [go_sem, p3]
    exact bodyPost_ret (v := .tuple #[.agg #[.slice none 0 0, .slice none 0 0, .slice none 0 0, .slice none 0 0], .agg #[.int .i64 0, .int .i64 0, .int .i64 0, .int .i64 0]]) (by simp [results, Tryz.results9, go_sem, f0, f1, f2, f3, g0, g1, g2, g3]) rfl ⟨zS, rfl, zM_row _ _, zM_apart, Touch.below HB1.out hTF HB1.out.size (fun k hk => by omega)⟩
  · rw [hv] at hvm
    cases hp : pageOk page
    · rw [hno (by rw [hao, hp]; simp)]
      rw [hp] at hpk
      clear hno hyes hao hsm hv hp
      go_enter Tryz.func9, Tryz.ntmps9
      go_wp2_with fail
      refine hvm.mono ?_
      rintro e w1 ⟨rfl, hb1'⟩
      have hb1 : Below wb.heap.size wb w1 := by rw [HWB.out]; exact hb1'
      obtain ⟨⟨q0, q1, q2, q3⟩, ⟨r0, r1, r2, r3⟩, ⟨z0, z1, z2, z3⟩, ⟨p0, p1, p2, p3⟩, ⟨x0, x1, x2, x3⟩, N1⟩ := HBOX.out w1 hb1
      have HB1 : Hid (Below w.heap.size w w1) := HBB.out.trans (hb1.mono (by have := HZ.out; omega))
      clear hb1' hb1 hvm
      go_wp2_with (first | (go_at_call 48; refine (hpk _).mono ?_; rintro e wE ⟨rfl, hwE⟩; obtain rfl := hwE.symm))
      obtain ⟨wF, hwF⟩ : ∃ wF, wF = ((((((((w1.setCell ⟨w.heap.size + 1, 0, none⟩ (.slice none 0 0)).setCell ⟨w.heap.size + 1, 1, none⟩ (.slice none 0 0)).setCell ⟨w.heap.size + 1, 2, none⟩ (.slice none 0 0)).setCell ⟨w.heap.size + 1, 3, none⟩ (.slice none 0 0)).setCell ⟨w.heap.size + 1 + 1, 0, none⟩ (.int .i64 0)).setCell ⟨w.heap.size + 1 + 1, 1, none⟩ (.int .i64 0)).setCell ⟨w.heap.size + 1 + 1, 2, none⟩ (.int .i64 0)).setCell ⟨w.heap.size + 1 + 1, 3, none⟩ (.int .i64 0)) := ⟨_, rfl⟩
      rw [← hwF]
      have hTF : Touch (fun k => k = w.heap.size + 1 ∨ k = w.heap.size + 1 + 1) w1 wF := by
        rw [hwF]
        exact (Touch.put (Touch.put (Touch.put (Touch.put (Touch.put (Touch.put (Touch.put (Touch.put (Touch.none w1) _ _ (.inl rfl)) _ _ (.inl rfl)) _ _ (.inl rfl)) _ _ (.inl rfl)) _ _ (.inr rfl)) _ _ (.inr rfl)) _ _ (.inr rfl)) _ _ (.inr rfl))
      have f0 : wF.cell? ⟨w.heap.size + 1, 0, none⟩ = some (.slice none 0 0) := by rw [hwF]; simp [go_sem, r0]
      have f1 : wF.cell? ⟨w.heap.size + 1, 1, none⟩ = some (.slice none 0 0) := by rw [hwF]; simp [go_sem, r1]
      have f2 : wF.cell? ⟨w.heap.size + 1, 2, none⟩ = some (.slice none 0 0) := by rw [hwF]; simp [go_sem, r2]
      have f3 : wF.cell? ⟨w.heap.size + 1, 3, none⟩ = some (.slice none 0 0) := by rw [hwF]; simp [go_sem, r3]
      have g0 : wF.cell? ⟨w.heap.size + 1 + 1, 0, none⟩ = some (.int .i64 0) := by rw [hwF]; simp [go_sem, p0]
      have g1 : wF.cell? ⟨w.heap.size + 1 + 1, 1, none⟩ = some (.int .i64 0) := by rw [hwF]; simp [go_sem, p1]
      have g2 : wF.cell? ⟨w.heap.size + 1 + 1, 2, none⟩ = some (.int .i64 0) := by rw [hwF]; simp [go_sem, p2]
      have g3 : wF.cell? ⟨w.heap.size + 1 + 1, 3, none⟩ = some (.int .i64 0) := by rw [hwF]; simp [go_sem, p3]
      exact bodyPost_ret (v := .tuple #[.agg #[.slice none 0 0, .slice none 0 0, .slice none 0 0, .slice none 0 0], .agg #[.int .i64 0, .int .i64 0, .int .i64 0, .int .i64 0]]) (by simp [results, Tryz.results9, go_sem, f0, f1, f2, f3, g0, g1, g2, g3]) rfl ⟨zS, rfl, zM_row _ _, zM_apart, Touch.below HB1.out hTF HB1.out.size (fun k hk => by omega)⟩
    · rw [hp] at hpk
      cases hnn : needOk need
      · rw [hno (by rw [hao, hnn]; simp)]
        rw [hnn] at hnk
        clear hno hyes hao hsm hv hp hnn
        go_enter Tryz.func9, Tryz.ntmps9
        go_wp2_with fail
        refine hvm.mono ?_
        rintro e w1 ⟨rfl, hb1'⟩
        have hb1 : Below wb.heap.size wb w1 := by rw [HWB.out]; exact hb1'
        obtain ⟨⟨q0, q1, q2, q3⟩, ⟨r0, r1, r2, r3⟩, ⟨z0, z1, z2, z3⟩, ⟨p0, p1, p2, p3⟩, ⟨x0, x1, x2, x3⟩, N1⟩ := HBOX.out w1 hb1
        have HB1 : Hid (Below w.heap.size w w1) := HBB.out.trans (hb1.mono (by have := HZ.out; omega))
        clear hb1' hb1 hvm
        go_wp2_with (first | (go_at_call 48; refine (hpk _).mono ?_; rintro e wE ⟨rfl, hwE⟩; obtain rfl := hwE.symm) | (go_at_call 49; refine (hnk _).mono ?_; rintro e wE ⟨rfl, hwE⟩; obtain rfl := hwE.symm))
        obtain ⟨wF, hwF⟩ : ∃ wF, wF = ((((((((w1.setCell ⟨w.heap.size + 1, 0, none⟩ (.slice none 0 0)).setCell ⟨w.heap.size + 1, 1, none⟩ (.slice none 0 0)).setCell ⟨w.heap.size + 1, 2, none⟩ (.slice none 0 0)).setCell ⟨w.heap.size + 1, 3, none⟩ (.slice none 0 0)).setCell ⟨w.heap.size + 1 + 1, 0, none⟩ (.int .i64 0)).setCell ⟨w.heap.size + 1 + 1, 1, none⟩ (.int .i64 0)).setCell ⟨w.heap.size + 1 + 1, 2, none⟩ (.int .i64 0)).setCell ⟨w.heap.size + 1 + 1, 3, none⟩ (.int .i64 0)) := ⟨_, rfl⟩
        rw [← hwF]
        have hTF : Touch (fun k => k = w.heap.size + 1 ∨ k = w.heap.size + 1 + 1) w1 wF := by
          rw [hwF]
          exact (Touch.put (Touch.put (Touch.put (Touch.put (Touch.put (Touch.put (Touch.put (Touch.put (Touch.none w1) _ _ (.inl rfl)) _ _ (.inl rfl)) _ _ (.inl rfl)) _ _ (.inl rfl)) _ _ (.inr rfl)) _ _ (.inr rfl)) _ _ (.inr rfl)) _ _ (.inr rfl))
        have f0 : wF.cell? ⟨w.heap.size + 1, 0, none⟩ = some (.slice none 0 0) := by rw [hwF]; simp [go_sem, r0]
        have f1 : wF.cell? ⟨w.heap.size + 1, 1, none⟩ = some (.slice none 0 0) := by rw [hwF]; simp [go_sem, r1]
        have f2 : wF.cell? ⟨w.heap.size + 1, 2, none⟩ = some (.slice none 0 0) := by rw [hwF]; simp [go_sem, r2]
        have f3 : wF.cell? ⟨w.heap.size + 1, 3, none⟩ = some (.slice none 0 0) := by rw [hwF]; simp [go_sem, r3]
        have g0 : wF.cell? ⟨w.heap.size + 1 + 1, 0, none⟩ = some (.int .i64 0) := by rw [hwF]; simp [go_sem, p0]
        have g1 : wF.cell? ⟨w.heap.size + 1 + 1, 1, none⟩ = some (.int .i64 0) := by rw [hwF]; simp [go_sem, p1]
        have g2 : wF.cell? ⟨w.heap.size + 1 + 1, 2, none⟩ = some (.int .i64 0) := by rw [hwF]; simp [go_sem, p2]
        have g3 : wF.cell? ⟨w.heap.size + 1 + 1, 3, none⟩ = some (.int .i64 0) := by rw [hwF]; simp [go_sem, p3]
        exact bodyPost_ret (v := .tuple #[.agg #[.slice none 0 0, .slice none 0 0, .slice none 0 0, .slice none 0 0], .agg #[.int .i64 0, .int .i64 0, .int .i64 0, .int .i64 0]]) (by simp [results, Tryz.results9, go_sem, f0, f1, f2, f3, g0, g1, g2, g3]) rfl ⟨zS, rfl, zM_row _ _, zM_apart, Touch.below HB1.out hTF HB1.out.size (fun k hk => by omega)⟩
      · rw [hnn] at hnk
        cases hc : choiceOk choice
        · rw [hno (by rw [hao, hc]; simp)]
          rw [hc] at hck
          clear hno hyes hao hsm hv hp hnn hc
          go_enter Tryz.func9, Tryz.ntmps9
          go_wp2_with fail
          refine hvm.mono ?_
          rintro e w1 ⟨rfl, hb1'⟩
          have hb1 : Below wb.heap.size wb w1 := by rw [HWB.out]; exact hb1'
          obtain ⟨⟨q0, q1, q2, q3⟩, ⟨r0, r1, r2, r3⟩, ⟨z0, z1, z2, z3⟩, ⟨p0, p1, p2, p3⟩, ⟨x0, x1, x2, x3⟩, N1⟩ := HBOX.out w1 hb1
          have HB1 : Hid (Below w.heap.size w w1) := HBB.out.trans (hb1.mono (by have := HZ.out; omega))
          clear hb1' hb1 hvm
          go_wp2_with (first | (go_at_call 48; refine (hpk _).mono ?_; rintro e wE ⟨rfl, hwE⟩; obtain rfl := hwE.symm) | (go_at_call 49; refine (hnk _).mono ?_; rintro e wE ⟨rfl, hwE⟩; obtain rfl := hwE.symm) | (go_at_call 50; refine (hck _).mono ?_; rintro e wE ⟨rfl, hwE⟩; obtain rfl := hwE.symm))
          obtain ⟨wF, hwF⟩ : ∃ wF, wF = ((((((((w1.setCell ⟨w.heap.size + 1, 0, none⟩ (.slice none 0 0)).setCell ⟨w.heap.size + 1, 1, none⟩ (.slice none 0 0)).setCell ⟨w.heap.size + 1, 2, none⟩ (.slice none 0 0)).setCell ⟨w.heap.size + 1, 3, none⟩ (.slice none 0 0)).setCell ⟨w.heap.size + 1 + 1, 0, none⟩ (.int .i64 0)).setCell ⟨w.heap.size + 1 + 1, 1, none⟩ (.int .i64 0)).setCell ⟨w.heap.size + 1 + 1, 2, none⟩ (.int .i64 0)).setCell ⟨w.heap.size + 1 + 1, 3, none⟩ (.int .i64 0)) := ⟨_, rfl⟩
          rw [← hwF]
          have hTF : Touch (fun k => k = w.heap.size + 1 ∨ k = w.heap.size + 1 + 1) w1 wF := by
            rw [hwF]
            exact (Touch.put (Touch.put (Touch.put (Touch.put (Touch.put (Touch.put (Touch.put (Touch.put (Touch.none w1) _ _ (.inl rfl)) _ _ (.inl rfl)) _ _ (.inl rfl)) _ _ (.inl rfl)) _ _ (.inr rfl)) _ _ (.inr rfl)) _ _ (.inr rfl)) _ _ (.inr rfl))
          have f0 : wF.cell? ⟨w.heap.size + 1, 0, none⟩ = some (.slice none 0 0) := by rw [hwF]; simp [go_sem, r0]
          have f1 : wF.cell? ⟨w.heap.size + 1, 1, none⟩ = some (.slice none 0 0) := by rw [hwF]; simp [go_sem, r1]
          have f2 : wF.cell? ⟨w.heap.size + 1, 2, none⟩ = some (.slice none 0 0) := by rw [hwF]; simp [go_sem, r2]
          have f3 : wF.cell? ⟨w.heap.size + 1, 3, none⟩ = some (.slice none 0 0) := by rw [hwF]; simp [go_sem, r3]
          have g0 : wF.cell? ⟨w.heap.size + 1 + 1, 0, none⟩ = some (.int .i64 0) := by rw [hwF]; simp [go_sem, p0]
          have g1 : wF.cell? ⟨w.heap.size + 1 + 1, 1, none⟩ = some (.int .i64 0) := by rw [hwF]; simp [go_sem, p1]
          have g2 : wF.cell? ⟨w.heap.size + 1 + 1, 2, none⟩ = some (.int .i64 0) := by rw [hwF]; simp [go_sem, p2]
          have g3 : wF.cell? ⟨w.heap.size + 1 + 1, 3, none⟩ = some (.int .i64 0) := by rw [hwF]; simp [go_sem, p3]
          exact bodyPost_ret (v := .tuple #[.agg #[.slice none 0 0, .slice none 0 0, .slice none 0 0, .slice none 0 0], .agg #[.int .i64 0, .int .i64 0, .int .i64 0, .int .i64 0]]) (by simp [results, Tryz.results9, go_sem, f0, f1, f2, f3, g0, g1, g2, g3]) rfl ⟨zS, rfl, zM_row _ _, zM_apart, Touch.below HB1.out hTF HB1.out.size (fun k hk => by omega)⟩
        · rw [hc] at hck
          have hy := hyes (by rw [hao, hv, hp, hc, hnn]; rfl)
          rw [hy] at hsm ⊢
          have hok := WOk.of hk hv
          have hpp : 0 ≤ page ∧ page < 4096 := by simpa [pageOk] using hp
          have hcc : 0 ≤ choice ∧ choice ≤ 65535 := by simpa [choiceOk] using hc
          have HOP : Hid (∀ wX, Below wb.heap.size wb wX → Calls Tryz.prog 51 #[.agg #[.slice s.a1 M.mem.length s.c1, .slice s.a2 M.pend.length s.c2, .slice s.a3 M.tlb.length s.c3, .slice s.a4 M.wc.length s.c4]] wX fun r w' => ∃ gu u, r = .returned (.pointer (some ⟨gu, 0, none⟩)) ∧ wX.heap.size ≤ gu ∧ UM w' gu wX.heap.size wX.heap.size true u M ∧ (∀ k, u.o1 = some k → u.o3 ≠ some k) ∧ Below wX.heap.size wX w') := fun wX hX => open_any s M b wX hok (fun i hi => valid_pend hv i hi) (HM.out wX hX)
          obtain ⟨R, hR⟩ : ∃ R, R = accN M page choice := ⟨_, rfl⟩
          obtain ⟨SX, hSX⟩ : ∃ SX, SX = accS M page need choice := ⟨_, rfl⟩
          have HAC : Hid (∀ (gu b0 : Nat) (u : UV) (wX : World), b0 ≤ wX.heap.size → UM wX gu b0 b0 true u M → Calls Tryz.prog 52 #[.pointer (some ⟨gu, 0, none⟩), .int .i64 page, .int .i64 need, .int .i64 choice] wX fun r w' => r = .returned (.agg #[.int .i64 SX.page, .int .i64 SX.need, .int .i64 SX.kind, .int .i64 SX.out]) ∧ ∃ u', UStep wX w' gu b0 b0 true u u' R) := fun gu b0 u wX hb hu => by
            rw [hR, hSX]
            exact access_any gu b0 b0 u M page need choice wX hpp.1 hpp.2 hcc.1 hcc.2 hnn hok hv hb hu
          have hsm' : R.Small := by rw [hR]; exact hsm
          have hcl0 := fun (gu b0 : Nat) (u : UV) (wX : World) (hu : UM wX gu b0 b0 true u R) => close_any gu b0 b0 true u R wX hsm' hu
          have HCL : Hid _ := hcl0
          rw [← hR, ← hSX]
          unfold seenV
          clear hcl0 hno hyes hao hy hsm hok hR hSX hv hp hc hsm' hpp hcc
          go_enter Tryz.func9, Tryz.ntmps9
          go_wp2_with fail
          refine hvm.mono ?_
          rintro e w1 ⟨rfl, hb1'⟩
          have hb1 : Below wb.heap.size wb w1 := by rw [HWB.out]; exact hb1'
          obtain ⟨⟨q0, q1, q2, q3⟩, ⟨r0, r1, r2, r3⟩, ⟨z0, z1, z2, z3⟩, ⟨p0, p1, p2, p3⟩, ⟨x0, x1, x2, x3⟩, N1⟩ := HBOX.out w1 hb1
          have HB1 : Hid (Below wb.heap.size wb w1) := hb1
          clear hb1' hb1 hvm
          go_wp2_with (first | (go_at_call 48; refine (hpk _).mono ?_; rintro e wE ⟨rfl, hwE⟩; obtain rfl := hwE.symm) | (go_at_call 49; refine (hnk _).mono ?_; rintro e wE ⟨rfl, hwE⟩; obtain rfl := hwE.symm) | (go_at_call 50; refine (hck _).mono ?_; rintro e wE ⟨rfl, hwE⟩; obtain rfl := hwE.symm))
          refine (HOP.out _ HB1.out).mono ?_
          rintro e w2 ⟨gu, u, rfl, hgu, hum, hap, hb2⟩
          have hac := HAC.out gu w1.heap.size u w2 hb2.size hum
          have HUM : Hid (UM w2 gu w1.heap.size w1.heap.size true u M) := hum
          have HAP : Hid (∀ k, u.o1 = some k → u.o3 ≠ some k) := hap
          have HB2 : Hid (Below w1.heap.size w1 w2) := hb2
          have HGU : Hid (w1.heap.size ≤ gu) := hgu
          clear hum hap hb2 hgu q0 q1 q2 q3 r0 r1 r2 r3 z0 z1 z2 z3 p0 p1 p2 p3 x0 x1 x2 x3
          go_wp2_with fail
          refine hac.mono ?_
          rintro e w3 ⟨rfl, u', hst⟩
          obtain ⟨wq, hwq⟩ : ∃ wq, wq = w3.alloc (.cells #[.int .i64 SX.page, .int .i64 SX.need, .int .i64 SX.kind, .int .i64 SX.out] 38) := ⟨_, rfl⟩
          have hzq : wq.heap.size = w3.heap.size + 1 := by rw [hwq]; simp
          have b3 : Below w1.heap.size w1 w3 := Touch.below HB2.out hst.tch HB2.out.size (fun k hk => by
            rcases hk with hk | hk | hk
            · have := HGU.out; omega
            · exact (HUM.out.t.ownA k hk).1
            · exact (HUM.out.c.ownA k hk).1)
          have bq : Below w3.heap.size w3 wq := by rw [hwq]; exact (Below.refl _ _).alloc (Nat.le_refl _) _
          have HSQ : Hid (∀ wX, Below wq.heap.size wq wX → wX.cell? ⟨w3.heap.size, 0, none⟩ = some (.int .i64 SX.page) ∧ wX.cell? ⟨w3.heap.size, 1, none⟩ = some (.int .i64 SX.need) ∧ wX.cell? ⟨w3.heap.size, 2, none⟩ = some (.int .i64 SX.kind) ∧ wX.cell? ⟨w3.heap.size, 3, none⟩ = some (.int .i64 SX.out)) := fun wX hX => by
            refine ⟨?_, ?_, ?_, ?_⟩
            iterate 4 (exact (hX.cell (by simp; omega)).trans (by rw [hwq]; simp [go_sem]))
          have HCQ : Hid (∀ wX, Below wq.heap.size wq wX → UM wX gu w1.heap.size w1.heap.size true u' R) := fun wX hX => hst.um.below (bq.trans (hX.mono (by omega)))
          have HST : Hid (UStep w2 w3 gu w1.heap.size w1.heap.size true u u' R) := hst
          have HWQ : Hid (wq = _) := hwq
          have HZQ : Hid (wq.heap.size = w3.heap.size + 1) := hzq
          have HB3 : Hid (Below w1.heap.size w1 w3) := b3
          have HBQ : Hid (Below w3.heap.size w3 wq) := bq
          clear hst hac hwq b3 bq hzq
          go_upto_region 5 with fail
          rw [← HWQ.out]
          refine wp_region_held_drew (S := fun wX => wX.cell? ⟨w3.heap.size, 0, none⟩ = some (.int .i64 SX.page) ∧ wX.cell? ⟨w3.heap.size, 1, none⟩ = some (.int .i64 SX.need) ∧ wX.cell? ⟨w3.heap.size, 2, none⟩ = some (.int .i64 SX.kind) ∧ wX.cell? ⟨w3.heap.size, 3, none⟩ = some (.int .i64 SX.out)) (by kernel_rfl) (HSQ.out _ (Below.refl _ _).drew) (fun hHeld => ?_)
          refine wpAnyH_take (i := 0) (v := ?_) rfl (by kernel_rfl) (by kernel_rfl) (by kernel_rfl) (fun _ _ _ h => h) (Or.inl ⟨by rfl, ?_⟩) (by assumption) ?_
          rotate_left
          · (intro w hSw; (try dsimp only at hSw); go_simp; try with_reducible rfl)
          simp only [Act.put, List.setIfInBounds_toArray, List.set_cons_zero, List.set_cons_succ, List.getElem_toArray, List.getElem_cons_zero]
          refine wpAnyH_take (i := 2) (v := ?_) rfl (by kernel_rfl) (by kernel_rfl) (by kernel_rfl) (fun _ _ _ h => h) (Or.inl ⟨by rfl, ?_⟩) (by assumption) ?_
          rotate_left
          · (intro w hSw; (try dsimp only at hSw); go_simp; try with_reducible rfl)
          simp only [Act.put, List.setIfInBounds_toArray, List.set_cons_zero, List.set_cons_succ, List.getElem_toArray, List.getElem_cons_zero, List.getElem_cons_succ]
          refine wpAnyH_ready (rs := [1]) (by kernel_rfl) (by simp) ?_
          refine AllReadyH.cons rfl (fun K hK => ?_) AllReadyH.nil
          go_simp
          refine (HCL.out gu w1.heap.size u' wq.drew (HCQ.out _ (Below.refl _ _).drew)).mono ?_; rintro r w4 ⟨a3, c3, a4, c4, rfl, ht4, hc4, hap4, hb4⟩
          go_wp2_with fail
          refine hK.out _ _ (HSQ.out _ ((Below.refl _ _).drew.trans (hb4.mono (by simp)))) (fun hHeld2 => ?_)
          clear hK K
          have bq4 : Below wq.heap.size wq w4 := (Below.refl _ _).drew.trans (hb4.mono (by simp))
          have b34 : Below w3.heap.size w3 w4 := HBQ.out.trans (bq4.mono HBQ.out.size)
          have b14 : Below w1.heap.size w1 w4 := HB3.out.trans (b34.mono HB3.out.size)
          have b4 : Below wb.heap.size wb w4 := HB1.out.trans (b14.mono HB1.out.size)
          obtain ⟨⟨q0, q1, q2, q3⟩, ⟨r0, r1, r2, r3⟩, ⟨z0, z1, z2, z3⟩, ⟨p0, p1, p2, p3⟩, ⟨x0, x1, x2, x3⟩, N1⟩ := HBOX.out w4 b4
          have hz3 := HZQ.out
          have hzb := HZ.out
          have hs13 := HB3.out.size
          have hs1b := HB1.out.size
          have hs4 := bq4.size
          have HS4 : Hid (∀ wX, Touch (fun k => k = w.heap.size + 1 ∨ k = w.heap.size + 1 + 1) w4 wX → wX.cell? ⟨w3.heap.size, 0, none⟩ = some (.int .i64 SX.page) ∧ wX.cell? ⟨w3.heap.size, 1, none⟩ = some (.int .i64 SX.need) ∧ wX.cell? ⟨w3.heap.size, 2, none⟩ = some (.int .i64 SX.kind) ∧ wX.cell? ⟨w3.heap.size, 3, none⟩ = some (.int .i64 SX.out)) := fun wX hX => by
            obtain ⟨c0, c1, c2, c3'⟩ := HSQ.out w4 bq4
            have hbk := hX.block w3.heap.size (by omega) (by omega)
            exact ⟨(World.cell?_of_block hbk).trans c0, (World.cell?_of_block hbk).trans c1, (World.cell?_of_block hbk).trans c2, (World.cell?_of_block hbk).trans c3'⟩
          have HEND : Hid (∀ wF, Touch (fun k => k = w.heap.size + 1 ∨ k = w.heap.size + 1 + 1) w4 wF → ∃ s' : SV, Ending.returned (.tuple #[.agg #[(.slice u'.a1 R.mem.length u'.c1), (.slice u'.a3 R.pend.length u'.c3), (.slice a3 R.tlb.length c3), (.slice a4 R.wc.length c4)], .agg #[.int .i64 SX.page, .int .i64 SX.need, .int .i64 SX.kind, .int .i64 SX.out]]) = .returned (.tuple #[.agg #[.slice s'.a1 R.mem.length s'.c1, .slice s'.a2 R.pend.length s'.c2, .slice s'.a3 R.tlb.length s'.c3, .slice s'.a4 R.wc.length s'.c4], .agg #[.int .i64 SX.page, .int .i64 SX.need, .int .i64 SX.kind, .int .i64 SX.out]]) ∧ MRow wF w.heap.size (s'.mv R) R ∧ (s'.mv R).apart ∧ Below w.heap.size w wF) := by
            intro wF hTF
            have hst := HST.out
            have ht4' : ERow eTlb w4 w3.heap.size (.slice a3 R.tlb.length c3) R.tlb := ht4.rebase (by simp; omega)
            have hc4' : ERow eWc w4 w3.heap.size (.slice a4 R.wc.length c4) R.wc := hc4.rebase (by simp; omega)
            have hrow : MRow w4 w1.heap.size ((⟨u'.a1, u'.c1, u'.a3, u'.c3, a3, c3, a4, c4⟩ : SV).mv R) R := ⟨hst.um.w.below b34, hst.um.p.below b34, ht4'.rebase hs13, hc4'.rebase hs13⟩
            refine ⟨⟨u'.a1, u'.c1, u'.a3, u'.c3, a3, c3, a4, c4⟩, rfl, ?_, ?_, ?_⟩
            · refine MRow.rebase (base := w1.heap.size) (hrow.touch hTF (fun k hk hh => ?_)) (by omega)
              have := (hrow.own k hk).1
              omega
            · intro k
              have o1 := fun h => (hst.um.w.ownA k h).2
              have o3 := fun h => (hst.um.p.ownA k h).2
              have ot := fun h => (ht4'.ownA k h).1
              have oc := fun h => (hc4'.ownA k h).1
              have x13 : oOf u'.a1 = some k → oOf u'.a3 ≠ some k := fun h1 h3 => HAP.out k (by rw [← hst.s1]; exact h1) (by rw [← hst.s3]; exact h3)
              simp only [SV.mv, own_slice]
              refine ⟨fun h => ⟨x13 h, fun h' => ?_, fun h' => ?_⟩, fun h => ⟨fun h' => ?_, fun h' => ?_⟩, fun h h' => hap4 k h h'⟩
              · have := o1 h; have := ot h'; omega
              · have := o1 h; have := oc h'; omega
              · have := o3 h; have := ot h'; omega
              · have := o3 h; have := oc h'; omega
            · exact Touch.below (HBB.out.trans (b4.mono (by omega))) hTF (by omega) (fun k hk => by omega)
          clear ht4 hc4 hap4 hb4 bq4 b34 b14 b4 q0 q1 q2 q3 hz3 hzb hs13 hs1b hs4 hHeld2
          refine wpAnyH_ready (rs := [3]) (by kernel_rfl) (by simp) ?_
          refine AllReadyH.cons rfl (fun K hK => ?_) AllReadyH.nil
          go_simp
          refine hK.out _ _ (HS4.out _ (Touch.put (Touch.put (Touch.put (Touch.put (Touch.none w4) _ _ (.inl rfl)) _ _ (.inl rfl)) _ _ (.inl rfl)) _ _ (.inl rfl))) (fun hHeld2 => ?_)
          clear hK K
          refine wpAnyH_ready (rs := [4]) (by kernel_rfl) (by simp) ?_
          refine AllReadyH.cons rfl (fun K hK => ?_) AllReadyH.nil
          go_simp
          refine hK.out _ _ (HS4.out _ (Touch.put (Touch.put (Touch.put (Touch.put (Touch.put (Touch.put (Touch.put (Touch.put (Touch.none w4) _ _ (.inl rfl)) _ _ (.inl rfl)) _ _ (.inl rfl)) _ _ (.inl rfl)) _ _ (.inr rfl)) _ _ (.inr rfl)) _ _ (.inr rfl)) _ _ (.inr rfl))) (fun hHeld3 => ?_)
          clear hK K
          refine wpAnyH_done (by kernel_rfl) ?_ _
          go_wp2_with fail
          obtain ⟨wF, hwF⟩ : ∃ wF, wF = ((((((((w4.setCell ⟨w.heap.size + 1, 0, none⟩ ((.slice u'.a1 R.mem.length u'.c1))).setCell ⟨w.heap.size + 1, 1, none⟩ ((.slice u'.a3 R.pend.length u'.c3))).setCell ⟨w.heap.size + 1, 2, none⟩ ((.slice a3 R.tlb.length c3))).setCell ⟨w.heap.size + 1, 3, none⟩ ((.slice a4 R.wc.length c4))).setCell ⟨w.heap.size + 1 + 1, 0, none⟩ (.int .i64 SX.page)).setCell ⟨w.heap.size + 1 + 1, 1, none⟩ (.int .i64 SX.need)).setCell ⟨w.heap.size + 1 + 1, 2, none⟩ (.int .i64 SX.kind)).setCell ⟨w.heap.size + 1 + 1, 3, none⟩ (.int .i64 SX.out)) := ⟨_, rfl⟩
          have f0 : wF.cell? ⟨w.heap.size + 1, 0, none⟩ = some (.slice u'.a1 R.mem.length u'.c1) := by rw [hwF]; simp [go_sem, r0]
          have f1 : wF.cell? ⟨w.heap.size + 1, 1, none⟩ = some (.slice u'.a3 R.pend.length u'.c3) := by rw [hwF]; simp [go_sem, r1]
          have f2 : wF.cell? ⟨w.heap.size + 1, 2, none⟩ = some (.slice a3 R.tlb.length c3) := by rw [hwF]; simp [go_sem, r2]
          have f3 : wF.cell? ⟨w.heap.size + 1, 3, none⟩ = some (.slice a4 R.wc.length c4) := by rw [hwF]; simp [go_sem, r3]
          have g0 : wF.cell? ⟨w.heap.size + 1 + 1, 0, none⟩ = some (.int .i64 SX.page) := by rw [hwF]; simp [go_sem, p0]
          have g1 : wF.cell? ⟨w.heap.size + 1 + 1, 1, none⟩ = some (.int .i64 SX.need) := by rw [hwF]; simp [go_sem, p1]
          have g2 : wF.cell? ⟨w.heap.size + 1 + 1, 2, none⟩ = some (.int .i64 SX.kind) := by rw [hwF]; simp [go_sem, p2]
          have g3 : wF.cell? ⟨w.heap.size + 1 + 1, 3, none⟩ = some (.int .i64 SX.out) := by rw [hwF]; simp [go_sem, p3]
          have hTF : Touch (fun k => k = w.heap.size + 1 ∨ k = w.heap.size + 1 + 1) w4 wF := by
            rw [hwF]
            exact (Touch.put (Touch.put (Touch.put (Touch.put (Touch.put (Touch.put (Touch.put (Touch.put (Touch.none w4) _ _ (.inl rfl)) _ _ (.inl rfl)) _ _ (.inl rfl)) _ _ (.inl rfl)) _ _ (.inr rfl)) _ _ (.inr rfl)) _ _ (.inr rfl)) _ _ (.inr rfl))
          rw [← hwF]
          exact bodyPost_ret (v := .tuple #[.agg #[(.slice u'.a1 R.mem.length u'.c1), (.slice u'.a3 R.pend.length u'.c3), (.slice a3 R.tlb.length c3), (.slice a4 R.wc.length c4)], .agg #[.int .i64 SX.page, .int .i64 SX.need, .int .i64 SX.kind, .int .i64 SX.out]]) (by simp [results, Tryz.results9, go_sem, f0, f1, f2, f3, g0, g1, g2, g3]) rfl (HEND.out wF hTF)
end Go.Proofs.YtgabcaldjlenpabGreat
