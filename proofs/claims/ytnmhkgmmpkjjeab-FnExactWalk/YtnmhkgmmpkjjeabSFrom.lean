import Derived.Test.YtnmhkgmmpkjjeabWM
import Derived.Test.YtnmhkgmmpkjjeabSPlcB
import Derived.Test.YtnmhkgmmpkjjeabIAddB
namespace Go.Proofs.Ytnmhkgmmpkjjeab
open Go.ChangeShapes Go.WideShapes Go.ChangeAt Go.RowKit
set_option linter.unusedVariables false
attribute [local go_sem ↓] Go.wp_at_zero Go.wp_at_succ

/-- A machine that is memory alone. -/
def bare (zs : List Int) : Mach := ⟨zs, [], [], []⟩
theorem wordM_bare (zs : List Int) (page level frame : Int) : wordM (bare zs) page 0 level frame = zs.getD (frame * 16 + idx page level).toNat 0 := by
  unfold wordM readM
  have : bitI 0 level.toNat = false := by simp [bitI]
  rw [this]
  rfl
theorem bit0 (k : Nat) : bitI 0 k = false := by simp [bitI]
theorem endM_bare (page : Int) (M : Mach) (level x : Int) (doom : Bool) : (endM page 0 M level x doom).2 = if dKind level x = 0 then ⟨0, 0, 0, 0⟩ else if dKind level x = 2 ∨ dKind level x = 3 then ⟨1, dOut level x + page % sizR level x, dPerm level x, sizR level x⟩ else ⟨3, 0, 0, 0⟩ := by
  unfold endM
  split
  · rfl
  · split <;> rfl
/-- What one word means for a walk of plain memory; R: what a walk from the next table gives. -/
def fromR (n page level x : Int) (R : HitR) : HitR :=
  if dKind level x = 0 then ⟨0, 0, 0, 0⟩
  else if dKind level x = 1 ∧ dOut level x < n ∧ level < 3 then R
  else if dKind level x = 2 then ⟨1, dOut level x + page % 16, dPerm level x, 16⟩
  else if dKind level x = 3 then ⟨1, dOut level x, dPerm level x, 1⟩
  else ⟨3, 0, 0, 0⟩
theorem from_end (zs : List Int) (page level frame : Int) (R : HitR) (h : level = 3) : fromR (nfr zs.length) page level (wordM (bare zs) page 0 level frame) R = (goM page 0 0 (bare zs) level frame false).2 := by
  show _ = (endM page 0 (bare zs) level _ false).2
  rw [endM_bare]
  unfold fromR sizR
  generalize wordM (bare zs) page 0 level frame = x
  by_cases h0 : dKind level x = 0
  · rw [if_pos h0, if_pos h0]
  · rw [if_neg h0, if_neg h0, if_neg (by omega)]
    by_cases h2 : dKind level x = 2
    · simp [h2]
    · by_cases h3 : dKind level x = 3
      · simp [h3]
      · simp [h2, h3]
theorem from_step (zs : List Int) (page level frame : Int) (d : Nat) (h : level < 3) : fromR (nfr zs.length) page level (wordM (bare zs) page 0 level frame) (goM page 0 d (bare zs) (level + 1) (dOut level (wordM (bare zs) page 0 level frame)) false).2 = (goM page 0 (d + 1) (bare zs) level frame false).2 := by
  conv => rhs; unfold goM
  have hs : stepM page 0 (bare zs) level (wordM (bare zs) page 0 level frame) false = bare zs := by
    unfold stepM; rw [if_neg (by rw [bit0]; simp)]
  rw [hs]
  generalize wordM (bare zs) page 0 level frame = x
  have hm : (bare zs).mem = zs := rfl
  unfold fromR leadsM
  rw [hm]
  by_cases h1 : dKind level x = 1 ∧ dOut level x < nfr zs.length
  · rw [if_neg (by omega), if_pos ⟨h1.1, h1.2, h⟩, if_pos (by simp [h1])]
  · have e1 : ¬ (dKind level x = 1 ∧ dOut level x < nfr zs.length ∧ level < 3) := fun h' => h1 ⟨h'.1, h'.2.1⟩
    have e2 : ¬ ((decide (dKind level x = 1) && decide (dOut level x < nfr zs.length)) = true) := by
      simp only [Bool.and_eq_true, decide_eq_true_eq]; exact h1
    rw [if_neg e1, if_neg e2]
    rw [endM_bare]
    unfold sizR
    by_cases h0 : dKind level x = 0
    · rw [if_pos h0, if_pos h0]
    · rw [if_neg h0, if_neg h0]
      by_cases h2 : dKind level x = 2
      · simp [h2]
      · by_cases h3 : dKind level x = 3
        · simp [h3]
        · simp [h2, h3]

set_option maxHeartbeats 4000000 in
theorem from_any1 (g : Nat) (zs : List Int) (c : Nat) (page level frame : Int) (hp0 : 0 ≤ page) (hp1 : page < 4096) (hl1 : 1 ≤ level) (hl3 : level ≤ 3) (hf0 : 0 ≤ frame) (hf1 : frame < nfr zs.length) (hz : OkMem zs) (R : HitR) (w : World) (hg : CRow w g zs)
    (hrec : ∀ wX, Below w.heap.size w wX → level < 3 → dKind level (wordM (bare zs) page 0 level frame) = 1 → dOut level (wordM (bare zs) page 0 level frame) < nfr zs.length → Calls Try.prog 61 #[.agg #[.slice (some ⟨g, 0, none⟩) zs.length c], .int .i64 page, .int .i64 (level + 1), .int .i64 (dOut level (wordM (bare zs) page 0 level frame))] wX fun e w' => e = .returned (hitV R) ∧ Below wX.heap.size wX w') :
    Calls Try.prog 61 #[.agg #[.slice (some ⟨g, 0, none⟩) zs.length c], .int .i64 page, .int .i64 level, .int .i64 frame] w fun e w' => e = .returned (hitV (fromR (nfr zs.length) page level (wordM (bare zs) page 0 level frame) R)) ∧ Below w.heap.size w w' := by
  have hn := nfr_mul zs.length hz.n0
  have hnl := nfr_le zs.length
  have hix := idx_bd page level hp0 hp1
  obtain ⟨Ad, hAd⟩ : ∃ Ad : Nat, (Ad : Int) = frame * 16 + idx page level := ⟨(frame * 16 + idx page level).toNat, by omega⟩
  have hAd2 : Ad < zs.length := by omega
  have hAn : (frame * 16 + idx page level).toNat = Ad := by omega
  have hcell := hg.cell (i := Ad) hAd2
  have hx := wordM_bare zs page level frame
  rw [hAn] at hx
  rw [← hx] at hcell
  have hrg := hz.rng Ad
  rw [← hx] at hrg
  have hidx := fun w => index_any page level hp0 hp1 w
  have hdec := fun wX => specDecode_any level (wordM (bare zs) page 0 level frame) hrg.1 hrg.2 wX
  have hfr := frames_any (some ⟨g, 0, none⟩) zs.length c (by omega)
  have hgl := hg.lt
  obtain ⟨wb, hwb⟩ : ∃ wb, wb = (w.alloc (.cells #[.slice (some ⟨g, 0, none⟩) zs.length c] 29)).alloc (.cells #[.int .i64 0, .int .i64 0, .int .i64 0, .int .i64 0] 37) := ⟨_, rfl⟩
  have hbb : Below w.heap.size w wb := by rw [hwb]; exact ((Below.refl _ _).alloc (Nat.le_refl _) _).alloc (by simp) _
  have hzb : wb.heap.size = w.heap.size + 2 := by rw [hwb]; simp
  have hcw : wb.cell? ⟨g, Ad, none⟩ = some (.int .u64 (wordM (bare zs) page 0 level frame)) := (hbb.cell (by simpa using hgl)).trans hcell
  have HKS : Hid (∀ wX, Below wb.heap.size wb wX → wX.cell? ⟨w.heap.size, 0, none⟩ = some (.slice (some ⟨g, 0, none⟩) zs.length c) ∧ wX.cell? ⟨g, Ad, none⟩ = some (.int .u64 (wordM (bare zs) page 0 level frame))) := fun wX hX => ⟨(hX.cell (by simp; omega)).trans (by rw [hwb]; simp [go_sem]), (hX.cell (by simp; omega)).trans hcw⟩
  have HRS : Hid (∀ wX, Below wb.heap.size wb wX → (wX.cell? ⟨w.heap.size + 1, 0, none⟩ = some (.int .i64 0) ∧ wX.cell? ⟨w.heap.size + 1, 1, none⟩ = some (.int .i64 0) ∧ wX.cell? ⟨w.heap.size + 1, 2, none⟩ = some (.int .i64 0) ∧ wX.cell? ⟨w.heap.size + 1, 3, none⟩ = some (.int .i64 0)) ∧ wX.frozen? ⟨w.heap.size + 1, 0, none⟩ = false ∧ wX.frozen? ⟨w.heap.size + 1, 1, none⟩ = false ∧ wX.frozen? ⟨w.heap.size + 1, 2, none⟩ = false ∧ wX.frozen? ⟨w.heap.size + 1, 3, none⟩ = false) := fun wX hX => by
    refine ⟨⟨?_, ?_, ?_, ?_⟩, ?_, ?_, ?_, ?_⟩
    iterate 4 (exact (hX.cell (by simp; omega)).trans (by rw [hwb]; simp [go_sem]))
    iterate 4 (exact (hX.frozen (by simp; omega)).trans (by rw [hwb]; simp [go_sem]))
  have W1 : IntKind.i64.wrap (frame * 16) = frame * 16 := by rw [IntKind.wrap_i64]; omega
  have W2 : IntKind.i64.wrap (frame * 16 + idx page level) = (Ad : Int) := by rw [IntKind.wrap_i64]; omega
  have HWB : Hid (wb = _) := hwb
  have HBB : Hid (Below _ w wb) := hbb
  have HREC : Hid _ := hrec
  have HZB : Hid (wb.heap.size = w.heap.size + 2) := hzb
  have HFR : Hid _ := hfr
  have LA : (Ad : Int) < (zs.length : Int) := by omega
  have LB : (0 : Int) ≤ (Ad : Int) := by omega
  have hdO := dOut_lo level (wordM (bare zs) page 0 level frame)
  have HK3 : Hid (dKind level (wordM (bare zs) page 0 level frame) = 1 → level < 3) := fun h => by
    rcases Int.lt_or_eq_of_le hl3 with h' | h'
    · exact h'
    · rw [h'] at h; exact absurd h (dKind_3 _)
  obtain ⟨RES, hRES⟩ : ∃ RES, RES = fromR (nfr zs.length) page level (wordM (bare zs) page 0 level frame) R := ⟨_, rfl⟩
  rw [← hRES]
  have HRES : Hid (RES = _) := hRES
  clear hRES
  unfold fromR at HRES
  unfold hitV at *
  generalize wordM (bare zs) page 0 level frame = X at *
  unfold descV desc3 at hdec
  generalize dKind level X = K at *
  generalize dOut level X = O at *
  generalize dPerm level X = P at *
  generalize idx page level = IX at *
  clear hzb hwb hbb hcw hrec hfr hg hcell hx hrg hix hAd hAn
  go_enter Try.func61, Try.ntmps61
  go_upto_region 1 with fail
  rw [← HWB.out]
  go_cut [9] (fun d wx => ∃ D, d = .pointer (some ⟨D, 0, none⟩) ∧ wx.cell? ⟨D, 0, none⟩ = some (.int .i64 K) ∧ wx.cell? ⟨D, 1, none⟩ = some (.int .i64 O) ∧ wx.cell? ⟨D, 2, none⟩ = some (.int .i64 P) ∧ wb.heap.size ≤ D ∧ D < wx.heap.size ∧ Below wb.heap.size wb wx)
  case first =>
    go_region_held3 (fun wX => wX.cell? ⟨w.heap.size, 0, none⟩ = some (.slice (some ⟨g, 0, none⟩) zs.length c) ∧ wX.cell? ⟨g, Ad, none⟩ = some (.int .u64 X))
      ((refine HKS.out _ ?_; repeat (first | exact Below.refl _ _ | with_reducible refine Below.drew ?_ | with_reducible refine Below.setCell ?_ (by first | omega | (simp <;> omega)) _ | with_reducible refine Below.alloc ?_ (by first | omega | (simp <;> omega)) _ | refine Below.trans ?_ (hb1.mono (by first | omega | (simp <;> omega))))))
      (first
        | (go_at_call 119; refine (hidx _).mono ?_; rintro e wE ⟨rfl, hwE⟩; obtain rfl := hwE.symm)
        | (go_at_call 52; refine (hdec _).mono ?_; rintro e w1 ⟨rfl, hb1⟩; obtain ⟨hc1, hf1⟩ := bcell hb1; have hz1 := hb1.size; simp at hz1))
    all_goals
      go_wp2_with fail
      go_meet
      case rel =>
        refine ⟨_, rfl, ?_, ?_, ?_, ?_, ?_, ?_⟩
        · first | (simp [go_sem, hc1]; done) | simp [go_sem]
        · first | (simp [go_sem, hc1]; done) | simp [go_sem]
        · first | (simp [go_sem, hc1]; done) | simp [go_sem]
        · first | omega | (simp <;> omega)
        · first | omega | (simp <;> omega)
        · repeat (first | exact Below.refl _ _ | with_reducible refine Below.drew ?_ | with_reducible refine Below.setCell ?_ (by first | omega | (simp <;> omega)) _ | with_reducible refine Below.alloc ?_ (by first | omega | (simp <;> omega)) _ | refine Below.trans ?_ (hb1.mono (by first | omega | (simp <;> omega))))
  case rest =>
    obtain ⟨wx, rfl⟩ : ∃ wx : World, wx = wc := ⟨_, rfl⟩
    obtain ⟨D, rfl, y0, y1, y2, hD0, hD1, hbx⟩ := hcut
    have sx := hbx.size
    have hzb := HZB.out
    obtain ⟨⟨r0, r1, r2, r3⟩, f0, f1, f2, f3⟩ := HRS.out wx hbx
    obtain ⟨m0, _⟩ := HKS.out wx hbx
    have HBX : Hid (Below wb.heap.size wb wx) := hbx
    have HBW : Hid (Below w.heap.size w wx) := HBB.out.trans (hbx.mono (by omega))
    clear hbx hidx hdec W1 W2 LA LB
    by_cases h0 : K = 0
    · subst h0
      clear HREC HFR
      go_wp2_with fail
      exact bodyPost_ret (v := .agg #[.int .i64 0, .int .i64 0, .int .i64 0, .int .i64 0]) (by simp [results, Try.results61, go_sem, r0, r1, r2, r3]) rfl ⟨by rw [HRES.out]; rfl, ((((HBW.out.setCell (by simp) _).setCell (by simp) _).setCell (by simp) _).setCell (by simp) _)⟩
    · have k0 : (K == 0) = false := by simpa using h0
      have HSX : Hid (∀ wX, Below wx.heap.size wx wX → wX.cell? ⟨w.heap.size, 0, none⟩ = some (.slice (some ⟨g, 0, none⟩) zs.length c) ∧ wX.cell? ⟨D, 0, none⟩ = some (.int .i64 K) ∧ wX.cell? ⟨D, 1, none⟩ = some (.int .i64 O)) := fun wX hX => ⟨(hX.cell (by simp; omega)).trans m0, (hX.cell (by simpa using hD1)).trans y0, (hX.cell (by simpa using hD1)).trans y1⟩
      by_cases hlead : K = 1 ∧ O < nfr zs.length ∧ level < 3
      · obtain ⟨rfl, hO, hl⟩ := hlead
        have hO' : decide (O < nfr zs.length) = true := by simpa using hO
        have hl' : decide (level < 3) = true := by simpa using hl
        have W3 : IntKind.i64.wrap (level + 1) = level + 1 := by rw [IntKind.wrap_i64]; omega
        go_upto_region 4 with fail
        go_region_held3 (fun wX => wX.cell? ⟨w.heap.size, 0, none⟩ = some (.slice (some ⟨g, 0, none⟩) zs.length c) ∧ wX.cell? ⟨D, 0, none⟩ = some (.int .i64 1) ∧ wX.cell? ⟨D, 1, none⟩ = some (.int .i64 O))
          ((refine HSX.out _ ?_; repeat (first | exact Below.refl _ _ | with_reducible refine Below.drew ?_ | refine Below.trans ?_ (hb2.mono (by first | omega | (simp <;> omega))))))
          (first | (go_at_call 50; refine (HFR.out _).mono ?_; rintro e w2 ⟨rfl, hb2⟩))
        have b2 : Below wx.heap.size wx w2 := (Below.refl _ _).drew.trans (hb2.mono (by simp))
        have s2 := b2.size
        obtain ⟨z0, z1, z2⟩ := HSX.out w2 b2
        have hB2 : Below w.heap.size w w2 := HBW.out.trans (b2.mono (by omega))
        have hr := HREC.out w2 hB2 hl (by first | rfl | trivial) hO
        have HB2 : Hid (Below wb.heap.size wb w2) := HBX.out.trans (b2.mono (by omega))
        clear hb2 b2 m0 y0 y1 y2 r0 r1 r2 r3 f0 f1 f2 f3
        go_wp2_with fail
        refine hr.mono ?_
        rintro e w3 ⟨rfl, hb3⟩
        have B3 : Below wb.heap.size wb w3 := HB2.out.trans (hb3.mono (by omega))
        obtain ⟨⟨r0, r1, r2, r3⟩, f0, f1, f2, f3⟩ := HRS.out w3 B3
        have HB3 : Hid (Below w.heap.size w w3) := hB2.trans (hb3.mono (by omega))
        clear hr hb3 B3
        go_wp2_with fail
        exact bodyPost_ret (v := .agg #[.int .i64 R.kind, .int .i64 R.out, .int .i64 R.perm, .int .i64 R.size]) (by simp [results, Try.results61, go_sem, r0, r1, r2, r3]) rfl ⟨by rw [HRES.out]; simp [hO, hl], ((((HB3.out.setCell (by simp) _).setCell (by simp) _).setCell (by simp) _).setCell (by simp) _)⟩
      · go_upto_region 4 with fail
        go_cut [39] (fun cv wy => cv = .bool false ∧ Below wx.heap.size wx wy)
        case first =>
          by_cases h1 : K = 1
          · subst h1
            have hl := HK3.out rfl
            have hO' : decide (O < nfr zs.length) = false := by simp only [decide_eq_false_iff_not]; exact fun h' => hlead ⟨rfl, h', hl⟩
            clear hlead h0
            first | go_region_with (go_at_call 50; refine (HFR.out _).mono ?_; rintro e w2 ⟨rfl, hb2⟩; have hz2 := hb2.size; simp at hz2; have x1 := (hb2.cell (p := ⟨D, 1, none⟩) (by simpa using hD1)).trans y1) | fail
            all_goals
              go_wp2_with fail
              go_meet
              case rel => exact ⟨rfl, (Below.refl _ _).drew.trans (hb2.mono (by simp))⟩
          · have k1 : (K == 1) = false := by simpa using h1
            clear hlead h0 h1
            go_quiet (fail)
            go_wp2_with fail
            go_meet
            case rel => exact ⟨rfl, bDrewN (Below.refl _ _) _⟩
        case rest =>
          obtain ⟨wy, rfl⟩ : ∃ wy : World, wy = wc := ⟨_, rfl⟩
          obtain ⟨rfl, hby⟩ := hcut
          have sy := hby.size
          have x0 := (hby.cell (p := ⟨D, 0, none⟩) (by simpa using hD1)).trans y0
          have x1 := (hby.cell (p := ⟨D, 1, none⟩) (by simpa using hD1)).trans y1
          have x2 := (hby.cell (p := ⟨D, 2, none⟩) (by simpa using hD1)).trans y2
          obtain ⟨⟨z0, z1, z2, z3⟩, e0, e1, e2, e3⟩ := HRS.out wy (HBX.out.trans (hby.mono (by omega)))
          have HY : Hid (Below w.heap.size w wy) := HBW.out.trans (hby.mono (by omega))
          clear hby m0 y0 y1 y2 r0 r1 r2 r3 f0 f1 f2 f3
          by_cases h2 : K = 2
          · subst h2
            go_wp2_with fail
            exact bodyPost_ret (v := .agg #[.int .i64 1, .int .i64 (O + page % 16), .int .i64 P, .int .i64 16]) (by simp [results, Try.results61, go_sem, z0, z1, z2, z3]) rfl ⟨by rw [HRES.out]; simp, ((((HY.out.setCell (by simp) _).setCell (by simp) _).setCell (by simp) _).setCell (by simp) _)⟩
          · have k2 : (K == 2) = false := by simpa using h2
            by_cases h3 : K = 3
            · subst h3
              clear h2 k2 k0 h0
              go_wp2_with fail
              exact bodyPost_ret (v := .agg #[.int .i64 1, .int .i64 O, .int .i64 P, .int .i64 1]) (by simp [results, Try.results61, go_sem, z0, z1, z2, z3]) rfl ⟨by rw [HRES.out]; simp, ((((HY.out.setCell (by simp) _).setCell (by simp) _).setCell (by simp) _).setCell (by simp) _)⟩
            · have k3 : (K == 3) = false := by simpa using h3
              have HIF : Hid _ := And.intro h0 (And.intro hlead (And.intro h2 h3))
              clear h0 hlead h2 h3
              go_wp2_with fail
              refine bodyPost_ret (v := .agg #[.int .i64 3, .int .i64 0, .int .i64 0, .int .i64 0]) (by simp [results, Try.results61, go_sem, z0, z1, z2, z3]) rfl ⟨?_, ((((HY.out.setCell (by simp) _).setCell (by simp) _).setCell (by simp) _).setCell (by simp) _)⟩
              obtain ⟨h0, hlead, h2, h3⟩ := HIF.out
              rw [HRES.out, if_neg h0, if_neg hlead, if_neg h2, if_neg h3]

theorem from_any (g : Nat) (zs : List Int) (c : Nat) (page : Int) (hp0 : 0 ≤ page) (hp1 : page < 4096) (hz : OkMem zs) : ∀ (d : Nat) (level frame : Int), 1 ≤ level → level + d = 3 → 0 ≤ frame → frame < nfr zs.length → ∀ (w : World), CRow w g zs →
    Calls Try.prog 61 #[.agg #[.slice (some ⟨g, 0, none⟩) zs.length c], .int .i64 page, .int .i64 level, .int .i64 frame] w fun e w' => e = .returned (hitV (goM page 0 d (bare zs) level frame false).2) ∧ Below w.heap.size w w'
  | 0, level, frame, hl1, hld, hf0, hf1, w, hg => by
    rw [← from_end zs page level frame ⟨0, 0, 0, 0⟩ (by omega)]
    exact from_any1 g zs c page level frame hp0 hp1 hl1 (by omega) hf0 hf1 hz _ w hg (fun wX hX h _ _ => by omega)
  | d + 1, level, frame, hl1, hld, hf0, hf1, w, hg => by
    rw [← from_step zs page level frame d (by omega)]
    exact from_any1 g zs c page level frame hp0 hp1 hl1 (by omega) hf0 hf1 hz _ w hg (fun wX hX h hk ho => from_any g zs c page hp0 hp1 hz d (level + 1) _ (by omega) (by omega) (dOut_lo _ _).1 ho wX (hg.below hX hg.lt))
/-- What Walk answers. -/
def walkZ (zs : List Int) (page : Int) : HitR := if nfr zs.length = 0 ∨ pageOk page = false then ⟨0, 0, 0, 0⟩ else (goM page 0 2 (bare zs) 1 0 false).2
theorem specWalk_any (g : Nat) (zs : List Int) (c : Nat) (page : Int) (hlen : zs.length ≤ 1048576) (hr : ∀ i, 0 ≤ zs.getD i 0 ∧ zs.getD i 0 < 2 ^ 64) (w : World) (hg : CRow w g zs) :
    Calls Try.prog 21 #[.agg #[.slice (some ⟨g, 0, none⟩) zs.length c], .int .i64 page] w fun e w' => e = .returned (hitV (walkZ zs page)) ∧ Below w.heap.size w w' := by
  have hfr := frames_any (some ⟨g, 0, none⟩) zs.length c (by omega)
  have hpk := pageOk_any page
  unfold walkZ
  by_cases h0 : nfr zs.length = 0
  · rw [if_pos (.inl h0)]
    rw [h0] at hfr
    unfold hitV
    go_enter Try.func21, Try.ntmps21
    go_wp2_with (go_at_call 50; refine (hfr _).mono ?_; rintro e w1 ⟨rfl, hb1⟩; obtain ⟨hc1, hf1⟩ := bcell hb1)
    exact bodyPost_ret (v := .agg #[.int .i64 0, .int .i64 0, .int .i64 0, .int .i64 0]) (by simp [results, Try.results21, go_sem, hc1]) rfl ⟨rfl, (((((((Below.refl _ _).alloc (Nat.le_refl _) _).alloc (by simp) _).trans (hb1.mono (by simp; omega))).setCell (by simp) _).setCell (by simp) _).setCell (by simp) _).setCell (by simp) _⟩
  · cases hp : pageOk page
    · rw [if_pos (.inr rfl)]
      rw [hp] at hpk
      have h0' : (nfr zs.length == 0) = false := by simpa using h0
      unfold hitV
      clear h0
      go_enter Try.func21, Try.ntmps21
      go_wp2_with (first | (go_at_call 50; refine (hfr _).mono ?_; rintro e w1 ⟨rfl, hb1⟩; obtain ⟨hc1, hf1⟩ := bcell hb1) | (go_at_call 60; refine (hpk _).mono ?_; rintro e wE ⟨rfl, hwE⟩; obtain rfl := hwE.symm))
      exact bodyPost_ret (v := .agg #[.int .i64 0, .int .i64 0, .int .i64 0, .int .i64 0]) (by simp [results, Try.results21, go_sem, hc1]) rfl ⟨rfl, (((((((Below.refl _ _).alloc (Nat.le_refl _) _).alloc (by simp) _).trans (hb1.mono (by simp; omega))).setCell (by simp) _).setCell (by simp) _).setCell (by simp) _).setCell (by simp) _⟩
    · rw [if_neg (by simp [h0])]
      obtain ⟨R, hR⟩ : ∃ R, R = (goM page 0 2 (bare zs) 1 0 false).2 := ⟨_, rfl⟩
      rw [← hR]
      rw [hp] at hpk
      have h0' : (nfr zs.length == 0) = false := by simpa using h0
      have hz : OkMem zs := ⟨h0, hr⟩
      have hpp : 0 ≤ page ∧ page < 4096 := by simpa [pageOk] using hp
      have hn := nfr_mul zs.length h0
      have hfa := fun wX (hX : Below w.heap.size w wX) => from_any g zs c page hpp.1 hpp.2 hz 2 1 0 (by omega) (by omega) (by omega) (by omega) wX (hg.below hX hg.lt)
      rw [← hR] at hfa
      have HFA : Hid _ := hfa
      clear hR h0 hfa hz hp hg
      unfold hitV at *
      go_enter Try.func21, Try.ntmps21
      go_wp2_with (first | (go_at_call 50; refine (hfr _).mono ?_; rintro e w1 ⟨rfl, hb1⟩; obtain ⟨hc1, hf1⟩ := bcell hb1) | (go_at_call 60; refine (hpk _).mono ?_; rintro e wE ⟨rfl, hwE⟩; obtain rfl := hwE.symm))
      have B1 : Below w.heap.size w w1 := (((Below.refl _ _).alloc (Nat.le_refl _) _).alloc (by simp) _).trans (hb1.mono (by simp; omega))
      have s1 := hb1.size
      simp at s1
      refine (HFA.out w1 B1).mono ?_
      rintro e w2 ⟨rfl, hb2⟩
      have hc2 : ∀ o, w2.cell? ⟨w.heap.size + 1, o, none⟩ = w1.cell? ⟨w.heap.size + 1, o, none⟩ := fun o => hb2.cell (p := ⟨w.heap.size + 1, o, none⟩) (by simp; omega)
      have hf2 : ∀ o, w2.frozen? ⟨w.heap.size + 1, o, none⟩ = w1.frozen? ⟨w.heap.size + 1, o, none⟩ := fun o => hb2.frozen (p := ⟨w.heap.size + 1, o, none⟩) (by simp; omega)
      have HB2 : Hid (Below w.heap.size w w2) := B1.trans (hb2.mono (by omega))
      clear hb2 B1 hb1
      go_wp2_with fail
      exact bodyPost_ret (v := .agg #[.int .i64 R.kind, .int .i64 R.out, .int .i64 R.perm, .int .i64 R.size]) (by simp [results, Try.results21, go_sem, hc2, hc1]) rfl ⟨rfl, (((HB2.out.setCell (by simp) _).setCell (by simp) _).setCell (by simp) _).setCell (by simp) _⟩
end Go.Proofs.Ytnmhkgmmpkjjeab
