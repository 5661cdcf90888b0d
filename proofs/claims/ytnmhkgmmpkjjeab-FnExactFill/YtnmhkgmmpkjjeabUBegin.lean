import Derived.Test.YtnmhkgmmpkjjeabUAddW
namespace Go.Proofs.Ytnmhkgmmpkjjeab
open Go.ChangeShapes Go.WideShapes Go.ChangeAt Go.RowKit
set_option linter.unusedVariables false
attribute [local go_sem ↓] Go.wp_at_zero Go.wp_at_succ

def noneAt (M : Mach) (page l : Int) : Prop := ∀ j, j < M.wc.length → serves M page l j = false
theorem start_hit {M : Mach} {page choice : Int} (hb : bitI choice 0 = true) (l : Int) (hl : l = 2 ∨ l = 3) (hab : ∀ l', l < l' → l' ≤ 3 → noneAt M page l') (k : Nat) (hk : k < M.wc.length) (hn : ∀ j, j < k → serves M page l j = false) (hy : serves M page l k = true) : startM M page choice = eAt eWc M.wc k := by
  have hf : findW M page l = k := firstR_at _ _ _ hk hn hy
  unfold startM
  rw [if_pos hb]
  rcases hl with rfl | rfl
  · have h3 : findW M page 3 = M.wc.length := firstR_none _ _ (hab 3 (by omega) (by omega))
    rw [if_neg (by omega), hf, if_pos hk]
  · rw [hf, if_pos hk]
theorem start_none {M : Mach} {page choice : Int} (h2 : noneAt M page 2) (h3 : noneAt M page 3) : startM M page choice = ⟨1, 0, 0, false⟩ := by
  have e2 : findW M page 2 = M.wc.length := firstR_none _ _ h2
  have e3 : findW M page 3 = M.wc.length := firstR_none _ _ h3
  unfold startM
  rw [e2, e3]
  simp
theorem start_off {M : Mach} {page choice : Int} (hb : bitI choice 0 = false) : startM M page choice = ⟨1, 0, 0, false⟩ := by
  unfold startM
  rw [if_neg (by rw [hb]; simp)]
/-- Covering, as the program tests it. -/
theorem meets_wc (e : WcE) (page : Int) (hp0 : 0 ≤ page) (hp1 : page < 4096) (hl : e.level = 2 ∨ e.level = 3) (hm : e.page % cov (e.level - 1) = 0) : meets e.page (16 * cov e.level) page 1 = wcCov e page := by
  unfold meets wcCov
  rcases hl with h | h <;> rw [h] at hm ⊢
  · have c1 : cov (2 - 1) = 256 := by decide
    have c2 : cov 2 = 16 := by decide
    rw [c1] at hm ⊢
    rw [c2]
    rw [Bool.eq_iff_iff]
    simp only [Bool.and_eq_true, decide_eq_true_eq]
    omega
  · have c1 : cov (3 - 1) = 16 := by decide
    have c2 : cov 3 = 1 := by decide
    rw [c1] at hm ⊢
    rw [c2]
    rw [Bool.eq_iff_iff]
    simp only [Bool.and_eq_true, decide_eq_true_eq]
    omega

set_option maxHeartbeats 2000000 in
theorem begin_any (gu b0 B : Nat) (L : Bool) (u : UV) (M : Mach) (page choice : Int) (w : World) (hp0 : 0 ≤ page) (hp1 : page < 4096) (hc0 : 0 ≤ choice) (hc1 : choice ≤ 65535) (hn : M.wc.length ≤ 256)
    (hwc : ∀ i, i < M.wc.length → ((eAt eWc M.wc i).level = 2 ∨ (eAt eWc M.wc i).level = 3) ∧ 0 ≤ (eAt eWc M.wc i).page ∧ (eAt eWc M.wc i).page < 4096 ∧ (eAt eWc M.wc i).page % cov ((eAt eWc M.wc i).level - 1) = 0) (h : UM w gu b0 B L u M) :
    Calls Try.prog 120 #[.pointer (some ⟨gu, 0, none⟩), .int .i64 page, .int .i64 choice] w fun r w' => r = .returned (tabV (startM M page choice)) ∧ Below w.heap.size w w' := by
  have hh := has_any choice 0 1 rfl (by omega) hc0 hc1
  obtain ⟨wb, hwb⟩ : ∃ wb, wb = w.alloc (.cells #[.int .i64 0, .int .i64 0, .bool false, .int .i64 0, .int .i64 0] 170) := ⟨_, rfl⟩
  have hbb : Below w.heap.size w wb := by rw [hwb]; exact (Below.refl _ _).alloc (Nat.le_refl _) _
  have hzb : wb.heap.size = w.heap.size + 1 := by rw [hwb]; simp
  have lt := h.lt
  have HQ : Hid (∀ wX, Below (w.heap.size + 1) wb wX → wX.cell? ⟨gu, 4, none⟩ = some (.slice u.a5 M.wc.length u.c5) ∧ wX.cell? ⟨w.heap.size, 0, none⟩ = some (.int .i64 0) ∧ wX.cell? ⟨w.heap.size, 1, none⟩ = some (.int .i64 0) ∧ wX.cell? ⟨w.heap.size, 2, none⟩ = some (.bool false) ∧ wX.cell? ⟨w.heap.size, 3, none⟩ = some (.int .i64 0) ∧ wX.cell? ⟨w.heap.size, 4, none⟩ = some (.int .i64 0) ∧ wX.frozen? ⟨w.heap.size, 0, none⟩ = false ∧ wX.frozen? ⟨w.heap.size, 1, none⟩ = false ∧ wX.frozen? ⟨w.heap.size, 2, none⟩ = false ∧ wX.frozen? ⟨w.heap.size, 3, none⟩ = false ∧ wX.frozen? ⟨w.heap.size, 4, none⟩ = false) := fun wX hX =>
    ⟨(hX.cell (by simp; omega)).trans ((hbb.cell (by simpa using lt)).trans h.q4), (hX.cell (by simp)).trans (by rw [hwb]; simp [go_sem]), (hX.cell (by simp)).trans (by rw [hwb]; simp [go_sem]), (hX.cell (by simp)).trans (by rw [hwb]; simp [go_sem]), (hX.cell (by simp)).trans (by rw [hwb]; simp [go_sem]), (hX.cell (by simp)).trans (by rw [hwb]; simp [go_sem]), (hX.frozen (by simp)).trans (by rw [hwb]; simp [go_sem]), (hX.frozen (by simp)).trans (by rw [hwb]; simp [go_sem]), (hX.frozen (by simp)).trans (by rw [hwb]; simp [go_sem]), (hX.frozen (by simp)).trans (by rw [hwb]; simp [go_sem]), (hX.frozen (by simp)).trans (by rw [hwb]; simp [go_sem])⟩
  have HC : Hid (ERow eWE w B _ M.wc) := h.c
  have HWB : Hid (wb = _) := hwb
  have HBB : Hid (Below _ w wb) := hbb
  have HZ : Hid (wb.heap.size = w.heap.size + 1) := hzb
  have HWC : Hid _ := hwc
  clear h hwb hbb hzb hwc
  cases hb : bitI choice 0
  · rw [hb] at hh
    have HV : Hid _ := start_off (M := M) (page := page) hb
    clear hb
    go_enter Try.func120, Try.ntmps120
    go_wp2_with (go_at_call 174; refine (hh _).mono ?_; rintro e w1 ⟨rfl, rfl⟩)
    exact bodyPost_ret (v := tabV ⟨1, 0, 0, false⟩) (by simp [results, Try.results120, go_sem, tabV, show cov 1 = 256 from rfl]) rfl ⟨by rw [HV.out], (Below.refl _ _).alloc (Nat.le_refl _) _⟩
  · rw [hb] at hh
    have HB0 : Hid _ := hb
    clear hb
    go_enter Try.func120, Try.ntmps120
    go_wp2_with (go_at_call 174; refine (hh _).mono ?_; rintro e w1 ⟨rfl, rfl⟩)
    go_loopw [7] (fun lv wr => ∃ l : Int, lv = .int .i64 l ∧ 1 ≤ l ∧ l ≤ 3 ∧ (∀ l', l < l' → l' ≤ 3 → noneAt M page l') ∧ Below (w.heap.size + 1) wb wr) (fun lv _ => (intOf lv).toNat)
    case atStart => exact ⟨3, rfl, by omega, by omega, fun l' h1 h2 => by omega, by rw [HWB.out]; exact Below.refl _ _⟩
    case round =>
      obtain ⟨l, rfl, hl1, hl3, hab, hb⟩ := hrel
      obtain ⟨q4, c0, c1, c2, c3, c4, f0, f1, f2, f3, f4⟩ := HQ.out wr hb
      have hz := HZ.out
      have hsz := hb.size
      by_cases hlt : 1 < l
      · obtain ⟨l0, rfl⟩ : ∃ w0, w0 = wr := ⟨_, rfl⟩
        have HB : Hid _ := hb
        have HAB : Hid _ := hab
        clear hb hab c0 c1 c2 c3 c4 f0 f1 f2 f3 f4
        go_wp2_with fail
        go_loopw [21] (fun iv wr => ∃ k : Nat, k ≤ M.wc.length ∧ iv = .int .i64 k ∧ (∀ j, j < k → serves M page l j = false) ∧ Below (w.heap.size + 1) wb wr) (fun iv _ => M.wc.length - (intOf iv).toNat)
        case atStart => exact ⟨0, Nat.zero_le _, rfl, fun j hj => by omega, HB.out⟩
        case round =>
          obtain ⟨k, hk, rfl, hnk, hb⟩ := hrel
          obtain ⟨q4, c0, c1, c2, c3, c4, f0, f1, f2, f3, f4⟩ := HQ.out wr hb
          have hsz := hb.size
          by_cases hkl : k < M.wc.length
          · obtain ⟨ga, ca, hae, haf⟩ := HC.out.form
            obtain ⟨g, N, f, hag, _, hr, hN, hf⟩ := haf (by omega)
            have hga : u.a5 = some ⟨g, 0, none⟩ := by
              simp only [Value.slice.injEq] at hae
              exact hae.1.trans hag
            have hN' : M.wc.length * 5 ≤ N := hN
            have hr1 : wr.rowIs g 170 N f := hr.of_block ((HBB.out.trans (hb.mono (by omega))).block g hr.lt)
            rw [hga] at q4 ⊢
            have k0 := hr1.cell (i := k * 5) (by omega)
            rw [show f (k * 5) = .int .i64 (eAt eWc M.wc k).page from hf k hkl 0 (by decide)] at k0
            have k1 := hr1.cell (i := k * 5 + 1) (by omega)
            rw [show f (k * 5 + 1) = .int .i64 (16 * cov (eAt eWc M.wc k).level) from hf k hkl 1 (by decide)] at k1
            have k2 := hr1.cell (i := k * 5 + 2) (by omega)
            rw [show f (k * 5 + 2) = .bool (eAt eWc M.wc k).doom from hf k hkl 2 (by decide)] at k2
            have k3 := hr1.cell (i := k * 5 + 3) (by omega)
            rw [show f (k * 5 + 3) = .int .i64 (eAt eWc M.wc k).level from hf k hkl 3 (by decide)] at k3
            have k4 := hr1.cell (i := k * 5 + 4) (by omega)
            rw [show f (k * 5 + 4) = .int .i64 (eAt eWc M.wc k).table from hf k hkl 4 (by decide)] at k4
            have hgl := hr1.lt
            obtain ⟨el, ep0, ep1, epm⟩ := HWC.out k hkl
            have hfin : serves M page l k = true → startM M page choice = eAt eWc M.wc k := start_hit HB0.out l (by omega) HAB.out k hkl hnk
            have hsv : serves M page l k = (decide ((eAt eWc M.wc k).level = l) && wcCov (eAt eWc M.wc k) page) := rfl
            have hmt := meets_wc (eAt eWc M.wc k) page hp0 hp1 el epm
            have hcb := cov_bd (eAt eWc M.wc k).level
            have L1 : (0 : Int) ≤ (k : Int) := by omega
            have L2 : (k : Int) < (M.wc.length : Int) := by omega
            have HNK : Hid _ := hnk
            have HFIN : Hid _ := hfin
            have HSV : Hid _ := hsv
            have HBk : Hid _ := hb
            clear hr1 hr hf hN haf hae hga hag hfin hsv hb hnk epm
            generalize eAt eWc M.wc k = x at *
            obtain ⟨wx, hwx⟩ : ∃ wx, wx = wr.alloc (.cells #[.int .i64 x.page, .int .i64 (16 * cov x.level), .bool x.doom, .int .i64 x.level, .int .i64 x.table] 170) := ⟨_, rfl⟩
            have hzx : wx.heap.size = wr.heap.size + 1 := by rw [hwx]; simp
            have y0 : wx.cell? ⟨wr.heap.size, 0, none⟩ = some (.int .i64 x.page) := by rw [hwx]; simp [go_sem]
            have y1 : wx.cell? ⟨wr.heap.size, 1, none⟩ = some (.int .i64 (16 * cov x.level)) := by rw [hwx]; simp [go_sem]
            have y2 : wx.cell? ⟨wr.heap.size, 2, none⟩ = some (.bool x.doom) := by rw [hwx]; simp [go_sem]
            have y3 : wx.cell? ⟨wr.heap.size, 3, none⟩ = some (.int .i64 x.level) := by rw [hwx]; simp [go_sem]
            have y4 : wx.cell? ⟨wr.heap.size, 4, none⟩ = some (.int .i64 x.table) := by rw [hwx]; simp [go_sem]
            have bx : Below (w.heap.size + 1) wb wx := by rw [hwx]; exact HBk.out.alloc (by omega) _
            have hcv := covers_hdr wr.heap.size 0 x.page (16 * cov x.level) page ⟨ep0, by omega⟩ ⟨by omega, by omega⟩ ⟨hp0, by omega⟩ wx y0 y1
            have HTX : Hid (tabV x = .agg #[.int .i64 x.page, .int .i64 (16 * cov x.level), .bool x.doom, .int .i64 x.level, .int .i64 x.table]) := rfl
            rw [hmt, hwx] at hcv
            have HWX : Hid (wx = _) := hwx
            have HBX : Hid _ := bx
            have HY : Hid (wx.cell? ⟨wr.heap.size, 0, none⟩ = some (.int .i64 x.page) ∧ wx.cell? ⟨wr.heap.size, 1, none⟩ = some (.int .i64 (16 * cov x.level)) ∧ wx.cell? ⟨wr.heap.size, 2, none⟩ = some (.bool x.doom) ∧ wx.cell? ⟨wr.heap.size, 3, none⟩ = some (.int .i64 x.level) ∧ wx.cell? ⟨wr.heap.size, 4, none⟩ = some (.int .i64 x.table)) := ⟨y0, y1, y2, y3, y4⟩
            clear hwx bx y0 y1 y2 y3 y4 hmt
            generalize 16 * cov x.level = X1 at *
            by_cases hx : x.level = l
            · have hx' : (x.level == l) = true := by simpa using hx
              cases hcw : wcCov x page
              · have hv : serves M page l k = false := by rw [HSV.out]; simp [hcw]
                rw [hcw] at hcv
                have HV : Hid _ := hv
                clear hx hv hcw c0 c1 c2 c3 c4 f0 f1 f2 f3 f4
                go_wp2_with fail
                refine hcv.mono ?_
                rintro e w1 ⟨rfl, hb1'⟩
                have hb1 : Below wx.heap.size wx w1 := by rw [HWX.out]; exact hb1'
                have HB1 : Hid (Below (w.heap.size + 1) wb w1) := HBX.out.trans (hb1.mono (by omega))
                clear hb1' hb1 hcv
                go_wp2_with fail
                go_roundw
                case rel => exact ⟨k + 1, by omega, by go_num, fun j hj => if h : j = k then h ▸ HV.out else HNK.out j (by omega), HB1.out⟩
                case measure => simp [intOf]; omega
              · have hv : startM M page choice = x := HFIN.out (by rw [HSV.out]; simp [hx, hcw])
                rw [hcw] at hcv
                have HV : Hid _ := hv
                clear hx hv hcw c0 c1 c2 c3 c4 f0 f1 f2 f3 f4
                go_wp2_with fail
                refine hcv.mono ?_
                rintro e w1 ⟨rfl, hb1'⟩
                have hb1 : Below wx.heap.size wx w1 := by rw [HWX.out]; exact hb1'
                have B1 : Below (w.heap.size + 1) wb w1 := HBX.out.trans (hb1.mono (by omega))
                obtain ⟨y0, y1, y2, y3, y4⟩ := HY.out
                have z0 := (hb1.cell (p := ⟨wr.heap.size, 0, none⟩) (by simp; omega)).trans y0
                have z1 := (hb1.cell (p := ⟨wr.heap.size, 1, none⟩) (by simp; omega)).trans y1
                have z2 := (hb1.cell (p := ⟨wr.heap.size, 2, none⟩) (by simp; omega)).trans y2
                have z3 := (hb1.cell (p := ⟨wr.heap.size, 3, none⟩) (by simp; omega)).trans y3
                have z4 := (hb1.cell (p := ⟨wr.heap.size, 4, none⟩) (by simp; omega)).trans y4
                obtain ⟨q4', c0, c1, c2, c3, c4, f0, f1, f2, f3, f4⟩ := HQ.out w1 B1
                have HB1 : Hid (Below (w.heap.size + 1) wb w1) := B1
                clear hb1' hb1 hcv B1 y0 y1 y2 y3 y4 q4' q4
                go_wp2_with fail
                exact bodyPost_ret (v := .agg #[.int .i64 x.page, .int .i64 X1, .bool x.doom, .int .i64 x.level, .int .i64 x.table]) (by simp [results, Try.results120, go_sem, c0, c1, c2, c3, c4]) rfl ⟨by rw [HV.out, HTX.out], ((((((HBB.out.trans (HB1.out.mono (by omega))).setCell (by simp) _).setCell (by simp) _).setCell (by simp) _).setCell (by simp) _).setCell (by simp) _)⟩
            · have hx' : (x.level == l) = false := by simpa using hx
              have hv : serves M page l k = false := by rw [HSV.out]; simp [hx]
              have HV : Hid _ := hv
              clear hx hv hcv c0 c1 c2 c3 c4 f0 f1 f2 f3 f4
              go_wp2_with fail
              go_roundw
              case rel => exact ⟨k + 1, by omega, by go_num, fun j hj => if h : j = k then h ▸ HV.out else HNK.out j (by omega), HBk.out.alloc (by omega) _⟩
              case measure => simp [intOf]; omega
          · have e : k = M.wc.length := by omega
            subst e
            have HNK : Hid (noneAt M page l) := hnk
            have HBk : Hid _ := hb
            have L2 : ¬ (M.wc.length : Int) < (M.wc.length : Int) := by omega
            clear hb hnk c0 c1 c2 c3 c4 f0 f1 f2 f3 f4
            go_wp2_with fail
            go_roundw
            case rel => exact ⟨l - 1, rfl, by omega, by omega, fun l' h1 h2 => if h : l' = l then h ▸ HNK.out else HAB.out l' (by omega) h2, HBk.out⟩
            case measure => simp [intOf]; omega
      · have e : l = 1 := by omega
        subst e
        have HV : Hid _ := start_none (choice := choice) (hab 2 (by omega) (by omega)) (hab 3 (by omega) (by omega))
        have HB : Hid _ := hb
        clear hab hb hlt q4
        go_wp2_with fail
        exact bodyPost_ret (v := tabV ⟨1, 0, 0, false⟩) (by simp [results, Try.results120, go_sem, c0, c1, c2, c3, c4, tabV, show cov 1 = 256 from rfl]) rfl ⟨by rw [HV.out], ((((((HBB.out.trans (HB.out.mono (by omega))).setCell (by simp) _).setCell (by simp) _).setCell (by simp) _).setCell (by simp) _).setCell (by simp) _)⟩
end Go.Proofs.Ytnmhkgmmpkjjeab
