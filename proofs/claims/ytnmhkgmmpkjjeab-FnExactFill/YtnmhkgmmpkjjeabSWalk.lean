import Derived.Test.YtnmhkgmmpkjjeabSGoA
namespace Go.Proofs.Ytnmhkgmmpkjjeab
open Go.ChangeShapes Go.WideShapes Go.ChangeAt Go.RowKit
set_option linter.unusedVariables false
attribute [local go_sem ↓] Go.wp_at_zero Go.wp_at_succ

set_option maxRecDepth 100000 in
set_option maxHeartbeats 4000000 in
theorem lwalk_any (s : SV) (M : Mach) (b : Nat) (page choice : Int) (w : World) (hok : WOk M) (hv : validB M = true) (hp0 : 0 ≤ page) (hp1 : page < 4096) (hc0 : 0 ≤ choice) (hc1 : choice ≤ 65535) (hb0 : b ≤ w.heap.size) (h : MRow w b (s.mv M) M) :
    Calls Try.prog 69 #[.agg #[.slice s.a1 M.mem.length s.c1, .slice s.a2 M.pend.length s.c2, .slice s.a3 M.tlb.length s.c3, .slice s.a4 M.wc.length s.c4], .int .i64 page, .int .i64 choice] w fun r w' => ∃ s' : SV, r = .returned (.tuple #[.agg #[.slice s'.a1 ((walkM M page choice)).1.mem.length s'.c1, .slice s'.a2 ((walkM M page choice)).1.pend.length s'.c2, .slice s'.a3 ((walkM M page choice)).1.tlb.length s'.c3, .slice s'.a4 ((walkM M page choice)).1.wc.length s'.c4], hitV ((walkM M page choice)).2]) ∧ MRow w' b (s'.mv ((walkM M page choice)).1) ((walkM M page choice)).1 ∧ (∀ k, (s'.mv ((walkM M page choice)).1).owns k → (s.mv M).owns k ∨ w.heap.size ≤ k) ∧ Below w.heap.size w w' := by
  have hs := hok.small
  have y4 := hs.c
  have hst := startM_ok hv page choice
  have hwc : ∀ i, i < M.wc.length → (eAt eWc M.wc i).level = 2 ∨ (eAt eWc M.wc i).level = 3 := fun i hi => by
    have h1 := valid_wc hv i hi
    unfold wcOkB at h1
    simp only [Bool.and_eq_true, Bool.or_eq_true, decide_eq_true_eq] at h1
    exact h1.1.1.1.1
  obtain ⟨wb, hwb⟩ : ∃ wb, wb = ((w.alloc (.cells #[.slice s.a1 M.mem.length s.c1, .slice s.a2 M.pend.length s.c2, .slice s.a3 M.tlb.length s.c3, .slice s.a4 M.wc.length s.c4] 51)).alloc (.cells #[.slice none 0 0, .slice none 0 0, .slice none 0 0, .slice none 0 0] 51)).alloc (.cells #[.int .i64 0, .int .i64 0, .int .i64 0, .int .i64 0] 37) := ⟨_, rfl⟩
  have hbb : Below w.heap.size w wb := by rw [hwb]; exact (((Below.refl _ _).alloc (Nat.le_refl _) _).alloc (by simp) _).alloc (by simp <;> omega) _
  have hzb : wb.heap.size = w.heap.size + 3 := by rw [hwb]; simp
  have HBOX : Hid (∀ wX, Below wb.heap.size wb wX → wX.cell? ⟨w.heap.size, 0, none⟩ = some (.slice s.a1 M.mem.length s.c1) ∧ wX.cell? ⟨w.heap.size, 1, none⟩ = some (.slice s.a2 M.pend.length s.c2) ∧ wX.cell? ⟨w.heap.size, 2, none⟩ = some (.slice s.a3 M.tlb.length s.c3) ∧ wX.cell? ⟨w.heap.size, 3, none⟩ = some (.slice s.a4 M.wc.length s.c4)) := fun wX hX => by
    refine ⟨?_, ?_, ?_, ?_⟩
    iterate 4 (exact (hX.cell (by simp; omega)).trans (by rw [hwb]; simp [go_sem]))
  have HRES : Hid (∀ wX, Below wb.heap.size wb wX → (wX.cell? ⟨w.heap.size + 1, 0, none⟩ = some (.slice none 0 0) ∧ wX.cell? ⟨w.heap.size + 1, 1, none⟩ = some (.slice none 0 0) ∧ wX.cell? ⟨w.heap.size + 1, 2, none⟩ = some (.slice none 0 0) ∧ wX.cell? ⟨w.heap.size + 1, 3, none⟩ = some (.slice none 0 0) ∧ wX.cell? ⟨w.heap.size + 2, 0, none⟩ = some (.int .i64 0) ∧ wX.cell? ⟨w.heap.size + 2, 1, none⟩ = some (.int .i64 0) ∧ wX.cell? ⟨w.heap.size + 2, 2, none⟩ = some (.int .i64 0) ∧ wX.cell? ⟨w.heap.size + 2, 3, none⟩ = some (.int .i64 0)) ∧ wX.frozen? ⟨w.heap.size + 1, 0, none⟩ = false ∧ wX.frozen? ⟨w.heap.size + 1, 1, none⟩ = false ∧ wX.frozen? ⟨w.heap.size + 1, 2, none⟩ = false ∧ wX.frozen? ⟨w.heap.size + 1, 3, none⟩ = false ∧ wX.frozen? ⟨w.heap.size + 2, 0, none⟩ = false ∧ wX.frozen? ⟨w.heap.size + 2, 1, none⟩ = false ∧ wX.frozen? ⟨w.heap.size + 2, 2, none⟩ = false ∧ wX.frozen? ⟨w.heap.size + 2, 3, none⟩ = false) := fun wX hX => by
    refine ⟨⟨?_, ?_, ?_, ?_, ?_, ?_, ?_, ?_⟩, ?_, ?_, ?_, ?_, ?_, ?_, ?_, ?_⟩
    iterate 8 (exact (hX.cell (by simp; omega)).trans (by rw [hwb]; simp [go_sem]))
    iterate 8 (exact (hX.frozen (by simp; omega)).trans (by rw [hwb]; simp [go_sem]))
  obtain ⟨RES, hRES⟩ : ∃ RES, RES = walkM M page choice := ⟨_, rfl⟩
  rw [← hRES]
  have HM : Hid (MRow w b (s.mv M) M) := h
  have HGO : Hid (∀ (e : WcE) (wX : World), Below wb.heap.size wb wX → startM M page choice = e → Calls Try.prog 135 #[.agg #[.slice s.a1 M.mem.length s.c1, .slice s.a2 M.pend.length s.c2, .slice s.a3 M.tlb.length s.c3, .slice s.a4 M.wc.length s.c4], .int .i64 page, .int .i64 choice, .int .i64 e.level, .int .i64 e.table, .bool e.doom] wX fun r w' => ∃ s' : SV, r = .returned (.tuple #[.agg #[.slice s'.a1 RES.1.mem.length s'.c1, .slice s'.a2 RES.1.pend.length s'.c2, .slice s'.a3 RES.1.tlb.length s'.c3, .slice s'.a4 RES.1.wc.length s'.c4], .agg #[.int .i64 RES.2.kind, .int .i64 RES.2.out, .int .i64 RES.2.perm, .int .i64 RES.2.size]]) ∧ MRow w' b (s'.mv RES.1) RES.1 ∧ (∀ k, (s'.mv RES.1).owns k → (s.mv M).owns k ∨ wX.heap.size ≤ k) ∧ Below wX.heap.size wX w') := fun e wX hX he => by
    rw [← he, hRES]
    exact go_any page choice hp0 hp1 hc0 hc1 _ s M b (startM M page choice).level (startM M page choice).table (startM M page choice).doom wX rfl hok hst.1 hst.2.1 hst.2.2.1 hst.2.2.2 (by have := hX.size; omega) (h.below (hbb.trans (hX.mono (by omega))))
  have HFAR : Hid (∀ k, (s.mv M).owns k → k < w.heap.size) := fun k hk => (h.own k hk).2
  have HPOST : Hid (∀ (s' : SV) (w6 : World), (MRow w6 b (s'.mv RES.1) RES.1 ∧ (∀ k, (s'.mv RES.1).owns k → (s.mv M).owns k ∨ w.heap.size + 3 ≤ k) ∧ Below wb.heap.size wb w6) → ∀ wF, Touch (fun k => k = w.heap.size + 1 ∨ k = w.heap.size + 1 + 1) w6 wF → ∃ s'' : SV, Ending.returned (.tuple #[.agg #[.slice s'.a1 RES.1.mem.length s'.c1, .slice s'.a2 RES.1.pend.length s'.c2, .slice s'.a3 RES.1.tlb.length s'.c3, .slice s'.a4 RES.1.wc.length s'.c4], .agg #[.int .i64 RES.2.kind, .int .i64 RES.2.out, .int .i64 RES.2.perm, .int .i64 RES.2.size]]) = .returned (.tuple #[.agg #[.slice s''.a1 RES.1.mem.length s''.c1, .slice s''.a2 RES.1.pend.length s''.c2, .slice s''.a3 RES.1.tlb.length s''.c3, .slice s''.a4 RES.1.wc.length s''.c4], hitV RES.2]) ∧ MRow wF b (s''.mv RES.1) RES.1 ∧ (∀ k, (s''.mv RES.1).owns k → (s.mv M).owns k ∨ w.heap.size ≤ k) ∧ Below w.heap.size w wF) := by
    intro s' w6 h6 wF hT
    refine ⟨s', rfl, h6.1.touch hT (fun k hk hh => ?_), fun k hk => (h6.2.1 k hk).elim .inl (fun h' => .inr (by omega)), Touch.below (hbb.trans (h6.2.2.mono (by omega))) hT (by have := h6.2.2.size; omega) (fun k hk => by omega)⟩
    rcases h6.2.1 k hk with h' | h'
    · have := (h.own k h').2; omega
    · omega
  have HWB : Hid (wb = _) := hwb
  have HBB : Hid (Below _ w wb) := hbb
  have HZ : Hid (wb.heap.size = w.heap.size + 3) := hzb
  have HWC : Hid _ := hwc
  have hcb0 : ∀ w, Calls Try.prog 133 #[.int .i64 choice, .int .i64 0] w fun e w' => e = .returned (.bool (bitI choice 0)) ∧ w' = w := fun w => choiceBit_any choice 0 hc0 hc1 (by omega) w
  obtain ⟨q0, q1, q2, q3⟩ := HBOX.out wb (Below.refl _ _)
  clear h hwb hbb hzb hwc hRES hst hs hok hv
  cases hb : bitI choice 0
  · rw [hb] at hcb0
    have HV : Hid _ := start_off (M := M) (page := page) hb
    have hgo := HGO.out ⟨1, 0, 0, false⟩ wb (Below.refl _ _) HV.out
    rw [HWB.out] at hgo q0 q1 q2 q3
    clear hb
    go_enter Try.func69, Try.ntmps69
    go_wp2_with (go_at_call 133; refine (hcb0 _).mono ?_; rintro e w1 ⟨rfl, rfl⟩)
    rw [← HWB.out] at hgo ⊢
    refine hgo.mono ?_
    rintro r w6 ⟨s', rfl, hr6, how6, hb6⟩
    have b6 : Below wb.heap.size wb w6 := (Below.refl wb.heap.size wb).trans (hb6.mono (Below.refl wb.heap.size wb).size)
    obtain ⟨⟨m0, m1, m2, m3, n0, n1, n2, n3⟩, u0, u1, u2, u3, v0, v1, v2, v3⟩ := HRES.out w6 b6
    have HP6 : Hid (MRow w6 b (s'.mv RES.1) RES.1 ∧ (∀ k, (s'.mv RES.1).owns k → (s.mv M).owns k ∨ w.heap.size + 3 ≤ k) ∧ Below wb.heap.size wb w6) := ⟨hr6, fun k hk => (how6 k hk).elim .inl (fun h' => .inr (by have := HZ.out; have := (Below.refl wb.heap.size wb).size; omega)), b6⟩
    clear hr6 how6
    clear hb6 b6 hgo q0 q1 q2 q3
    go_wp2_with fail
    obtain ⟨wF, hwF⟩ : ∃ wF, wF = ((((((((w6.setCell ⟨w.heap.size + 1, 0, none⟩ (.slice s'.a1 RES.1.mem.length s'.c1)).setCell ⟨w.heap.size + 1, 1, none⟩ (.slice s'.a2 RES.1.pend.length s'.c2)).setCell ⟨w.heap.size + 1, 2, none⟩ (.slice s'.a3 RES.1.tlb.length s'.c3)).setCell ⟨w.heap.size + 1, 3, none⟩ (.slice s'.a4 RES.1.wc.length s'.c4)).setCell ⟨w.heap.size + 1 + 1, 0, none⟩ (.int .i64 RES.2.kind)).setCell ⟨w.heap.size + 1 + 1, 1, none⟩ (.int .i64 RES.2.out)).setCell ⟨w.heap.size + 1 + 1, 2, none⟩ (.int .i64 RES.2.perm)).setCell ⟨w.heap.size + 1 + 1, 3, none⟩ (.int .i64 RES.2.size)) := ⟨_, rfl⟩
    have f0 : wF.cell? ⟨w.heap.size + 1, 0, none⟩ = some (.slice s'.a1 RES.1.mem.length s'.c1) := by rw [hwF]; simp [go_sem, m0]
    have f1 : wF.cell? ⟨w.heap.size + 1, 1, none⟩ = some (.slice s'.a2 RES.1.pend.length s'.c2) := by rw [hwF]; simp [go_sem, m1]
    have f2 : wF.cell? ⟨w.heap.size + 1, 2, none⟩ = some (.slice s'.a3 RES.1.tlb.length s'.c3) := by rw [hwF]; simp [go_sem, m2]
    have f3 : wF.cell? ⟨w.heap.size + 1, 3, none⟩ = some (.slice s'.a4 RES.1.wc.length s'.c4) := by rw [hwF]; simp [go_sem, m3]
    have g0 : wF.cell? ⟨w.heap.size + 1 + 1, 0, none⟩ = some (.int .i64 RES.2.kind) := by rw [hwF]; simp [go_sem, n0]
    have g1 : wF.cell? ⟨w.heap.size + 1 + 1, 1, none⟩ = some (.int .i64 RES.2.out) := by rw [hwF]; simp [go_sem, n1]
    have g2 : wF.cell? ⟨w.heap.size + 1 + 1, 2, none⟩ = some (.int .i64 RES.2.perm) := by rw [hwF]; simp [go_sem, n2]
    have g3 : wF.cell? ⟨w.heap.size + 1 + 1, 3, none⟩ = some (.int .i64 RES.2.size) := by rw [hwF]; simp [go_sem, n3]
    have hTF : Touch (fun k => k = w.heap.size + 1 ∨ k = w.heap.size + 1 + 1) w6 wF := by
      rw [hwF]
      exact (Touch.set (Touch.set (Touch.set (Touch.set (Touch.set (Touch.set (Touch.set (Touch.set (Touch.same w6) _ _ (.inl rfl)) _ _ (.inl rfl)) _ _ (.inl rfl)) _ _ (.inl rfl)) _ _ (.inr rfl)) _ _ (.inr rfl)) _ _ (.inr rfl)) _ _ (.inr rfl))
    rw [← hwF]
    exact bodyPost_ret (v := .tuple #[.agg #[.slice s'.a1 RES.1.mem.length s'.c1, .slice s'.a2 RES.1.pend.length s'.c2, .slice s'.a3 RES.1.tlb.length s'.c3, .slice s'.a4 RES.1.wc.length s'.c4], .agg #[.int .i64 RES.2.kind, .int .i64 RES.2.out, .int .i64 RES.2.perm, .int .i64 RES.2.size]]) (by simp [results, Try.results69, go_sem, f0, f1, f2, f3, g0, g1, g2, g3]) rfl (HPOST.out s' w6 HP6.out wF hTF)
  · rw [hb] at hcb0
    have HB0 : Hid _ := hb
    clear hb q0 q1 q2 q3
    go_enter Try.func69, Try.ntmps69
    go_wp2_with (go_at_call 133; refine (hcb0 _).mono ?_; rintro e w1 ⟨rfl, rfl⟩)
    go_loopw [8] (fun lv wr => ∃ l : Int, lv = .int .i64 l ∧ 1 ≤ l ∧ l ≤ 3 ∧ (∀ l', l < l' → l' ≤ 3 → noneAt M page l') ∧ Below wb.heap.size wb wr) (fun lv _ => (intOf lv).toNat)
    case atStart => exact ⟨3, rfl, by omega, by omega, fun l' h1 h2 => by omega, by rw [HWB.out]; exact Below.refl _ _⟩
    case round =>
      obtain ⟨l, rfl, hl1, hl3, hab, hb⟩ := hrel
      obtain ⟨q0, q1, q2, q3⟩ := HBOX.out wr hb
      by_cases hlt : 2 ≤ l
      · have hlt' : decide (2 ≤ l) = true := by simpa using hlt
        have HB : Hid (Below wb.heap.size wb wr) := hb
        have HAB : Hid _ := hab
        obtain ⟨w0, rfl⟩ : ∃ w0, w0 = wr := ⟨_, rfl⟩
        clear hb hab
        go_wp2_with fail
        go_loopw [9] (fun iv wr => ∃ k : Nat, k ≤ M.wc.length ∧ iv = .int .i64 k ∧ (∀ j, j < k → serves M page l j = false) ∧ Below wb.heap.size wb wr) (fun iv _ => M.wc.length - (intOf iv).toNat)
        case atStart => exact ⟨0, Nat.zero_le _, rfl, fun j hj => by omega, HB.out⟩
        case round =>
          obtain ⟨k, hk, rfl, hnk, hb⟩ := hrel
          obtain ⟨q0, q1, q2, q3⟩ := HBOX.out wr hb
          by_cases hkl : k < M.wc.length
          · obtain ⟨ga, ca, hae, haf⟩ := HM.out.c.form
            obtain ⟨g, N, f, hag, _, hr, hN, hf⟩ := haf (by omega)
            have hga : s.a4 = some ⟨g, 0, none⟩ := by
              have h2 : Value.slice s.a4 M.wc.length s.c4 = .slice ga M.wc.length ca := hae
              simp only [Value.slice.injEq] at h2
              exact h2.1.trans hag
            have hN' : M.wc.length * 4 ≤ N := hN
            have hrow : ∀ wX, Below wb.heap.size wb wX → wX.rowIs g 120 N f := fun wX hX => hr.of_block ((HBB.out.trans (hX.mono (by have := HZ.out; omega))).block g hr.lt)
            rw [hga] at q3
            have HROW : Hid (∀ wX, Below wb.heap.size wb wX → (wX.cell? ⟨w.heap.size, 0, none⟩ = some (.slice s.a1 M.mem.length s.c1) ∧ wX.cell? ⟨w.heap.size, 1, none⟩ = some (.slice s.a2 M.pend.length s.c2) ∧ wX.cell? ⟨w.heap.size, 2, none⟩ = some (.slice s.a3 M.tlb.length s.c3) ∧ wX.cell? ⟨w.heap.size, 3, none⟩ = some (.slice (some ⟨g, 0, none⟩) M.wc.length s.c4)) ∧ wX.cell? ⟨g, k * 4, none⟩ = some (.int .i64 (eAt eWc M.wc k).level) ∧ wX.cell? ⟨g, k * 4 + 1, none⟩ = some (.int .i64 (eAt eWc M.wc k).page) ∧ wX.cell? ⟨g, k * 4 + 2, none⟩ = some (.int .i64 (eAt eWc M.wc k).table) ∧ wX.cell? ⟨g, k * 4 + 3, none⟩ = some (.bool (eAt eWc M.wc k).doom)) := fun wX hX => by
              obtain ⟨z0, z1, z2, z3⟩ := HBOX.out wX hX
              rw [hga] at z3
              refine ⟨⟨z0, z1, z2, z3⟩, ?_, ?_, ?_, ?_⟩
              · rw [(hrow wX hX).cell (i := k * 4) (by omega)]
                exact congrArg some (hf k hkl 0 (by decide))
              · rw [(hrow wX hX).cell (i := k * 4 + 1) (by omega)]
                exact congrArg some (hf k hkl 1 (by decide))
              · rw [(hrow wX hX).cell (i := k * 4 + 2) (by omega)]
                exact congrArg some (hf k hkl 2 (by decide))
              · rw [(hrow wX hX).cell (i := k * 4 + 3) (by omega)]
                exact congrArg some (hf k hkl 3 (by decide))
            have el := HWC.out k hkl
            have HGL : Hid (g < w.heap.size) := hr.lt
            have HSA : Hid (s.a4 = some ⟨g, 0, none⟩) := hga
            have hfin : serves M page l k = true → startM M page choice = eAt eWc M.wc k := start_hit HB0.out l (by omega) HAB.out k hkl hnk
            have hsv : serves M page l k = (decide ((eAt eWc M.wc k).level = l) && wcCov (eAt eWc M.wc k) page) := rfl
            have hcv := fun w => wcCov_any (eAt eWc M.wc k) page hp0 (by omega) el w
            have hgo := HGO.out (eAt eWc M.wc k)
            obtain ⟨_, k0, k1, k2, k3⟩ := HROW.out wr hb
            have L1 : (0 : Int) ≤ (k : Int) := by omega
            have L2 : (k : Int) < (M.wc.length : Int) := by omega
            have HNK : Hid _ := hnk
            have HFIN : Hid _ := hfin
            have HSV : Hid _ := hsv
            have HBk : Hid (Below wb.heap.size wb wr) := hb
            have HGK : Hid _ := hgo
            clear hr hf hN haf hae hga hag hfin hsv hb hnk hrow hgo el
            generalize eAt eWc M.wc k = x at *
            by_cases hx : x.level = l
            · have hx' : (x.level == l) = true := by simpa using hx
              cases hcw : wcCov x page
              · have hv : serves M page l k = false := by rw [HSV.out]; simp [hcw]
                rw [hcw] at hcv
                have HV : Hid _ := hv
                clear hx hv hcw
                go_wp2_with fail
                refine (hcv _).mono ?_
                rintro e w1 ⟨rfl, hb1⟩
                have HB1 : Hid (Below wb.heap.size wb w1) := HBk.out.trans (hb1.mono HBk.out.size)
                clear hb1 hcv
                go_wp2_with fail
                go_roundw
                case rel => exact ⟨k + 1, by omega, by go_num, fun j hj => if h : j = k then h ▸ HV.out else HNK.out j (by omega), HB1.out⟩
                case measure => simp [intOf]; omega
              · have hv : startM M page choice = x := HFIN.out (by rw [HSV.out]; simp [hx, hcw])
                rw [hcw] at hcv
                have HV : Hid _ := hv
                subst hx
                clear hv hcw
                go_wp2_with fail
                refine (hcv _).mono ?_
                rintro e w1 ⟨rfl, hb1⟩
                have HB1 : Hid (Below wb.heap.size wb w1) := HBk.out.trans (hb1.mono HBk.out.size)
                clear hb1 hcv k0 k1 k2 k3 q0 q1 q2 q3
                have HSR : Hid (∀ wX, Below w1.heap.size w1 wX → (wX.cell? ⟨w.heap.size, 0, none⟩ = some (.slice s.a1 M.mem.length s.c1) ∧ wX.cell? ⟨w.heap.size, 1, none⟩ = some (.slice s.a2 M.pend.length s.c2) ∧ wX.cell? ⟨w.heap.size, 2, none⟩ = some (.slice s.a3 M.tlb.length s.c3) ∧ wX.cell? ⟨w.heap.size, 3, none⟩ = some (.slice (some ⟨g, 0, none⟩) M.wc.length s.c4)) ∧ wX.cell? ⟨g, k * 4 + 2, none⟩ = some (.int .i64 x.table) ∧ wX.cell? ⟨g, k * 4 + 3, none⟩ = some (.bool x.doom)) := fun wX hX => by
                  obtain ⟨z, _, _, z2, z3⟩ := HROW.out wX (HB1.out.trans (hX.mono HB1.out.size))
                  exact ⟨z, z2, z3⟩
                have HGX : Hid (∀ wX, Below w1.heap.size w1 wX → Calls Try.prog 135 #[.agg #[.slice s.a1 M.mem.length s.c1, .slice s.a2 M.pend.length s.c2, .slice s.a3 M.tlb.length s.c3, .slice (some ⟨g, 0, none⟩) M.wc.length s.c4], .int .i64 page, .int .i64 choice, .int .i64 x.level, .int .i64 x.table, .bool x.doom] wX fun r w' => ∃ s' : SV, r = .returned (.tuple #[.agg #[.slice s'.a1 RES.1.mem.length s'.c1, .slice s'.a2 RES.1.pend.length s'.c2, .slice s'.a3 RES.1.tlb.length s'.c3, .slice s'.a4 RES.1.wc.length s'.c4], .agg #[.int .i64 RES.2.kind, .int .i64 RES.2.out, .int .i64 RES.2.perm, .int .i64 RES.2.size]]) ∧ MRow w' b (s'.mv RES.1) RES.1 ∧ (∀ k, (s'.mv RES.1).owns k → (s.mv M).owns k ∨ wX.heap.size ≤ k) ∧ Below wX.heap.size wX w') := fun wX hX => by
                  have h1 := HGK.out wX (HB1.out.trans (hX.mono HB1.out.size)) HV.out
                  rw [HSA.out] at h1
                  exact h1
                go_upto_region 9 with fail
                refine wp_region_held_drew (S := fun wX => (wX.cell? ⟨w.heap.size, 0, none⟩ = some (.slice s.a1 M.mem.length s.c1) ∧ wX.cell? ⟨w.heap.size, 1, none⟩ = some (.slice s.a2 M.pend.length s.c2) ∧ wX.cell? ⟨w.heap.size, 2, none⟩ = some (.slice s.a3 M.tlb.length s.c3) ∧ wX.cell? ⟨w.heap.size, 3, none⟩ = some (.slice (some ⟨g, 0, none⟩) M.wc.length s.c4)) ∧ wX.cell? ⟨g, k * 4 + 2, none⟩ = some (.int .i64 x.table) ∧ wX.cell? ⟨g, k * 4 + 3, none⟩ = some (.bool x.doom)) (by kernel_rfl) (HSR.out _ (Below.refl _ _).drew) (fun hHeld => ?_)
                refine tk 0 ?_
                refine tk 1 ?_
                refine tk 2 ?_
                refine tk 3 ?_
                refine tk 4 ?_
                refine tk 5 ?_
                refine tk 6 ?_
                refine tk 7 ?_
                refine tk 8 ?_
                refine tk 9 ?_
                refine tk 10 ?_
                refine tk 11 ?_
                refine tk 12 ?_
                refine tk 13 ?_
                refine tk 14 ?_
                refine tk 15 ?_
                refine wpAnyH_ready (rs := [16]) (by kernel_rfl) (by simp) ?_
                refine AllReadyH.cons rfl (fun K hK => ?_) AllReadyH.nil
                go_simp
                refine (HGX.out _ (Below.refl _ _).drew).mono ?_; rintro r w6 ⟨s', rfl, hr6, how6, hb6⟩
                go_wp2_with fail
                refine hK.out _ _ (HSR.out _ ((Below.refl _ _).drew.trans (hb6.mono (by simp)))) (fun hHeld2 => ?_)
                clear hK K
                refine tk 17 ?_
                refine tk 18 ?_
                have b16 : Below w1.heap.size w1 w6 := (Below.refl _ _).drew.trans (hb6.mono (by simp))
                have b6 : Below wb.heap.size wb w6 := HB1.out.trans (b16.mono HB1.out.size)
                obtain ⟨⟨m0, m1, m2, m3, n0, n1, n2, n3⟩, u0, u1, u2, u3, v0, v1, v2, v3⟩ := HRES.out w6 b6
                have HP6 : Hid (MRow w6 b (s'.mv RES.1) RES.1 ∧ (∀ k, (s'.mv RES.1).owns k → (s.mv M).owns k ∨ w.heap.size + 3 ≤ k) ∧ Below wb.heap.size wb w6) := ⟨hr6, fun k hk => (how6 k hk).elim .inl (fun h' => .inr (by have := HZ.out; have := HB1.out.size; simp at h'; omega)), b6⟩
                have HS6 : Hid (∀ wX, Touch (fun k => k = w.heap.size + 1 ∨ k = w.heap.size + 1 + 1) w6 wX → ((wX.cell? ⟨w.heap.size, 0, none⟩ = some (.slice s.a1 M.mem.length s.c1) ∧ wX.cell? ⟨w.heap.size, 1, none⟩ = some (.slice s.a2 M.pend.length s.c2) ∧ wX.cell? ⟨w.heap.size, 2, none⟩ = some (.slice s.a3 M.tlb.length s.c3) ∧ wX.cell? ⟨w.heap.size, 3, none⟩ = some (.slice (some ⟨g, 0, none⟩) M.wc.length s.c4)) ∧ wX.cell? ⟨g, k * 4 + 2, none⟩ = some (.int .i64 x.table) ∧ wX.cell? ⟨g, k * 4 + 3, none⟩ = some (.bool x.doom))) := fun wX hX => by
                  obtain ⟨⟨z0, z1, z2, z3⟩, z4, z5⟩ := HSR.out w6 b16
                  have hsz6 := b16.size
                  have hszb := HB1.out.size
                  have hzz := HZ.out
                  have hbx := hX.block w.heap.size (by omega) (by omega)
                  have hgl : g < w.heap.size := HGL.out
                  have hbg := hX.block g (by omega) (by omega)
                  exact ⟨⟨(World.cell?_of_block hbx).trans z0, (World.cell?_of_block hbx).trans z1, (World.cell?_of_block hbx).trans z2, (World.cell?_of_block hbx).trans z3⟩, (World.cell?_of_block hbg).trans z4, (World.cell?_of_block hbg).trans z5⟩
                clear hr6 how6 b6 b16 hb6 hHeld2
                refine wpAnyH_ready (rs := [19]) (by kernel_rfl) (by simp) ?_
                refine AllReadyH.cons rfl (fun K hK => ?_) AllReadyH.nil
                go_simp
                refine hK.out _ _ (HS6.out _ (Touch.set (Touch.set (Touch.set (Touch.set (Touch.same w6) _ _ (.inl rfl)) _ _ (.inl rfl)) _ _ (.inl rfl)) _ _ (.inl rfl))) (fun hHeld2 => ?_)
                clear hK K
                refine wpAnyH_ready (rs := [20]) (by kernel_rfl) (by simp) ?_
                refine AllReadyH.cons rfl (fun K hK => ?_) AllReadyH.nil
                go_simp
                refine hK.out _ _ (HS6.out _ (Touch.set (Touch.set (Touch.set (Touch.set (Touch.set (Touch.set (Touch.set (Touch.set (Touch.same w6) _ _ (.inl rfl)) _ _ (.inl rfl)) _ _ (.inl rfl)) _ _ (.inl rfl)) _ _ (.inr rfl)) _ _ (.inr rfl)) _ _ (.inr rfl)) _ _ (.inr rfl))) (fun hHeld3 => ?_)
                clear hK K
                refine wpAnyH_done (by kernel_rfl) ?_ _
                go_wp2_with fail
                obtain ⟨wF, hwF⟩ : ∃ wF, wF = ((((((((w6.setCell ⟨w.heap.size + 1, 0, none⟩ (.slice s'.a1 RES.1.mem.length s'.c1)).setCell ⟨w.heap.size + 1, 1, none⟩ (.slice s'.a2 RES.1.pend.length s'.c2)).setCell ⟨w.heap.size + 1, 2, none⟩ (.slice s'.a3 RES.1.tlb.length s'.c3)).setCell ⟨w.heap.size + 1, 3, none⟩ (.slice s'.a4 RES.1.wc.length s'.c4)).setCell ⟨w.heap.size + 1 + 1, 0, none⟩ (.int .i64 RES.2.kind)).setCell ⟨w.heap.size + 1 + 1, 1, none⟩ (.int .i64 RES.2.out)).setCell ⟨w.heap.size + 1 + 1, 2, none⟩ (.int .i64 RES.2.perm)).setCell ⟨w.heap.size + 1 + 1, 3, none⟩ (.int .i64 RES.2.size)) := ⟨_, rfl⟩
                have f0 : wF.cell? ⟨w.heap.size + 1, 0, none⟩ = some (.slice s'.a1 RES.1.mem.length s'.c1) := by rw [hwF]; simp [go_sem, m0]
                have f1 : wF.cell? ⟨w.heap.size + 1, 1, none⟩ = some (.slice s'.a2 RES.1.pend.length s'.c2) := by rw [hwF]; simp [go_sem, m1]
                have f2 : wF.cell? ⟨w.heap.size + 1, 2, none⟩ = some (.slice s'.a3 RES.1.tlb.length s'.c3) := by rw [hwF]; simp [go_sem, m2]
                have f3 : wF.cell? ⟨w.heap.size + 1, 3, none⟩ = some (.slice s'.a4 RES.1.wc.length s'.c4) := by rw [hwF]; simp [go_sem, m3]
                have g0 : wF.cell? ⟨w.heap.size + 1 + 1, 0, none⟩ = some (.int .i64 RES.2.kind) := by rw [hwF]; simp [go_sem, n0]
                have g1 : wF.cell? ⟨w.heap.size + 1 + 1, 1, none⟩ = some (.int .i64 RES.2.out) := by rw [hwF]; simp [go_sem, n1]
                have g2 : wF.cell? ⟨w.heap.size + 1 + 1, 2, none⟩ = some (.int .i64 RES.2.perm) := by rw [hwF]; simp [go_sem, n2]
                have g3 : wF.cell? ⟨w.heap.size + 1 + 1, 3, none⟩ = some (.int .i64 RES.2.size) := by rw [hwF]; simp [go_sem, n3]
                have hTF : Touch (fun k => k = w.heap.size + 1 ∨ k = w.heap.size + 1 + 1) w6 wF := by
                  rw [hwF]
                  exact (Touch.set (Touch.set (Touch.set (Touch.set (Touch.set (Touch.set (Touch.set (Touch.set (Touch.same w6) _ _ (.inl rfl)) _ _ (.inl rfl)) _ _ (.inl rfl)) _ _ (.inl rfl)) _ _ (.inr rfl)) _ _ (.inr rfl)) _ _ (.inr rfl)) _ _ (.inr rfl))
                rw [← hwF]
                exact bodyPost_ret (v := .tuple #[.agg #[.slice s'.a1 RES.1.mem.length s'.c1, .slice s'.a2 RES.1.pend.length s'.c2, .slice s'.a3 RES.1.tlb.length s'.c3, .slice s'.a4 RES.1.wc.length s'.c4], .agg #[.int .i64 RES.2.kind, .int .i64 RES.2.out, .int .i64 RES.2.perm, .int .i64 RES.2.size]]) (by simp [results, Try.results69, go_sem, f0, f1, f2, f3, g0, g1, g2, g3]) rfl (HPOST.out s' w6 HP6.out wF hTF)
            · have hx' : (x.level == l) = false := by simpa using hx
              have hv : serves M page l k = false := by rw [HSV.out]; simp [hx]
              have HV : Hid _ := hv
              clear hx hv hcv
              go_wp2_with fail
              go_roundw
              case rel => exact ⟨k + 1, by omega, by go_num, fun j hj => if h : j = k then h ▸ HV.out else HNK.out j (by omega), HBk.out⟩
              case measure => simp [intOf]; omega
          · have e : k = M.wc.length := by omega
            subst e
            have HNK : Hid (noneAt M page l) := hnk
            have HBk : Hid (Below wb.heap.size wb wr) := hb
            have L2 : ¬ (M.wc.length : Int) < (M.wc.length : Int) := by omega
            clear hb hnk
            go_wp2_with fail
            go_roundw
            case rel => exact ⟨l - 1, by go_num, by omega, by omega, fun l' h1 h2 => if h : l' = l then h ▸ HNK.out else HAB.out l' (by omega) h2, HBk.out⟩
            case measure => simp [intOf]; omega
      · have e : l = 1 := by omega
        subst e
        have HV : Hid _ := start_none (choice := choice) (hab 2 (by omega) (by omega)) (hab 3 (by omega) (by omega))
        have HB : Hid (Below wb.heap.size wb wr) := hb
        have hgo := HGO.out ⟨1, 0, 0, false⟩ wr HB.out HV.out
        clear hab hb hlt
        go_wp2_with fail
        refine hgo.mono ?_
        rintro r w6 ⟨s', rfl, hr6, how6, hb6⟩
        have b6 : Below wb.heap.size wb w6 := (HB.out).trans (hb6.mono (HB.out).size)
        obtain ⟨⟨m0, m1, m2, m3, n0, n1, n2, n3⟩, u0, u1, u2, u3, v0, v1, v2, v3⟩ := HRES.out w6 b6
        have HP6 : Hid (MRow w6 b (s'.mv RES.1) RES.1 ∧ (∀ k, (s'.mv RES.1).owns k → (s.mv M).owns k ∨ w.heap.size + 3 ≤ k) ∧ Below wb.heap.size wb w6) := ⟨hr6, fun k hk => (how6 k hk).elim .inl (fun h' => .inr (by have := HZ.out; have := (HB.out).size; omega)), b6⟩
        clear hr6 how6
        clear hb6 b6 hgo q0 q1 q2 q3
        go_wp2_with fail
        obtain ⟨wF, hwF⟩ : ∃ wF, wF = ((((((((w6.setCell ⟨w.heap.size + 1, 0, none⟩ (.slice s'.a1 RES.1.mem.length s'.c1)).setCell ⟨w.heap.size + 1, 1, none⟩ (.slice s'.a2 RES.1.pend.length s'.c2)).setCell ⟨w.heap.size + 1, 2, none⟩ (.slice s'.a3 RES.1.tlb.length s'.c3)).setCell ⟨w.heap.size + 1, 3, none⟩ (.slice s'.a4 RES.1.wc.length s'.c4)).setCell ⟨w.heap.size + 1 + 1, 0, none⟩ (.int .i64 RES.2.kind)).setCell ⟨w.heap.size + 1 + 1, 1, none⟩ (.int .i64 RES.2.out)).setCell ⟨w.heap.size + 1 + 1, 2, none⟩ (.int .i64 RES.2.perm)).setCell ⟨w.heap.size + 1 + 1, 3, none⟩ (.int .i64 RES.2.size)) := ⟨_, rfl⟩
        have f0 : wF.cell? ⟨w.heap.size + 1, 0, none⟩ = some (.slice s'.a1 RES.1.mem.length s'.c1) := by rw [hwF]; simp [go_sem, m0]
        have f1 : wF.cell? ⟨w.heap.size + 1, 1, none⟩ = some (.slice s'.a2 RES.1.pend.length s'.c2) := by rw [hwF]; simp [go_sem, m1]
        have f2 : wF.cell? ⟨w.heap.size + 1, 2, none⟩ = some (.slice s'.a3 RES.1.tlb.length s'.c3) := by rw [hwF]; simp [go_sem, m2]
        have f3 : wF.cell? ⟨w.heap.size + 1, 3, none⟩ = some (.slice s'.a4 RES.1.wc.length s'.c4) := by rw [hwF]; simp [go_sem, m3]
        have g0 : wF.cell? ⟨w.heap.size + 1 + 1, 0, none⟩ = some (.int .i64 RES.2.kind) := by rw [hwF]; simp [go_sem, n0]
        have g1 : wF.cell? ⟨w.heap.size + 1 + 1, 1, none⟩ = some (.int .i64 RES.2.out) := by rw [hwF]; simp [go_sem, n1]
        have g2 : wF.cell? ⟨w.heap.size + 1 + 1, 2, none⟩ = some (.int .i64 RES.2.perm) := by rw [hwF]; simp [go_sem, n2]
        have g3 : wF.cell? ⟨w.heap.size + 1 + 1, 3, none⟩ = some (.int .i64 RES.2.size) := by rw [hwF]; simp [go_sem, n3]
        have hTF : Touch (fun k => k = w.heap.size + 1 ∨ k = w.heap.size + 1 + 1) w6 wF := by
          rw [hwF]
          exact (Touch.set (Touch.set (Touch.set (Touch.set (Touch.set (Touch.set (Touch.set (Touch.set (Touch.same w6) _ _ (.inl rfl)) _ _ (.inl rfl)) _ _ (.inl rfl)) _ _ (.inl rfl)) _ _ (.inr rfl)) _ _ (.inr rfl)) _ _ (.inr rfl)) _ _ (.inr rfl))
        rw [← hwF]
        exact bodyPost_ret (v := .tuple #[.agg #[.slice s'.a1 RES.1.mem.length s'.c1, .slice s'.a2 RES.1.pend.length s'.c2, .slice s'.a3 RES.1.tlb.length s'.c3, .slice s'.a4 RES.1.wc.length s'.c4], .agg #[.int .i64 RES.2.kind, .int .i64 RES.2.out, .int .i64 RES.2.perm, .int .i64 RES.2.size]]) (by simp [results, Try.results69, go_sem, f0, f1, f2, f3, g0, g1, g2, g3]) rfl (HPOST.out s' w6 HP6.out wF hTF)
end Go.Proofs.Ytnmhkgmmpkjjeab
