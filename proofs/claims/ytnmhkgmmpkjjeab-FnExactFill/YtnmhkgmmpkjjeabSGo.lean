import Derived.Test.YtnmhkgmmpkjjeabSAddT
import Derived.Test.YtnmhkgmmpkjjeabIAddB
namespace Go.Proofs.Ytnmhkgmmpkjjeab
open Go.ChangeShapes Go.WideShapes Go.ChangeAt Go.RowKit
set_option linter.unusedVariables false
attribute [local go_sem ↓] Go.wp_at_zero Go.wp_at_succ

theorem Touch.same {S : Nat → Prop} (a : World) : Touch S a a := ⟨rfl, rfl, rfl, Nat.le_refl _, fun _ _ _ => rfl⟩
theorem Touch.set {S : Nat → Prop} {a w : World} (h : Touch S a w) (p : Addr) (v : Value) (hp : S p.block) : Touch S a (w.setCell p v) :=
  ⟨h.os, h.tape, h.output, by simpa using h.size, fun k hk hn => (Below.heap_setCell _ _ _ _ (fun e => hn (by rw [e]; exact hp))).trans (h.block k hk hn)⟩
theorem Touch.drewT {S : Nat → Prop} {a w : World} (h : Touch S a w) : Touch S a w.drew := ⟨h.os, h.tape, h.output, h.size, h.block⟩
set_option maxRecDepth 100000 in
set_option maxHeartbeats 4000000 in
theorem go_any1 (s : SV) (M : Mach) (b : Nat) (page choice level frame : Int) (doom : Bool) (w : World) (hok : WOk M) (hp0 : 0 ≤ page) (hp1 : page < 4096) (hc0 : 0 ≤ choice) (hc1 : choice ≤ 65535) (hl1 : 1 ≤ level) (hl3 : level ≤ 3) (hf0 : 0 ≤ frame) (hf1 : frame < nfr M.mem.length) (hb0 : b ≤ w.heap.size) (h : MRow w b (s.mv M) M) (RES : Mach × HitR)
    (hend : ¬ (dKind level (wordM M page choice level frame) = 1 ∧ dOut level (wordM M page choice level frame) < nfr M.mem.length) → RES = endM page choice M level (wordM M page choice level frame) doom)
    (hrec : dKind level (wordM M page choice level frame) = 1 → dOut level (wordM M page choice level frame) < nfr M.mem.length → ∀ (s1 : SV) (b1 : Nat) (wX : World), b1 ≤ wX.heap.size → MRow wX b1 (s1.mv (stepM page choice M level (wordM M page choice level frame) doom)) (stepM page choice M level (wordM M page choice level frame) doom) → Calls Try.prog 135 #[.agg #[.slice s1.a1 (stepM page choice M level (wordM M page choice level frame) doom).mem.length s1.c1, .slice s1.a2 (stepM page choice M level (wordM M page choice level frame) doom).pend.length s1.c2, .slice s1.a3 (stepM page choice M level (wordM M page choice level frame) doom).tlb.length s1.c3, .slice s1.a4 (stepM page choice M level (wordM M page choice level frame) doom).wc.length s1.c4], .int .i64 page, .int .i64 choice, .int .i64 (level + 1), .int .i64 (dOut level (wordM M page choice level frame)), .bool doom] wX fun r w' => ∃ s' : SV, r = .returned (.tuple #[.agg #[.slice s'.a1 RES.1.mem.length s'.c1, .slice s'.a2 RES.1.pend.length s'.c2, .slice s'.a3 RES.1.tlb.length s'.c3, .slice s'.a4 RES.1.wc.length s'.c4], hitV RES.2]) ∧ MRow w' b1 (s'.mv RES.1) RES.1 ∧ (∀ k, (s'.mv RES.1).owns k → (s1.mv (stepM page choice M level (wordM M page choice level frame) doom)).owns k ∨ wX.heap.size ≤ k) ∧ Below wX.heap.size wX w') :
    Calls Try.prog 135 #[.agg #[.slice s.a1 M.mem.length s.c1, .slice s.a2 M.pend.length s.c2, .slice s.a3 M.tlb.length s.c3, .slice s.a4 M.wc.length s.c4], .int .i64 page, .int .i64 choice, .int .i64 level, .int .i64 frame, .bool doom] w fun r w' => ∃ s' : SV, r = .returned (.tuple #[.agg #[.slice s'.a1 (RES).1.mem.length s'.c1, .slice s'.a2 (RES).1.pend.length s'.c2, .slice s'.a3 (RES).1.tlb.length s'.c3, .slice s'.a4 (RES).1.wc.length s'.c4], hitV (RES).2]) ∧ MRow w' b (s'.mv (RES).1) (RES).1 ∧ (∀ k, (s'.mv (RES).1).owns k → (s.mv M).owns k ∨ w.heap.size ≤ k) ∧ Below w.heap.size w w' := by
  have hs := hok.small
  have hn := nfr_mul M.mem.length hok.n0
  have hnl := nfr_le M.mem.length
  have hix := idx_bd page level hp0 hp1
  have y1 := hs.w
  have y2 := hs.p
  have y3 := hs.t
  have y4 := hs.c
  obtain ⟨Ad, hAd⟩ : ∃ Ad : Nat, (Ad : Int) = frame * 16 + idx page level := ⟨(frame * 16 + idx page level).toNat, by omega⟩
  have hAd2 : Ad < M.mem.length := by omega
  have hxr := wordM_rng hok page choice level frame
  have hxe : readM M Ad (bitI choice level.toNat) = wordM M page choice level frame := by unfold wordM; rw [hAd]
  obtain ⟨wb, hwb⟩ : ∃ wb, wb = ((w.alloc (.cells #[.slice s.a1 M.mem.length s.c1, .slice s.a2 M.pend.length s.c2, .slice s.a3 M.tlb.length s.c3, .slice s.a4 M.wc.length s.c4] 51)).alloc (.cells #[.slice none 0 0, .slice none 0 0, .slice none 0 0, .slice none 0 0] 51)).alloc (.cells #[.int .i64 0, .int .i64 0, .int .i64 0, .int .i64 0] 37) := ⟨_, rfl⟩
  have hbb : Below w.heap.size w wb := by rw [hwb]; exact (((Below.refl _ _).alloc (Nat.le_refl _) _).alloc (by simp) _).alloc (by simp <;> omega) _
  have hzb : wb.heap.size = w.heap.size + 3 := by rw [hwb]; simp
  have HBOX : Hid (∀ wX, Below wb.heap.size wb wX → wX.cell? ⟨w.heap.size, 0, none⟩ = some (.slice s.a1 M.mem.length s.c1) ∧ wX.cell? ⟨w.heap.size, 1, none⟩ = some (.slice s.a2 M.pend.length s.c2) ∧ wX.cell? ⟨w.heap.size, 2, none⟩ = some (.slice s.a3 M.tlb.length s.c3) ∧ wX.cell? ⟨w.heap.size, 3, none⟩ = some (.slice s.a4 M.wc.length s.c4)) := fun wX hX => by
    refine ⟨?_, ?_, ?_, ?_⟩
    iterate 4 (exact (hX.cell (by simp; omega)).trans (by rw [hwb]; simp [go_sem]))
  have HRES : Hid (∀ wX, Below wb.heap.size wb wX → (wX.cell? ⟨w.heap.size + 1, 0, none⟩ = some (.slice none 0 0) ∧ wX.cell? ⟨w.heap.size + 1, 1, none⟩ = some (.slice none 0 0) ∧ wX.cell? ⟨w.heap.size + 1, 2, none⟩ = some (.slice none 0 0) ∧ wX.cell? ⟨w.heap.size + 1, 3, none⟩ = some (.slice none 0 0) ∧ wX.cell? ⟨w.heap.size + 2, 0, none⟩ = some (.int .i64 0) ∧ wX.cell? ⟨w.heap.size + 2, 1, none⟩ = some (.int .i64 0) ∧ wX.cell? ⟨w.heap.size + 2, 2, none⟩ = some (.int .i64 0) ∧ wX.cell? ⟨w.heap.size + 2, 3, none⟩ = some (.int .i64 0)) ∧ wX.frozen? ⟨w.heap.size + 1, 0, none⟩ = false ∧ wX.frozen? ⟨w.heap.size + 1, 1, none⟩ = false ∧ wX.frozen? ⟨w.heap.size + 1, 2, none⟩ = false ∧ wX.frozen? ⟨w.heap.size + 1, 3, none⟩ = false ∧ wX.frozen? ⟨w.heap.size + 2, 0, none⟩ = false ∧ wX.frozen? ⟨w.heap.size + 2, 1, none⟩ = false ∧ wX.frozen? ⟨w.heap.size + 2, 2, none⟩ = false ∧ wX.frozen? ⟨w.heap.size + 2, 3, none⟩ = false) := fun wX hX => by
    refine ⟨⟨?_, ?_, ?_, ?_, ?_, ?_, ?_, ?_⟩, ?_, ?_, ?_, ?_, ?_, ?_, ?_, ?_⟩
    iterate 8 (exact (hX.cell (by simp; omega)).trans (by rw [hwb]; simp [go_sem]))
    iterate 8 (exact (hX.frozen (by simp; omega)).trans (by rw [hwb]; simp [go_sem]))
  have HM : Hid (∀ wX, Below wb.heap.size wb wX → MRow wX b (s.mv M) M) := fun wX hX => h.below (hbb.trans (hX.mono (by omega)))
  have HFAR : Hid (∀ k, (s.mv M).owns k → k < w.heap.size) := fun k hk => (h.own k hk).2
  have HREAD : Hid (∀ wX, Below wb.heap.size wb wX → Calls Try.prog 183 #[.agg #[.slice s.a1 M.mem.length s.c1, .slice s.a2 M.pend.length s.c2, .slice s.a3 M.tlb.length s.c3, .slice s.a4 M.wc.length s.c4], .int .i64 Ad, .bool (bitI choice level.toNat)] wX fun e w' => e = .returned (.int .u64 (wordM M page choice level frame)) ∧ Below wX.heap.size wX w') := fun wX hX => by
    have h1 := read_any s M b Ad (bitI choice level.toNat) wX hs hAd2 (HM.out wX hX)
    rw [hxe] at h1
    exact h1
  have hidx := fun w => index_any page level hp0 hp1 w
  have hcb : ∀ w, Calls Try.prog 133 #[.int .i64 choice, .int .i64 level] w fun e w' => e = .returned (.bool (bitI choice level.toNat)) ∧ w' = w := fun w => by
    have h1 := choiceBit_any choice level.toNat hc0 hc1 (by omega) w
    rw [show ((level.toNat : Nat) : Int) = level by omega] at h1
    exact h1
  have hcb3 : ∀ w, Calls Try.prog 133 #[.int .i64 choice, .int .i64 (level + 3)] w fun e w' => e = .returned (.bool (bitI choice (level + 3).toNat)) ∧ w' = w := fun w => by
    have h1 := choiceBit_any choice (level + 3).toNat hc0 hc1 (by omega) w
    rw [show (((level + 3).toNat : Nat) : Int) = level + 3 by omega] at h1
    exact h1
  have hcb6 : ∀ w, Calls Try.prog 133 #[.int .i64 choice, .int .i64 6] w fun e w' => e = .returned (.bool (bitI choice 6)) ∧ w' = w := fun w => choiceBit_any choice 6 hc0 hc1 (by omega) w
  have hdec := fun wX => specDecode_any level (wordM M page choice level frame) hxr.1 hxr.2 wX
  have hfr := frames_any s.a1 M.mem.length s.c1 (by omega)
  have hK3 : dKind level (wordM M page choice level frame) = 1 → level < 3 := fun h => by
    rcases Int.lt_or_eq_of_le hl3 with h' | h'
    · exact h'
    · rw [h'] at h; exact absurd h (dKind_3 _)
  have hdO := dOut_lo level (wordM M page choice level frame)
  have W1 : IntKind.i64.wrap (frame * 16) = frame * 16 := by rw [IntKind.wrap_i64]; omega
  have W2 : IntKind.i64.wrap (frame * 16 + idx page level) = (Ad : Int) := by rw [IntKind.wrap_i64]; omega
  have HWB : Hid (wb = _) := hwb
  have HBB : Hid (Below _ w wb) := hbb
  have HZ : Hid (wb.heap.size = w.heap.size + 3) := hzb
  have HEND : Hid _ := hend
  have HREC : Hid _ := hrec
  have HK3 : Hid _ := hK3
  have HCB3 : Hid _ := hcb3
  have HCB6 : Hid _ := hcb6
  have HFR : Hid _ := hfr
  obtain ⟨q0, q1, q2, q3⟩ := HBOX.out wb (Below.refl _ _)
  unfold descV desc3 at hdec
  obtain ⟨X, hX⟩ : ∃ X, X = wordM M page choice level frame := ⟨_, rfl⟩
  rw [← hX] at hdec hdO
  have HX : Hid (X = _) := hX
  have HREAD' : Hid (∀ wX, Below wb.heap.size wb wX → Calls Try.prog 183 #[.agg #[.slice s.a1 M.mem.length s.c1, .slice s.a2 M.pend.length s.c2, .slice s.a3 M.tlb.length s.c3, .slice s.a4 M.wc.length s.c4], .int .i64 Ad, .bool (bitI choice level.toNat)] wX fun e w' => e = .returned (.int .u64 X) ∧ Below wX.heap.size wX w') := by rw [hX]; exact HREAD.out
  generalize bitI choice level.toNat = late at *
  generalize idx page level = IX at *
  clear hwb hbb hzb h hend hrec hK3 hcb3 hcb6 hfr hX hxe hxr HREAD hix hAd
  go_enter Try.func135, Try.ntmps135
  go_upto_region 1 with fail
  rw [← HWB.out]
  go_region_held3 (fun wX => wX.cell? ⟨w.heap.size, 0, none⟩ = some (.slice s.a1 M.mem.length s.c1) ∧ wX.cell? ⟨w.heap.size, 1, none⟩ = some (.slice s.a2 M.pend.length s.c2) ∧ wX.cell? ⟨w.heap.size, 2, none⟩ = some (.slice s.a3 M.tlb.length s.c3) ∧ wX.cell? ⟨w.heap.size, 3, none⟩ = some (.slice s.a4 M.wc.length s.c4))
    ((refine HBOX.out _ ?_; repeat (first | exact Below.refl _ _ | with_reducible refine Below.drew ?_ | with_reducible refine Below.setCell ?_ (by first | omega | (simp <;> omega)) _ | with_reducible refine Below.alloc ?_ (by first | omega | (simp <;> omega)) _ | refine Below.trans ?_ (hb2.mono (by first | omega | (simp <;> omega))))))
    (first
      | (go_at_call 119; refine (hidx _).mono ?_; rintro e wE ⟨rfl, hwE⟩; obtain rfl := hwE.symm)
      | (go_at_call 133; refine (hcb _).mono ?_; rintro e wF ⟨rfl, hwF⟩; obtain rfl := hwF.symm)
      | (go_at_call 183; refine (HREAD'.out _ (by first | exact Below.refl _ _ | exact (Below.refl _ _).drew)).mono ?_; rintro e w2 ⟨rfl, hb2⟩; have hz2 := hb2.size; simp at hz2))
  have b2 : Below wb.heap.size wb w2 := (Below.refl _ _).drew.trans (hb2.mono (by simp))
  have HB2 : Hid (Below wb.heap.size wb w2) := b2
  clear hb2 b2 q0 q1 q2 q3
  go_wp2_with fail
  refine (hdec _).mono ?_
  rintro e w3 ⟨rfl, hb3⟩
  have b3 : Below wb.heap.size wb w3 := HB2.out.trans (hb3.mono (by omega))
  have s3 := hb3.size
  obtain ⟨K, hK⟩ : ∃ K, K = dKind level X := ⟨_, rfl⟩
  obtain ⟨O, hO⟩ : ∃ O, O = dOut level X := ⟨_, rfl⟩
  obtain ⟨P, hP⟩ : ∃ P, P = dPerm level X := ⟨_, rfl⟩
  rw [← hO] at hdO
  rw [← hK, ← hO, ← hP]
  obtain ⟨wx, hwx⟩ : ∃ wx, wx = w3.alloc (.cells #[.int .i64 K, .int .i64 O, .int .i64 P] 82) := ⟨_, rfl⟩
  have hzx : wx.heap.size = w3.heap.size + 1 := by rw [hwx]; simp
  have hbx : Below wb.heap.size wb wx := by rw [hwx]; exact b3.alloc (by omega) _
  have HD : Hid (∀ wX, Below wx.heap.size wx wX → wX.cell? ⟨w3.heap.size, 0, none⟩ = some (.int .i64 K) ∧ wX.cell? ⟨w3.heap.size, 1, none⟩ = some (.int .i64 O) ∧ wX.cell? ⟨w3.heap.size, 2, none⟩ = some (.int .i64 P)) := fun wX hX => by
    refine ⟨?_, ?_, ?_⟩
    iterate 3 (exact (hX.cell (by simp; omega)).trans (by rw [hwx]; simp [go_sem]))
  have HWX : Hid (wx = _) := hwx
  have HBX : Hid (Below wb.heap.size wb wx) := hbx
  have HK : Hid (K = _) := hK
  have HO : Hid (O = _) := hO
  have HP : Hid (P = _) := hP
  have HZX : Hid (wx.heap.size = w3.heap.size + 1) := hzx
  have hz := HZ.out
  obtain ⟨q0, q1, q2, q3⟩ := HBOX.out wx hbx
  obtain ⟨⟨m0, m1, m2, m3, n0, n1, n2, n3⟩, u0, u1, u2, u3, v0, v1, v2, v3⟩ := HRES.out wx hbx
  obtain ⟨d0, d1, d2⟩ := HD.out wx (Below.refl _ _)
  have HBW : Hid (Below w.heap.size w wx) := HBB.out.trans (hbx.mono (by omega))
  clear hK hO hP hb3 b3 hdec hbx hzx
  go_upto_region 3 with fail
  rw [← hwx]
  clear hwx
  by_cases h0 : K = 0
  · subst h0
    have HE : Hid (RES = (M, ⟨0, 0, 0, 0⟩)) := by
      have h1 := HEND.out (by rw [← HX.out, ← HK.out]; simp)
      rw [← HX.out] at h1
      unfold endM at h1
      rw [if_pos HK.out.symm] at h1
      exact h1
    go_wp2_with fail
    obtain ⟨wF, hwF⟩ : ∃ wF, wF = ((((((((wx.setCell ⟨w.heap.size + 1, 0, none⟩ (.slice s.a1 M.mem.length s.c1)).setCell ⟨w.heap.size + 1, 1, none⟩ (.slice s.a2 M.pend.length s.c2)).setCell ⟨w.heap.size + 1, 2, none⟩ (.slice s.a3 M.tlb.length s.c3)).setCell ⟨w.heap.size + 1, 3, none⟩ (.slice s.a4 M.wc.length s.c4)).setCell ⟨w.heap.size + 1 + 1, 0, none⟩ (.int .i64 0)).setCell ⟨w.heap.size + 1 + 1, 1, none⟩ (.int .i64 0)).setCell ⟨w.heap.size + 1 + 1, 2, none⟩ (.int .i64 0)).setCell ⟨w.heap.size + 1 + 1, 3, none⟩ (.int .i64 0)) := ⟨_, rfl⟩
    have f0 : wF.cell? ⟨w.heap.size + 1, 0, none⟩ = some (.slice s.a1 M.mem.length s.c1) := by rw [hwF]; simp [go_sem, m0]
    have f1 : wF.cell? ⟨w.heap.size + 1, 1, none⟩ = some (.slice s.a2 M.pend.length s.c2) := by rw [hwF]; simp [go_sem, m1]
    have f2 : wF.cell? ⟨w.heap.size + 1, 2, none⟩ = some (.slice s.a3 M.tlb.length s.c3) := by rw [hwF]; simp [go_sem, m2]
    have f3 : wF.cell? ⟨w.heap.size + 1, 3, none⟩ = some (.slice s.a4 M.wc.length s.c4) := by rw [hwF]; simp [go_sem, m3]
    have g0 : wF.cell? ⟨w.heap.size + 1 + 1, 0, none⟩ = some (.int .i64 0) := by rw [hwF]; simp [go_sem, n0]
    have g1 : wF.cell? ⟨w.heap.size + 1 + 1, 1, none⟩ = some (.int .i64 0) := by rw [hwF]; simp [go_sem, n1]
    have g2 : wF.cell? ⟨w.heap.size + 1 + 1, 2, none⟩ = some (.int .i64 0) := by rw [hwF]; simp [go_sem, n2]
    have g3 : wF.cell? ⟨w.heap.size + 1 + 1, 3, none⟩ = some (.int .i64 0) := by rw [hwF]; simp [go_sem, n3]
    have hTF : Touch (fun k => k = w.heap.size + 1 ∨ k = w.heap.size + 1 + 1) wx wF := by
      rw [hwF]
      exact (((((((((Touch.same wx).set _ _ (.inl rfl)).set _ _ (.inl rfl)).set _ _ (.inl rfl)).set _ _ (.inl rfl)).set _ _ (.inr rfl)).set _ _ (.inr rfl)).set _ _ (.inr rfl)).set _ _ (.inr rfl))
    have hbF : Below w.heap.size w wF := Touch.below HBW.out hTF HBW.out.size (fun k hk => by omega)
    rw [← hwF]
    refine bodyPost_ret (v := .tuple #[.agg #[.slice s.a1 M.mem.length s.c1, .slice s.a2 M.pend.length s.c2, .slice s.a3 M.tlb.length s.c3, .slice s.a4 M.wc.length s.c4], .agg #[.int .i64 0, .int .i64 0, .int .i64 0, .int .i64 0]]) (by simp [results, Try.results135, go_sem, f0, f1, f2, f3, g0, g1, g2, g3]) rfl ?_
    rw [HE.out]
    exact ⟨s, rfl, MRow.touch (HM.out wx HBX.out) hTF (fun k hk hh => by have := HFAR.out k hk; omega), fun k hk => .inl hk, hbF⟩
  · have k0 : (K == 0) = false := by simpa using h0
    have HSX : Hid (∀ wX, Below wx.heap.size wx wX → wX.cell? ⟨w.heap.size, 0, none⟩ = some (.slice s.a1 M.mem.length s.c1) ∧ wX.cell? ⟨w3.heap.size, 0, none⟩ = some (.int .i64 K) ∧ wX.cell? ⟨w3.heap.size, 1, none⟩ = some (.int .i64 O)) := fun wX hX => ⟨(HBOX.out wX (HBX.out.trans (hX.mono (by have := HZX.out; omega)))).1, (HD.out wX hX).1, (HD.out wX hX).2.1⟩
    by_cases hlead : K = 1 ∧ O < nfr M.mem.length
    · obtain ⟨h1, hO'⟩ := hlead
      subst h1
      have hlt : level < 3 := HK3.out (by rw [← HX.out]; exact HK.out.symm)
      obtain ⟨M2, hM2⟩ : ∃ M2, M2 = stepM page choice M level X doom := ⟨_, rfl⟩
      obtain ⟨AM, hAM⟩ : ∃ AM, AM = addWcM M ⟨level + 1, page - page % cov level, O, doom⟩ := ⟨_, rfl⟩
      have hrc := HREC.out (by rw [← HX.out]; exact HK.out.symm) (by rw [← HX.out, ← HO.out]; exact hO')
      rw [← HX.out, ← HO.out, ← hM2] at hrc
      unfold hitV at hrc
      unfold stepM at hM2
      rw [← HO.out, ← hAM] at hM2
      have hcbx := HCB3.out
      have HBB : Hid (Below w.heap.size w wb) := HBB.out
      obtain ⟨BB, hBB⟩ : ∃ BB, BB = bitI choice (level + 3).toNat := ⟨_, rfl⟩
      rw [← hBB] at hM2 hcbx
      have HMT : Hid (BB = true → M2 = AM) := fun h => by rw [hM2, h]; rfl
      have HMF : Hid (BB = false → M2 = M) := fun h => by rw [hM2, h]; rfl
      have hcov := fun w => covers_any level w
      have hC0 : ¬ cov level = 0 := by
        rcases (show level = 1 ∨ level = 2 by omega) with rfl | rfl <;> decide
      have hC1 := cov_bd level
      have HRC : Hid _ := hrc
      clear hM2 hBB hrc
      generalize cov level = C at *
      have HAM : Hid (AM = _) := hAM
      have T1 : page.tmod C = page % C := Int.tmod_eq_emod_of_nonneg hp0
      have hmod := Int.emod_nonneg page hC0
      have hmod2 : page % C < C := Int.emod_lt_of_pos page (by omega)
      have W3 : IntKind.i64.wrap (page - page % C) = page - page % C := by rw [IntKind.wrap_i64]; omega
      have W5 : IntKind.i64.wrap (level + 3) = level + 3 := by rw [IntKind.wrap_i64]; omega
      have W6 : IntKind.i64.wrap (level + 1) = level + 1 := by rw [IntKind.wrap_i64]; omega
      have C0' : (C == 0) = false := by simpa using hC0
      clear hAM
      go_upto_region 5 with fail
      go_cut [54] (fun cv wy => cv = .bool true ∧ Below wx.heap.size wx wy)
      case first =>
        have hOt : decide (O < nfr M.mem.length) = true := by simpa using hO'
        have hlt' : decide (level < 3) = true := by simpa using hlt
        have hfr2 := HFR.out
        generalize nfr M.mem.length = n at *
        clear h0 hlt hO'
        refine wp_region_held_drew (S := fun wX => wX.cell? ⟨w.heap.size, 0, none⟩ = some (.slice s.a1 M.mem.length s.c1) ∧ wX.cell? ⟨w3.heap.size, 0, none⟩ = some (.int .i64 1) ∧ wX.cell? ⟨w3.heap.size, 1, none⟩ = some (.int .i64 O)) (by kernel_rfl) (HSX.out _ (Below.refl _ _).drew) (fun hHeld => ?_)
        refine tk 0 ?_
        refine tk 1 ?_
        refine tk 2 ?_
        refine tk 3 ?_
        refine tk 4 ?_
        refine tk 5 ?_
        refine tk 6 ?_
        refine tk 7 ?_
        refine wpAnyH_ready (rs := [8]) (by kernel_rfl) (by simp) ?_
        refine AllReadyH.cons rfl (fun K hK => ?_) AllReadyH.nil
        go_simp
        refine (hfr2 _).mono ?_; rintro r w4 ⟨rfl, hb4⟩
        go_wp2_with fail
        refine hK.out _ _ (HSX.out _ ((Below.refl _ _).drew.trans (hb4.mono (by simp)))) (fun hHeld2 => ?_)
        clear hK K
        refine tk 9 ?_
        refine tk 10 ?_
        refine tk 11 ?_
        refine tk 12 ?_
        refine tk 13 ?_
        refine tk 14 ?_
        refine wpAnyH_done (by kernel_rfl) ?_ _
        go_wp2_with fail
        go_meet
        case rel => exact ⟨rfl, (Below.refl _ _).drew.trans (hb4.mono (by simp))⟩
      case rest =>
        obtain ⟨wy, rfl⟩ : ∃ wy : World, wy = wc := ⟨_, rfl⟩
        obtain ⟨rfl, hby⟩ := hcut
        have sy := hby.size
        have bY : Below wb.heap.size wb wy := HBX.out.trans (hby.mono (by have := HZX.out; omega))
        obtain ⟨q0, q1, q2, q3⟩ := HBOX.out wy bY
        obtain ⟨⟨m0, m1, m2, m3, n0, n1, n2, n3⟩, u0, u1, u2, u3, v0, v1, v2, v3⟩ := HRES.out wy bY
        obtain ⟨d0, d1, d2⟩ := HD.out wy hby
        have HBYX : Hid (Below wx.heap.size wx wy) := hby
        have HBY : Hid (Below wb.heap.size wb wy) := bY
        clear hby bY h0 hlt hO'
        obtain ⟨wN, hwN⟩ : ∃ wN, wN = wy.alloc (.cells #[.slice s.a1 M.mem.length s.c1, .slice s.a2 M.pend.length s.c2, .slice s.a3 M.tlb.length s.c3, .slice s.a4 M.wc.length s.c4] 51) := ⟨_, rfl⟩
        have hzN : wN.heap.size = wy.heap.size + 1 := by rw [hwN]; simp
        have bN : Below wy.heap.size wy wN := by rw [hwN]; exact (Below.refl _ _).alloc (Nat.le_refl _) _
        have HN : Hid (∀ wX, Below wN.heap.size wN wX → (wX.cell? ⟨wy.heap.size, 0, none⟩ = some (.slice s.a1 M.mem.length s.c1) ∧ wX.cell? ⟨wy.heap.size, 1, none⟩ = some (.slice s.a2 M.pend.length s.c2) ∧ wX.cell? ⟨wy.heap.size, 2, none⟩ = some (.slice s.a3 M.tlb.length s.c3) ∧ wX.cell? ⟨wy.heap.size, 3, none⟩ = some (.slice s.a4 M.wc.length s.c4)) ∧ (wX.frozen? ⟨wy.heap.size, 0, none⟩ = false ∧ wX.frozen? ⟨wy.heap.size, 1, none⟩ = false ∧ wX.frozen? ⟨wy.heap.size, 2, none⟩ = false ∧ wX.frozen? ⟨wy.heap.size, 3, none⟩ = false) ∧ wX.cell? ⟨w3.heap.size, 1, none⟩ = some (.int .i64 O) ∧ wX.cell? ⟨w3.heap.size, 2, none⟩ = some (.int .i64 P)) := fun wX hX => by
          refine ⟨⟨?_, ?_, ?_, ?_⟩, ⟨?_, ?_, ?_, ?_⟩, ?_, ?_⟩
          iterate 4 (exact (hX.cell (by simp; omega)).trans (by rw [hwN]; simp [go_sem]))
          iterate 4 (exact (hX.frozen (by simp; omega)).trans (by rw [hwN]; simp [go_sem]))
          · exact (HD.out wX (HBYX.out.trans ((bN.trans (hX.mono (by omega))).mono (by omega)))).2.1
          · exact (HD.out wX (HBYX.out.trans ((bN.trans (hX.mono (by omega))).mono (by omega)))).2.2
        have HBN : Hid (Below wb.heap.size wb wN) := HBY.out.trans (bN.mono (by have := HBY.out.size; omega))
        have HWN : Hid (wN = _) := hwN
        have HZN : Hid (wN.heap.size = wy.heap.size + 1) := hzN
        have hby0 : wb.heap.size ≤ wy.heap.size := HBY.out.size
        have HBY0 : Hid (wb.heap.size ≤ wy.heap.size) := hby0
        have HADD : Hid (∀ wX, Below wb.heap.size wb wX → Calls Try.prog 184 #[.agg #[.slice s.a1 M.mem.length s.c1, .slice s.a2 M.pend.length s.c2, .slice s.a3 M.tlb.length s.c3, .slice s.a4 M.wc.length s.c4], .agg #[.int .i64 (level + 1), .int .i64 (page - page % C), .int .i64 O, .bool doom]] wX fun r w' => ∃ s' : SV, r = .returned (.agg #[.slice s'.a1 AM.mem.length s'.c1, .slice s'.a2 AM.pend.length s'.c2, .slice s'.a3 AM.tlb.length s'.c3, .slice s'.a4 AM.wc.length s'.c4]) ∧ MRow w' wX.heap.size (s'.mv AM) AM ∧ Below wX.heap.size wX w') := fun wX hX => by
          rw [HAM.out]
          exact addWc_any s M b _ wX hs (HM.out wX hX)
        clear hwN bN hzN hby0
        go_upto_if 59 with (go_at_call 133; refine (hcbx _).mono ?_; rintro e wQ ⟨rfl, hwQ⟩; obtain rfl := hwQ.symm)
        rw [← HWN.out]
        go_cut [16] (fun p wz => p = .pointer (some ⟨wy.heap.size, 0, none⟩) ∧ ∃ s2 : SV, (wz.cell? ⟨wy.heap.size, 0, none⟩ = some (.slice s2.a1 M2.mem.length s2.c1) ∧ wz.cell? ⟨wy.heap.size, 1, none⟩ = some (.slice s2.a2 M2.pend.length s2.c2) ∧ wz.cell? ⟨wy.heap.size, 2, none⟩ = some (.slice s2.a3 M2.tlb.length s2.c3) ∧ wz.cell? ⟨wy.heap.size, 3, none⟩ = some (.slice s2.a4 M2.wc.length s2.c4)) ∧ MRow wz b (s2.mv M2) M2 ∧ (∀ k, (s2.mv M2).owns k → (s.mv M).owns k ∨ (wb.heap.size ≤ k ∧ k ≠ wy.heap.size)) ∧ Below wb.heap.size wb wz ∧ wy.heap.size < wz.heap.size ∧ wz.cell? ⟨w3.heap.size, 1, none⟩ = some (.int .i64 O) ∧ wz.cell? ⟨w3.heap.size, 2, none⟩ = some (.int .i64 P))
        case first =>
          clear m0 m1 m2 m3 n0 n1 n2 n3 u0 u1 u2 u3 v0 v1 v2 v3 q0 q1 q2 q3 d0 d1 d2
          cases BB
          · go_wp2_with fail
            go_meet
            case rel =>
              have e2 := HMF.out (by first | rfl | trivial)
              rw [e2]
              obtain ⟨c4, _, x1, x2⟩ := HN.out wN (Below.refl _ _)
              exact ⟨rfl, s, c4, HM.out wN HBN.out, fun k hk => .inl hk, HBN.out, by have := HZN.out; omega, x1, x2⟩
          · have HM2 : Hid (M2 = AM) := HMT.out (by first | rfl | trivial)
            go_upto_region 8 with fail
            go_cut [17] (fun p wE => ∃ E, p = .pointer (some ⟨E, 0, none⟩) ∧ (wE.cell? ⟨E, 0, none⟩ = some (.int .i64 (level + 1)) ∧ wE.cell? ⟨E, 1, none⟩ = some (.int .i64 (page - page % C)) ∧ wE.cell? ⟨E, 2, none⟩ = some (.int .i64 O) ∧ wE.cell? ⟨E, 3, none⟩ = some (.bool doom)) ∧ E < wE.heap.size ∧ Below wN.heap.size wN wE)
            case first =>
              have HK2 : Hid (∀ wX, Below wN.heap.size wN wX → wX.cell? ⟨w3.heap.size, 1, none⟩ = some (.int .i64 O) ∧ wX.cell? ⟨w3.heap.size, 2, none⟩ = some (.int .i64 P)) := fun wX hX => (HN.out wX hX).2.2
              obtain ⟨x1, x2⟩ := HK2.out wN (Below.refl _ _)
              go_region_held3 (fun wX => wX.cell? ⟨w3.heap.size, 1, none⟩ = some (.int .i64 O) ∧ wX.cell? ⟨w3.heap.size, 2, none⟩ = some (.int .i64 P))
                ((refine HK2.out _ ?_; repeat (first | exact Below.refl _ _ | with_reducible refine Below.drew ?_ | with_reducible refine Below.setCell ?_ (by first | omega | (simp <;> omega)) _ | with_reducible refine Below.alloc ?_ (by first | omega | (simp <;> omega)) _)))
                (first | (go_at_call 114; refine (hcov _).mono ?_; rintro e wQ ⟨rfl, rfl⟩))
              all_goals
                go_wp2_with fail
                go_meet
                case rel =>
                  refine ⟨_, rfl, ⟨?_, ?_, ?_, ?_⟩, ?_, ?_⟩
                  iterate 4 (simp [go_sem])
                  · first | omega | (simp <;> omega)
                  · repeat (first | exact Below.refl _ _ | with_reducible refine Below.drew ?_ | with_reducible refine Below.setCell ?_ (by first | omega | (simp <;> omega)) _ | with_reducible refine Below.alloc ?_ (by first | omega | (simp <;> omega)) _)
            case rest =>
              obtain ⟨wE, rfl⟩ : ∃ wE : World, wE = wc := ⟨_, rfl⟩
              obtain ⟨E, rfl, ⟨x0, x1, x2, x3⟩, hE, hbE⟩ := hcut
              have bE : Below wb.heap.size wb wE := HBN.out.trans (hbE.mono (by have := HBN.out.size; omega))
              obtain ⟨q0, q1, q2, q3⟩ := HBOX.out wE bE
              have hadd := HADD.out wE bE
              have HBE : Hid (Below wN.heap.size wN wE) := hbE
              have HBEb : Hid (Below wb.heap.size wb wE) := bE
              clear hbE bE
              go_wp2_with fail
              refine hadd.mono ?_
              rintro r w5 ⟨s2, rfl, hr5, hb5⟩
              have b5 : Below wN.heap.size wN w5 := HBE.out.trans (hb5.mono HBE.out.size)
              have b5b : Below wb.heap.size wb w5 := HBEb.out.trans (hb5.mono HBEb.out.size)
              obtain ⟨⟨n0', n1', n2', n3'⟩, ⟨z0, z1, z2, z3⟩, o1, o2⟩ := HN.out w5 b5
              have HR5 : Hid (MRow w5 wE.heap.size (s2.mv AM) AM) := hr5
              have HB5 : Hid (Below wb.heap.size wb w5 ∧ Below wN.heap.size wN w5 ∧ Below wN.heap.size wN wE) := ⟨b5b, b5, HBE.out⟩
              clear hr5 hb5 b5 b5b hadd q0 q1 q2 q3 x0 x1 x2 x3
              go_wp2_with fail
              go_meet
              case rel =>
                have hZ := HZN.out
                have hY := HBY0.out
                have hS5 := HB5.out.2.1.size
                have hSE := HB5.out.2.2.size
                have hW3 : w3.heap.size < wy.heap.size := by have := HZX.out; omega
                rw [HM2.out]
                obtain ⟨wG, hwG⟩ : ∃ wG, wG = (((w5.setCell ⟨wy.heap.size, 0, none⟩ (.slice s2.a1 AM.mem.length s2.c1)).setCell ⟨wy.heap.size, 1, none⟩ (.slice s2.a2 AM.pend.length s2.c2)).setCell ⟨wy.heap.size, 2, none⟩ (.slice s2.a3 AM.tlb.length s2.c3)).setCell ⟨wy.heap.size, 3, none⟩ (.slice s2.a4 AM.wc.length s2.c4) := ⟨_, rfl⟩
                rw [← hwG]
                have hTG : Touch (fun k => k = wy.heap.size) w5 wG := by
                  rw [hwG]
                  exact Touch.set (Touch.set (Touch.set (Touch.set (Touch.same w5) _ _ (by rfl)) _ _ (by rfl)) _ _ (by rfl)) _ _ (by rfl)
                have g0' : wG.cell? ⟨wy.heap.size, 0, none⟩ = some (.slice s2.a1 AM.mem.length s2.c1) := by rw [hwG]; simp [go_sem, n0']
                have g1' : wG.cell? ⟨wy.heap.size, 1, none⟩ = some (.slice s2.a2 AM.pend.length s2.c2) := by rw [hwG]; simp [go_sem, n1']
                have g2' : wG.cell? ⟨wy.heap.size, 2, none⟩ = some (.slice s2.a3 AM.tlb.length s2.c3) := by rw [hwG]; simp [go_sem, n2']
                have g3' : wG.cell? ⟨wy.heap.size, 3, none⟩ = some (.slice s2.a4 AM.wc.length s2.c4) := by rw [hwG]; simp [go_sem, n3']
                have hb3w := hTG.block w3.heap.size (by omega) (by omega)
                have hown : ∀ k, (s2.mv AM).owns k → wE.heap.size ≤ k := fun k hk => (HR5.out.own k hk).1
                have hrG : MRow wG wE.heap.size (s2.mv AM) AM := HR5.out.touch hTG (fun k hk e' => by have h1 := hown k hk; have e2 : k = wy.heap.size := e'; omega)
                have hbG : Below wb.heap.size wb wG := Touch.below HB5.out.1 hTG HB5.out.1.size (fun k hk => by have e2 : k = wy.heap.size := hk; omega)
                exact ⟨rfl, s2, ⟨g0', g1', g2', g3'⟩, hrG.rebase (by have := HBB.out.size; omega), fun k hk => .inr ⟨by have := hown k hk; omega, by have := hown k hk; omega⟩, hbG, by have := hTG.size; omega, (World.cell?_of_block hb3w).trans o1, (World.cell?_of_block hb3w).trans o2⟩
        case rest =>
          obtain ⟨wz, rfl⟩ : ∃ wz : World, wz = wc := ⟨_, rfl⟩
          obtain ⟨rfl, s2, ⟨c0, c1, c2, c3⟩, hrz, hoz, hbz, hsz, x1, x2⟩ := hcut
          obtain ⟨⟨m0, m1, m2, m3, n0, n1, n2, n3⟩, u0, u1, u2, u3, v0, v1, v2, v3⟩ := HRES.out wz hbz
          have HRZ : Hid (MRow wz b (s2.mv M2) M2) := hrz
          have HOZ : Hid (∀ k, (s2.mv M2).owns k → (s.mv M).owns k ∨ (wb.heap.size ≤ k ∧ k ≠ wy.heap.size)) := hoz
          have HBZ : Hid (Below wb.heap.size wb wz) := hbz
          have HBWZ : Hid (Below w.heap.size w wz) := HBB.out.trans (hbz.mono (by have := HZ.out; omega))
          have HFZ : Hid (∀ k, (s2.mv M2).owns k → k < w.heap.size ∨ w.heap.size + 3 ≤ k) := fun k hk => by
            rcases hoz k hk with h' | h'
            · exact .inl (HFAR.out k h')
            · have := HZ.out; exact .inr (by omega)
          clear hrz hoz hbz
          have hrc := HRC.out s2 b wz (by have := HBB.out.size; have := HBZ.out.size; omega) HRZ.out
          clear m0 m1 m2 m3 n0 n1 n2 n3 u0 u1 u2 u3 v0 v1 v2 v3
          go_wp2_with fail
          refine hrc.mono ?_
          rintro r w6 ⟨s', rfl, hr6, how6, hb6⟩
          have b6 : Below wb.heap.size wb w6 := HBZ.out.trans (hb6.mono HBZ.out.size)
          obtain ⟨⟨m0, m1, m2, m3, n0, n1, n2, n3⟩, u0, u1, u2, u3, v0, v1, v2, v3⟩ := HRES.out w6 b6
          have HR6 : Hid (MRow w6 b (s'.mv RES.1) RES.1) := hr6
          have HO6 : Hid (∀ k, (s'.mv RES.1).owns k → (s2.mv M2).owns k ∨ wz.heap.size ≤ k) := how6
          have HS6 : Hid (w.heap.size + 3 ≤ wz.heap.size) := by have := HBZ.out.size; have := HZ.out; show w.heap.size + 3 ≤ wz.heap.size; omega
          have HB6 : Hid (Below w.heap.size w w6) := HBB.out.trans (b6.mono (by have := HZ.out; omega))
          clear hr6 how6 hb6 b6 hrc c0 c1 c2 c3 x1 x2
          go_wp2_with fail
          obtain ⟨wF, hwF⟩ : ∃ wF, wF = ((((((((w6.setCell ⟨w.heap.size + 1, 0, none⟩ (.slice s'.a1 RES.1.mem.length s'.c1)).setCell ⟨w.heap.size + 1, 1, none⟩ (.slice s'.a2 RES.1.pend.length s'.c2)).setCell ⟨w.heap.size + 1, 2, none⟩ (.slice s'.a3 RES.1.tlb.length s'.c3)).setCell ⟨w.heap.size + 1, 3, none⟩ (.slice s'.a4 RES.1.wc.length s'.c4)).setCell ⟨w.heap.size + 1 + 1, 0, none⟩ (.int .i64 RES.2.kind)).setCell ⟨w.heap.size + 1 + 1, 1, none⟩ (.int .i64 RES.2.out)).setCell ⟨w.heap.size + 1 + 1, 2, none⟩ (.int .i64 RES.2.perm)).setCell ⟨w.heap.size + 1 + 1, 3, none⟩ (.int .i64 RES.2.size)) := ⟨_, rfl⟩
          have f0 : wF.cell? ⟨w.heap.size + 1, 0, none⟩ = some (.slice s'.a1 RES.1.mem.length s'.c1) := by rw [hwF]; simp [go_sem, m0]
          have f1 : wF.cell? ⟨w.heap.size + 1, 1, none⟩ = some (.slice s'.a2 RES.1.pend.length s'.c2) := by rw [hwF]; simp [go_sem, m1]
          have f2 : wF.cell? ⟨w.heap.size + 1, 2, none⟩ = some (.slice s'.a3 RES.1.tlb.length s'.c3) := by rw [hwF]; simp [go_sem, m2]
          have f3 : wF.cell? ⟨w.heap.size + 1, 3, none⟩ = some (.slice s'.a4 RES.1.wc.length s'.c4) := by rw [hwF]; simp [go_sem, m3]
          have g0 : wF.cell? ⟨w.heap.size + 1 + 1, 0, none⟩ = some (.int .i64 RES.2.kind) := by rw [hwF]; simp [go_sem, n0]
          have g1 : wF.cell? ⟨w.heap.size + 1 + 1, 1, none⟩ = some (.int .i64 RES.2.out) := by rw [hwF]; simp [go_sem, n1]
          have g2 : wF.cell? ⟨w.heap.size + 1 + 1, 2, none⟩ = some (.int .i64 RES.2.perm) := by rw [hwF]; simp [go_sem, n2]
          have g3 : wF.cell? ⟨w.heap.size + 1 + 1, 3, none⟩ = some (.int .i64 RES.2.size) := by rw [hwF]; simp [go_sem, n3]
          have hTF : Touch (fun k => k = w.heap.size + 1 ∨ k = w.heap.size + 1 + 1) w6 wF := by
            rw [hwF]
            exact (Touch.set (Touch.set (Touch.set (Touch.set (Touch.set (Touch.set (Touch.set (Touch.set (Touch.same w6) _ _ (.inl rfl)) _ _ (.inl rfl)) _ _ (.inl rfl)) _ _ (.inl rfl)) _ _ (.inr rfl)) _ _ (.inr rfl)) _ _ (.inr rfl)) _ _ (.inr rfl))
          have hbF : Below w.heap.size w wF := Touch.below HB6.out hTF HB6.out.size (fun k hk => by omega)
          rw [← hwF]
          refine bodyPost_ret (v := .tuple #[.agg #[.slice s'.a1 RES.1.mem.length s'.c1, .slice s'.a2 RES.1.pend.length s'.c2, .slice s'.a3 RES.1.tlb.length s'.c3, .slice s'.a4 RES.1.wc.length s'.c4], .agg #[.int .i64 RES.2.kind, .int .i64 RES.2.out, .int .i64 RES.2.perm, .int .i64 RES.2.size]]) (by simp [results, Try.results135, go_sem, f0, f1, f2, f3, g0, g1, g2, g3]) rfl ?_
          exact ⟨s', rfl, MRow.touch HR6.out hTF (fun k hk hh => (HO6.out k hk).elim (fun h' => by have := HFZ.out k h'; omega) (fun h' => by have := HS6.out; omega)), fun k hk => (HO6.out k hk).elim (fun h' => (HOZ.out k h').elim .inl (fun h2 => .inr (by have := HZ.out; omega))) (fun h' => .inr (by have := HS6.out; omega)), hbF⟩
    · have HEN : Hid (RES = endM page choice M level X doom) := by
        have h1 := HEND.out (by rw [← HX.out, ← HK.out, ← HO.out]; exact hlead)
        rw [← HX.out] at h1
        exact h1
      go_upto_region 5 with fail
      go_cut [54] (fun cv wy => cv = .bool false ∧ Below wx.heap.size wx wy)
      case first =>
        by_cases h1 : K = 1
        · subst h1
          have hO' : decide (O < nfr M.mem.length) = false := by simp only [decide_eq_false_iff_not]; exact fun h' => hlead ⟨rfl, h'⟩
          have hfr2 := HFR.out
          generalize nfr M.mem.length = n at *
          clear hlead h0
          refine wp_region_held_drew (S := fun wX => wX.cell? ⟨w.heap.size, 0, none⟩ = some (.slice s.a1 M.mem.length s.c1) ∧ wX.cell? ⟨w3.heap.size, 0, none⟩ = some (.int .i64 1) ∧ wX.cell? ⟨w3.heap.size, 1, none⟩ = some (.int .i64 O)) (by kernel_rfl) (HSX.out _ (Below.refl _ _).drew) (fun hHeld => ?_)
          refine tk 0 ?_
          refine tk 1 ?_
          refine tk 2 ?_
          refine tk 3 ?_
          refine tk 4 ?_
          refine tk 5 ?_
          refine tk 6 ?_
          refine tk 7 ?_
          refine wpAnyH_ready (rs := [8]) (by kernel_rfl) (by simp) ?_
          refine AllReadyH.cons rfl (fun K hK => ?_) AllReadyH.nil
          go_simp
          refine (hfr2 _).mono ?_; rintro r w4 ⟨rfl, hb4⟩
          go_wp2_with fail
          refine hK.out _ _ (HSX.out _ ((Below.refl _ _).drew.trans (hb4.mono (by simp)))) (fun hHeld2 => ?_)
          clear hK K
          refine tk 9 ?_
          refine tk 10 ?_
          refine tk 11 ?_
          refine sk 12 ?_
          refine sk 13 ?_
          refine tk 14 ?_
          refine wpAnyH_done (by kernel_rfl) ?_ _
          go_wp2_with fail
          go_meet
          case rel => exact ⟨rfl, (Below.refl _ _).drew.trans (hb4.mono (by simp))⟩
        · have k1 : (K == 1) = false := by simpa using h1
          clear hlead h0 h1
          go_quiet (fail)
          go_wp2_with fail
          go_meet
          case rel => exact ⟨rfl, bDrewN (Below.refl _ _) _⟩
      case rest =>
        obtain ⟨wy, rfl⟩ : ∃ wy : World, wy = wc := ⟨_, rfl⟩
        obtain ⟨rfl, hby⟩ := hcut
        have sy := hby.size
        have bY : Below wb.heap.size wb wy := HBX.out.trans (hby.mono (by have := HZX.out; omega))
        obtain ⟨q0, q1, q2, q3⟩ := HBOX.out wy bY
        obtain ⟨⟨m0, m1, m2, m3, n0, n1, n2, n3⟩, u0, u1, u2, u3, v0, v1, v2, v3⟩ := HRES.out wy bY
        obtain ⟨d0, d1, d2⟩ := HD.out wy hby
        have HBYX : Hid (Below wx.heap.size wx wy) := hby
        have HBY : Hid (Below wb.heap.size wb wy) := bY
        have HBWY : Hid (Below w.heap.size w wy) := HBW.out.trans (hby.mono (by have := HZX.out; omega))
        clear hby bY
        by_cases hm : K = 2 ∨ K = 3
        · have k23 : (K == 2 || K == 3) = true := by simpa using hm
          obtain ⟨C, hC⟩ : ∃ C, C = sizR level X := ⟨_, rfl⟩
          obtain ⟨AM, hAM⟩ : ∃ AM, AM = addTlbM M ⟨page - page % C, C, O, P, doom⟩ := ⟨_, rfl⟩
          obtain ⟨M2, hM2⟩ : ∃ M2, M2 = if bitI choice 6 then AM else M := ⟨_, rfl⟩
          have HRS : Hid (RES = (M2, ⟨1, O + page % C, P, C⟩)) := by
            have h1 := HEN.out
            unfold endM at h1
            rw [if_neg (by rw [← HK.out]; exact h0), if_pos (by rw [← HK.out]; exact hm), ← hC, ← HO.out, ← HP.out, ← hAM, ← hM2] at h1
            exact h1
          have hcbx := HCB6.out
          obtain ⟨BB, hBB⟩ : ∃ BB, BB = bitI choice 6 := ⟨_, rfl⟩
          rw [← hBB] at hM2 hcbx
          have HMT : Hid (BB = true → M2 = AM) := fun h => by rw [hM2, h]; rfl
          have HMF : Hid (BB = false → M2 = M) := fun h => by rw [hM2, h]; rfl
          have hCv : C = if K = 2 then 16 else 1 := by rw [hC]; unfold sizR; rw [← HK.out]
          have hC0 : ¬ C = 0 := by rw [hCv]; split <;> omega
          have hC2 : 0 < C ∧ C ≤ 16 := by rw [hCv]; split <;> omega
          have HCV : Hid (C = _) := hCv
          have HAM : Hid (AM = _) := hAM
          have T1 : page.tmod C = page % C := Int.tmod_eq_emod_of_nonneg hp0
          have hmod := Int.emod_nonneg page hC0
          have hmod2 : page % C < C := Int.emod_lt_of_pos page hC2.1
          have W3 : IntKind.i64.wrap (page - page % C) = page - page % C := by rw [IntKind.wrap_i64]; omega
          have W4 : IntKind.i64.wrap (O + page % C) = O + page % C := by rw [IntKind.wrap_i64]; omega
          have C0' : (C == 0) = false := by simpa using hC0
          have hcov : True := trivial
          have HM23 : Hid (K = 2 ∨ K = 3) := hm
          clear hM2 hBB hAM hC hCv h0 hlead hm k0
          go_upto_region 11 with fail
          go_cut [93] (fun cv wv => cv = .bool true ∧ wv = wy)
          case first =>
            by_cases h2 : K = 2
            · have h2' : (K == 2) = true := by simpa using h2
              clear h2
              go_wp2_with fail
              go_meet
              case rel => exact ⟨rfl, rfl⟩
            · have h2' : (K == 2) = false := by simpa using h2
              have h3' : (K == 3) = true := by have := HM23.out; simp; omega
              clear h2
              go_wp2_with fail
              go_meet
              case rel => exact ⟨rfl, rfl⟩
          case rest =>
            obtain ⟨rfl, hcw⟩ := hcut
            have hcw2 := hcw.symm
            subst hcw2
            go_upto_if 96 with fail
            go_cut [18] (fun cv wv => cv = .int .i64 C ∧ wv = wy)
            case first =>
              by_cases h2 : K = 2
              · have hc := HCV.out
                rw [if_pos h2] at hc
                have h2' : (K == 2) = true := by simpa using h2
                have HC : Hid _ := hc
                clear hc h2
                go_wp2_with fail
                go_meet
                case rel => exact ⟨by rw [HC.out], rfl⟩
              · have hc := HCV.out
                rw [if_neg h2] at hc
                have h2' : (K == 2) = false := by simpa using h2
                have HC : Hid _ := hc
                clear hc h2
                go_wp2_with fail
                go_meet
                case rel => exact ⟨by rw [HC.out], rfl⟩
            case rest =>
              obtain ⟨rfl, hcw⟩ := hcut
              have hcw2 := hcw.symm
              subst hcw2
              obtain ⟨wN, hwN⟩ : ∃ wN, wN = wy.alloc (.cells #[.slice s.a1 M.mem.length s.c1, .slice s.a2 M.pend.length s.c2, .slice s.a3 M.tlb.length s.c3, .slice s.a4 M.wc.length s.c4] 51) := ⟨_, rfl⟩
              have hzN : wN.heap.size = wy.heap.size + 1 := by rw [hwN]; simp
              have bN : Below wy.heap.size wy wN := by rw [hwN]; exact (Below.refl _ _).alloc (Nat.le_refl _) _
              have HN : Hid (∀ wX, Below wN.heap.size wN wX → (wX.cell? ⟨wy.heap.size, 0, none⟩ = some (.slice s.a1 M.mem.length s.c1) ∧ wX.cell? ⟨wy.heap.size, 1, none⟩ = some (.slice s.a2 M.pend.length s.c2) ∧ wX.cell? ⟨wy.heap.size, 2, none⟩ = some (.slice s.a3 M.tlb.length s.c3) ∧ wX.cell? ⟨wy.heap.size, 3, none⟩ = some (.slice s.a4 M.wc.length s.c4)) ∧ (wX.frozen? ⟨wy.heap.size, 0, none⟩ = false ∧ wX.frozen? ⟨wy.heap.size, 1, none⟩ = false ∧ wX.frozen? ⟨wy.heap.size, 2, none⟩ = false ∧ wX.frozen? ⟨wy.heap.size, 3, none⟩ = false) ∧ wX.cell? ⟨w3.heap.size, 1, none⟩ = some (.int .i64 O) ∧ wX.cell? ⟨w3.heap.size, 2, none⟩ = some (.int .i64 P)) := fun wX hX => by
                refine ⟨⟨?_, ?_, ?_, ?_⟩, ⟨?_, ?_, ?_, ?_⟩, ?_, ?_⟩
                iterate 4 (exact (hX.cell (by simp; omega)).trans (by rw [hwN]; simp [go_sem]))
                iterate 4 (exact (hX.frozen (by simp; omega)).trans (by rw [hwN]; simp [go_sem]))
                · exact (HD.out wX (HBYX.out.trans ((bN.trans (hX.mono (by omega))).mono (by omega)))).2.1
                · exact (HD.out wX (HBYX.out.trans ((bN.trans (hX.mono (by omega))).mono (by omega)))).2.2
              have HBN : Hid (Below wb.heap.size wb wN) := HBY.out.trans (bN.mono (by have := HBY.out.size; omega))
              have HWN : Hid (wN = _) := hwN
              have HZN : Hid (wN.heap.size = wy.heap.size + 1) := hzN
              have hby0 : wb.heap.size ≤ wy.heap.size := HBY.out.size
              have HBY0 : Hid (wb.heap.size ≤ wy.heap.size) := hby0
              have HADD : Hid (∀ wX, Below wb.heap.size wb wX → Calls Try.prog 185 #[.agg #[.slice s.a1 M.mem.length s.c1, .slice s.a2 M.pend.length s.c2, .slice s.a3 M.tlb.length s.c3, .slice s.a4 M.wc.length s.c4], .agg #[.int .i64 (page - page % C), .int .i64 C, .int .i64 O, .int .i64 P, .bool doom]] wX fun r w' => ∃ s' : SV, r = .returned (.agg #[.slice s'.a1 AM.mem.length s'.c1, .slice s'.a2 AM.pend.length s'.c2, .slice s'.a3 AM.tlb.length s'.c3, .slice s'.a4 AM.wc.length s'.c4]) ∧ MRow w' wX.heap.size (s'.mv AM) AM ∧ Below wX.heap.size wX w') := fun wX hX => by
                rw [HAM.out]
                exact addTlb_any s M b _ wX hs (HM.out wX hX)
              clear hwN bN hzN hby0
              go_upto_if 99 with (go_at_call 133; refine (hcbx _).mono ?_; rintro e wQ ⟨rfl, hwQ⟩; obtain rfl := hwQ.symm)
              rw [← HWN.out]
              go_cut [19] (fun p wz => p = .pointer (some ⟨wy.heap.size, 0, none⟩) ∧ ∃ s2 : SV, (wz.cell? ⟨wy.heap.size, 0, none⟩ = some (.slice s2.a1 M2.mem.length s2.c1) ∧ wz.cell? ⟨wy.heap.size, 1, none⟩ = some (.slice s2.a2 M2.pend.length s2.c2) ∧ wz.cell? ⟨wy.heap.size, 2, none⟩ = some (.slice s2.a3 M2.tlb.length s2.c3) ∧ wz.cell? ⟨wy.heap.size, 3, none⟩ = some (.slice s2.a4 M2.wc.length s2.c4)) ∧ MRow wz b (s2.mv M2) M2 ∧ (∀ k, (s2.mv M2).owns k → (s.mv M).owns k ∨ (wb.heap.size ≤ k ∧ k ≠ wy.heap.size)) ∧ Below wb.heap.size wb wz ∧ wy.heap.size < wz.heap.size ∧ wz.cell? ⟨w3.heap.size, 1, none⟩ = some (.int .i64 O) ∧ wz.cell? ⟨w3.heap.size, 2, none⟩ = some (.int .i64 P))
              case first =>
                clear m0 m1 m2 m3 n0 n1 n2 n3 u0 u1 u2 u3 v0 v1 v2 v3 q0 q1 q2 q3 d0 d1 d2
                cases BB
                · go_wp2_with fail
                  go_meet
                  case rel =>
                    have e2 := HMF.out (by first | rfl | trivial)
                    rw [e2]
                    obtain ⟨c4, _, x1, x2⟩ := HN.out wN (Below.refl _ _)
                    exact ⟨rfl, s, c4, HM.out wN HBN.out, fun k hk => .inl hk, HBN.out, by have := HZN.out; omega, x1, x2⟩
                · have HM2 : Hid (M2 = AM) := HMT.out (by first | rfl | trivial)
                  go_upto_region 17 with fail
                  go_cut [20] (fun p wE => ∃ E, p = .pointer (some ⟨E, 0, none⟩) ∧ (wE.cell? ⟨E, 0, none⟩ = some (.int .i64 (page - page % C)) ∧ wE.cell? ⟨E, 1, none⟩ = some (.int .i64 C) ∧ wE.cell? ⟨E, 2, none⟩ = some (.int .i64 O) ∧ wE.cell? ⟨E, 3, none⟩ = some (.int .i64 P) ∧ wE.cell? ⟨E, 4, none⟩ = some (.bool doom)) ∧ E < wE.heap.size ∧ Below wN.heap.size wN wE)
                  case first =>
                    have HK2 : Hid (∀ wX, Below wN.heap.size wN wX → wX.cell? ⟨w3.heap.size, 1, none⟩ = some (.int .i64 O) ∧ wX.cell? ⟨w3.heap.size, 2, none⟩ = some (.int .i64 P)) := fun wX hX => (HN.out wX hX).2.2
                    obtain ⟨x1, x2⟩ := HK2.out wN (Below.refl _ _)
                    go_region_held3 (fun wX => wX.cell? ⟨w3.heap.size, 1, none⟩ = some (.int .i64 O) ∧ wX.cell? ⟨w3.heap.size, 2, none⟩ = some (.int .i64 P))
                      ((refine HK2.out _ ?_; repeat (first | exact Below.refl _ _ | with_reducible refine Below.drew ?_ | with_reducible refine Below.setCell ?_ (by first | omega | (simp <;> omega)) _ | with_reducible refine Below.alloc ?_ (by first | omega | (simp <;> omega)) _)))
                      (first | (go_at_call 114; refine (hcov _).mono ?_; rintro e wQ ⟨rfl, rfl⟩))
                    all_goals
                      go_wp2_with fail
                      go_meet
                      case rel =>
                        refine ⟨_, rfl, ⟨?_, ?_, ?_, ?_, ?_⟩, ?_, ?_⟩
                        iterate 5 (simp [go_sem])
                        · first | omega | (simp <;> omega)
                        · repeat (first | exact Below.refl _ _ | with_reducible refine Below.drew ?_ | with_reducible refine Below.setCell ?_ (by first | omega | (simp <;> omega)) _ | with_reducible refine Below.alloc ?_ (by first | omega | (simp <;> omega)) _)
                  case rest =>
                    obtain ⟨wE, rfl⟩ : ∃ wE : World, wE = wc := ⟨_, rfl⟩
                    obtain ⟨E, rfl, ⟨x0, x1, x2, x3, x4⟩, hE, hbE⟩ := hcut
                    have bE : Below wb.heap.size wb wE := HBN.out.trans (hbE.mono (by have := HBN.out.size; omega))
                    obtain ⟨q0, q1, q2, q3⟩ := HBOX.out wE bE
                    have hadd := HADD.out wE bE
                    have HBE : Hid (Below wN.heap.size wN wE) := hbE
                    have HBEb : Hid (Below wb.heap.size wb wE) := bE
                    clear hbE bE
                    go_wp2_with fail
                    refine hadd.mono ?_
                    rintro r w5 ⟨s2, rfl, hr5, hb5⟩
                    have b5 : Below wN.heap.size wN w5 := HBE.out.trans (hb5.mono HBE.out.size)
                    have b5b : Below wb.heap.size wb w5 := HBEb.out.trans (hb5.mono HBEb.out.size)
                    obtain ⟨⟨n0', n1', n2', n3'⟩, ⟨z0, z1, z2, z3⟩, o1, o2⟩ := HN.out w5 b5
                    have HR5 : Hid (MRow w5 wE.heap.size (s2.mv AM) AM) := hr5
                    have HB5 : Hid (Below wb.heap.size wb w5 ∧ Below wN.heap.size wN w5 ∧ Below wN.heap.size wN wE) := ⟨b5b, b5, HBE.out⟩
                    clear hr5 hb5 b5 b5b hadd q0 q1 q2 q3 x0 x1 x2 x3 x4
                    go_wp2_with fail
                    go_meet
                    case rel =>
                      have hZ := HZN.out
                      have hY := HBY0.out
                      have hS5 := HB5.out.2.1.size
                      have hSE := HB5.out.2.2.size
                      have hW3 : w3.heap.size < wy.heap.size := by have := HZX.out; omega
                      rw [HM2.out]
                      obtain ⟨wG, hwG⟩ : ∃ wG, wG = (((w5.setCell ⟨wy.heap.size, 0, none⟩ (.slice s2.a1 AM.mem.length s2.c1)).setCell ⟨wy.heap.size, 1, none⟩ (.slice s2.a2 AM.pend.length s2.c2)).setCell ⟨wy.heap.size, 2, none⟩ (.slice s2.a3 AM.tlb.length s2.c3)).setCell ⟨wy.heap.size, 3, none⟩ (.slice s2.a4 AM.wc.length s2.c4) := ⟨_, rfl⟩
                      rw [← hwG]
                      have hTG : Touch (fun k => k = wy.heap.size) w5 wG := by
                        rw [hwG]
                        exact Touch.set (Touch.set (Touch.set (Touch.set (Touch.same w5) _ _ (by rfl)) _ _ (by rfl)) _ _ (by rfl)) _ _ (by rfl)
                      have g0' : wG.cell? ⟨wy.heap.size, 0, none⟩ = some (.slice s2.a1 AM.mem.length s2.c1) := by rw [hwG]; simp [go_sem, n0']
                      have g1' : wG.cell? ⟨wy.heap.size, 1, none⟩ = some (.slice s2.a2 AM.pend.length s2.c2) := by rw [hwG]; simp [go_sem, n1']
                      have g2' : wG.cell? ⟨wy.heap.size, 2, none⟩ = some (.slice s2.a3 AM.tlb.length s2.c3) := by rw [hwG]; simp [go_sem, n2']
                      have g3' : wG.cell? ⟨wy.heap.size, 3, none⟩ = some (.slice s2.a4 AM.wc.length s2.c4) := by rw [hwG]; simp [go_sem, n3']
                      have hb3w := hTG.block w3.heap.size (by omega) (by omega)
                      have hown : ∀ k, (s2.mv AM).owns k → wE.heap.size ≤ k := fun k hk => (HR5.out.own k hk).1
                      have hrG : MRow wG wE.heap.size (s2.mv AM) AM := HR5.out.touch hTG (fun k hk e' => by have h1 := hown k hk; have e2 : k = wy.heap.size := e'; omega)
                      have hbG : Below wb.heap.size wb wG := Touch.below HB5.out.1 hTG HB5.out.1.size (fun k hk => by have e2 : k = wy.heap.size := hk; omega)
                      exact ⟨rfl, s2, ⟨g0', g1', g2', g3'⟩, hrG.rebase (by have := HBB.out.size; omega), fun k hk => .inr ⟨by have := hown k hk; omega, by have := hown k hk; omega⟩, hbG, by have := hTG.size; omega, (World.cell?_of_block hb3w).trans o1, (World.cell?_of_block hb3w).trans o2⟩
              case rest =>
                obtain ⟨wz, rfl⟩ : ∃ wz : World, wz = wc := ⟨_, rfl⟩
                obtain ⟨rfl, s2, ⟨c0, c1, c2, c3⟩, hrz, hoz, hbz, hsz, x1, x2⟩ := hcut
                obtain ⟨⟨m0, m1, m2, m3, n0, n1, n2, n3⟩, u0, u1, u2, u3, v0, v1, v2, v3⟩ := HRES.out wz hbz
                have HRZ : Hid (MRow wz b (s2.mv M2) M2) := hrz
                have HOZ : Hid (∀ k, (s2.mv M2).owns k → (s.mv M).owns k ∨ (wb.heap.size ≤ k ∧ k ≠ wy.heap.size)) := hoz
                have HBZ : Hid (Below wb.heap.size wb wz) := hbz
                have HBWZ : Hid (Below w.heap.size w wz) := HBB.out.trans (hbz.mono (by have := HZ.out; omega))
                have HFZ : Hid (∀ k, (s2.mv M2).owns k → k < w.heap.size ∨ w.heap.size + 3 ≤ k) := fun k hk => by
                  rcases hoz k hk with h' | h'
                  · exact .inl (HFAR.out k h')
                  · have := HZ.out; exact .inr (by omega)
                clear hrz hoz hbz
                have hW3 : w3.heap.size < wy.heap.size := by have := HZX.out; omega
                have HNZ : Hid (∀ wX : World, Touch (fun k => k = w.heap.size + 1 ∨ k = w.heap.size + 1 + 1) wz wX → ((wX.cell? ⟨wy.heap.size, 0, none⟩ = some (.slice s2.a1 M2.mem.length s2.c1) ∧ wX.cell? ⟨wy.heap.size, 1, none⟩ = some (.slice s2.a2 M2.pend.length s2.c2) ∧ wX.cell? ⟨wy.heap.size, 2, none⟩ = some (.slice s2.a3 M2.tlb.length s2.c3) ∧ wX.cell? ⟨wy.heap.size, 3, none⟩ = some (.slice s2.a4 M2.wc.length s2.c4)) ∧ wX.cell? ⟨w3.heap.size, 1, none⟩ = some (.int .i64 O) ∧ wX.cell? ⟨w3.heap.size, 2, none⟩ = some (.int .i64 P))) := fun wX hX => by
                  have h1 := hX.block wy.heap.size hsz (by have := HBY0.out; have := HZ.out; omega)
                  have h2 := hX.block w3.heap.size (by omega) (by have := HZ.out; omega)
                  exact ⟨⟨(World.cell?_of_block h1).trans c0, (World.cell?_of_block h1).trans c1, (World.cell?_of_block h1).trans c2, (World.cell?_of_block h1).trans c3⟩, (World.cell?_of_block h2).trans x1, (World.cell?_of_block h2).trans x2⟩
                go_upto_region 19 with fail
                refine wp_region_held_drew (S := fun wX => (wX.cell? ⟨wy.heap.size, 0, none⟩ = some (.slice s2.a1 M2.mem.length s2.c1) ∧ wX.cell? ⟨wy.heap.size, 1, none⟩ = some (.slice s2.a2 M2.pend.length s2.c2) ∧ wX.cell? ⟨wy.heap.size, 2, none⟩ = some (.slice s2.a3 M2.tlb.length s2.c3) ∧ wX.cell? ⟨wy.heap.size, 3, none⟩ = some (.slice s2.a4 M2.wc.length s2.c4)) ∧ wX.cell? ⟨w3.heap.size, 1, none⟩ = some (.int .i64 O) ∧ wX.cell? ⟨w3.heap.size, 2, none⟩ = some (.int .i64 P)) (by kernel_rfl) (HNZ.out _ (Touch.drewT (Touch.same wz))) (fun hHeld => ?_)
                refine tk 0 ?_
                refine tk 1 ?_
                refine tk 2 ?_
                refine tk 3 ?_
                refine tk 4 ?_
                refine tk 5 ?_
                refine tk 6 ?_
                refine tk 7 ?_
                refine tk 8 ?_
                refine tk 9 ?_
                refine tk 10 ?_
                refine wpAnyH_ready (rs := [11]) (by kernel_rfl) (by simp) ?_
                refine AllReadyH.cons rfl (fun K hK => ?_) AllReadyH.nil
                go_simp
                refine hK.out _ _ (HNZ.out _ (Touch.drewT (Touch.set (Touch.set (Touch.set (Touch.set (Touch.same wz) _ _ (.inl rfl)) _ _ (.inl rfl)) _ _ (.inl rfl)) _ _ (.inl rfl)))) (fun hHeld2 => ?_)
                clear hK K
                refine wpAnyH_ready (rs := [12]) (by kernel_rfl) (by simp) ?_
                refine AllReadyH.cons rfl (fun K hK => ?_) AllReadyH.nil
                go_simp
                refine hK.out _ _ (HNZ.out _ (Touch.drewT (Touch.set (Touch.set (Touch.set (Touch.set (Touch.set (Touch.set (Touch.set (Touch.set (Touch.same wz) _ _ (.inl rfl)) _ _ (.inl rfl)) _ _ (.inl rfl)) _ _ (.inl rfl)) _ _ (.inr rfl)) _ _ (.inr rfl)) _ _ (.inr rfl)) _ _ (.inr rfl)))) (fun hHeld3 => ?_)
                clear hK K
                refine wpAnyH_done (by kernel_rfl) ?_ _
                go_wp2_with fail
                obtain ⟨wF, hwF⟩ : ∃ wF, wF = ((((((((wz.setCell ⟨w.heap.size + 1, 0, none⟩ (.slice s2.a1 M2.mem.length s2.c1)).setCell ⟨w.heap.size + 1, 1, none⟩ (.slice s2.a2 M2.pend.length s2.c2)).setCell ⟨w.heap.size + 1, 2, none⟩ (.slice s2.a3 M2.tlb.length s2.c3)).setCell ⟨w.heap.size + 1, 3, none⟩ (.slice s2.a4 M2.wc.length s2.c4)).setCell ⟨w.heap.size + 1 + 1, 0, none⟩ (.int .i64 1)).setCell ⟨w.heap.size + 1 + 1, 1, none⟩ (.int .i64 (O + page % C))).setCell ⟨w.heap.size + 1 + 1, 2, none⟩ (.int .i64 P)).setCell ⟨w.heap.size + 1 + 1, 3, none⟩ (.int .i64 C)).drew := ⟨_, rfl⟩
                have f0 : wF.cell? ⟨w.heap.size + 1, 0, none⟩ = some (.slice s2.a1 M2.mem.length s2.c1) := by rw [hwF]; simp [go_sem, m0]
                have f1 : wF.cell? ⟨w.heap.size + 1, 1, none⟩ = some (.slice s2.a2 M2.pend.length s2.c2) := by rw [hwF]; simp [go_sem, m1]
                have f2 : wF.cell? ⟨w.heap.size + 1, 2, none⟩ = some (.slice s2.a3 M2.tlb.length s2.c3) := by rw [hwF]; simp [go_sem, m2]
                have f3 : wF.cell? ⟨w.heap.size + 1, 3, none⟩ = some (.slice s2.a4 M2.wc.length s2.c4) := by rw [hwF]; simp [go_sem, m3]
                have g0 : wF.cell? ⟨w.heap.size + 1 + 1, 0, none⟩ = some (.int .i64 1) := by rw [hwF]; simp [go_sem, n0]
                have g1 : wF.cell? ⟨w.heap.size + 1 + 1, 1, none⟩ = some (.int .i64 (O + page % C)) := by rw [hwF]; simp [go_sem, n1]
                have g2 : wF.cell? ⟨w.heap.size + 1 + 1, 2, none⟩ = some (.int .i64 P) := by rw [hwF]; simp [go_sem, n2]
                have g3 : wF.cell? ⟨w.heap.size + 1 + 1, 3, none⟩ = some (.int .i64 C) := by rw [hwF]; simp [go_sem, n3]
                have hTF : Touch (fun k => k = w.heap.size + 1 ∨ k = w.heap.size + 1 + 1) wz wF := by
                  rw [hwF]
                  exact (Touch.drewT (Touch.set (Touch.set (Touch.set (Touch.set (Touch.set (Touch.set (Touch.set (Touch.set (Touch.same wz) _ _ (.inl rfl)) _ _ (.inl rfl)) _ _ (.inl rfl)) _ _ (.inl rfl)) _ _ (.inr rfl)) _ _ (.inr rfl)) _ _ (.inr rfl)) _ _ (.inr rfl)))
                have hbF : Below w.heap.size w wF := Touch.below HBWZ.out hTF HBWZ.out.size (fun k hk => by omega)
                rw [← hwF]
                refine bodyPost_ret (v := .tuple #[.agg #[.slice s2.a1 M2.mem.length s2.c1, .slice s2.a2 M2.pend.length s2.c2, .slice s2.a3 M2.tlb.length s2.c3, .slice s2.a4 M2.wc.length s2.c4], .agg #[.int .i64 1, .int .i64 (O + page % C), .int .i64 P, .int .i64 C]]) (by simp [results, Try.results135, go_sem, f0, f1, f2, f3, g0, g1, g2, g3]) rfl ?_
                exact by rw [HRS.out]; exact ⟨s2, rfl, MRow.touch HRZ.out hTF (fun k hk hh => by have := HFZ.out k hk; omega), fun k hk => (HOZ.out k hk).elim .inl (fun h2 => .inr (by have := HZ.out; omega)), hbF⟩
        · have k2 : (K == 2) = false := by simp; omega
          have k3 : (K == 3) = false := by simp; omega
          have HE : Hid (RES = (M, ⟨3, 0, 0, 0⟩)) := by
            have h1 := HEN.out
            unfold endM at h1
            rw [← HK.out, if_neg h0, if_neg hm] at h1
            exact h1
          clear hm h0 hlead
          go_wp2_with fail
          obtain ⟨wF, hwF⟩ : ∃ wF, wF = ((((((((wy.setCell ⟨w.heap.size + 1, 0, none⟩ (.slice s.a1 M.mem.length s.c1)).setCell ⟨w.heap.size + 1, 1, none⟩ (.slice s.a2 M.pend.length s.c2)).setCell ⟨w.heap.size + 1, 2, none⟩ (.slice s.a3 M.tlb.length s.c3)).setCell ⟨w.heap.size + 1, 3, none⟩ (.slice s.a4 M.wc.length s.c4)).setCell ⟨w.heap.size + 1 + 1, 0, none⟩ (.int .i64 3)).setCell ⟨w.heap.size + 1 + 1, 1, none⟩ (.int .i64 0)).setCell ⟨w.heap.size + 1 + 1, 2, none⟩ (.int .i64 0)).setCell ⟨w.heap.size + 1 + 1, 3, none⟩ (.int .i64 0)) := ⟨_, rfl⟩
          have f0 : wF.cell? ⟨w.heap.size + 1, 0, none⟩ = some (.slice s.a1 M.mem.length s.c1) := by rw [hwF]; simp [go_sem, m0]
          have f1 : wF.cell? ⟨w.heap.size + 1, 1, none⟩ = some (.slice s.a2 M.pend.length s.c2) := by rw [hwF]; simp [go_sem, m1]
          have f2 : wF.cell? ⟨w.heap.size + 1, 2, none⟩ = some (.slice s.a3 M.tlb.length s.c3) := by rw [hwF]; simp [go_sem, m2]
          have f3 : wF.cell? ⟨w.heap.size + 1, 3, none⟩ = some (.slice s.a4 M.wc.length s.c4) := by rw [hwF]; simp [go_sem, m3]
          have g0 : wF.cell? ⟨w.heap.size + 1 + 1, 0, none⟩ = some (.int .i64 3) := by rw [hwF]; simp [go_sem, n0]
          have g1 : wF.cell? ⟨w.heap.size + 1 + 1, 1, none⟩ = some (.int .i64 0) := by rw [hwF]; simp [go_sem, n1]
          have g2 : wF.cell? ⟨w.heap.size + 1 + 1, 2, none⟩ = some (.int .i64 0) := by rw [hwF]; simp [go_sem, n2]
          have g3 : wF.cell? ⟨w.heap.size + 1 + 1, 3, none⟩ = some (.int .i64 0) := by rw [hwF]; simp [go_sem, n3]
          have hTF : Touch (fun k => k = w.heap.size + 1 ∨ k = w.heap.size + 1 + 1) wy wF := by
            rw [hwF]
            exact (((((((((Touch.same wy).set _ _ (.inl rfl)).set _ _ (.inl rfl)).set _ _ (.inl rfl)).set _ _ (.inl rfl)).set _ _ (.inr rfl)).set _ _ (.inr rfl)).set _ _ (.inr rfl)).set _ _ (.inr rfl))
          have hbF : Below w.heap.size w wF := Touch.below HBWY.out hTF HBWY.out.size (fun k hk => by omega)
          rw [← hwF]
          refine bodyPost_ret (v := .tuple #[.agg #[.slice s.a1 M.mem.length s.c1, .slice s.a2 M.pend.length s.c2, .slice s.a3 M.tlb.length s.c3, .slice s.a4 M.wc.length s.c4], .agg #[.int .i64 3, .int .i64 0, .int .i64 0, .int .i64 0]]) (by simp [results, Try.results135, go_sem, f0, f1, f2, f3, g0, g1, g2, g3]) rfl ?_
          rw [HE.out]
          exact ⟨s, rfl, MRow.touch (HM.out wy HBY.out) hTF (fun k hk hh => by have := HFAR.out k hk; omega), fun k hk => .inl hk, hbF⟩
end Go.Proofs.Ytnmhkgmmpkjjeab
