import Derived.Test.YtnmhkgmmpkjjeabUAddT
import Derived.Test.YtnmhkgmmpkjjeabUBegin
namespace Go.Proofs.Ytnmhkgmmpkjjeab
open Go.ChangeShapes Go.WideShapes Go.ChangeAt Go.RowKit
set_option linter.unusedVariables false
attribute [local go_sem ↓] Go.wp_at_zero Go.wp_at_succ

theorem addTlbM_eq (M : Mach) (e : TlbE) : addTlbM M e = ⟨M.mem, M.pend, addTen M.tlb e, M.wc⟩ := by
  by_cases h : (anyR (fun i => tlbEq (eAt eTE M.tlb i) e) M.tlb.length || decide (256 ≤ M.tlb.length)) = true
  · have h1 : addTen M.tlb e = M.tlb := if_pos h
    have h2 : addTlbM M e = M := if_pos h
    rw [h1, h2]
  · have h1 : addTen M.tlb e = M.tlb ++ [e] := if_neg h
    have h2 : addTlbM M e = ⟨M.mem, M.pend, M.tlb ++ [e], M.wc⟩ := if_neg h
    rw [h1, h2]
theorem addWcM_eq (M : Mach) (e : WcE) : addWcM M e = ⟨M.mem, M.pend, M.tlb, addTab M.wc e⟩ := by
  by_cases h : (anyR (fun i => wcEq (eAt eWE M.wc i) e) M.wc.length || decide (256 ≤ M.wc.length)) = true
  · have h1 : addTab M.wc e = M.wc := if_pos h
    have h2 : addWcM M e = M := if_pos h
    rw [h1, h2]
  · have h1 : addTab M.wc e = M.wc ++ [e] := if_neg h
    have h2 : addWcM M e = ⟨M.mem, M.pend, M.tlb, M.wc ++ [e]⟩ := if_neg h
    rw [h1, h2]
theorem dKind_2 (l x : Int) (h : dKind l x = 2) : l = 2 := by
  unfold dKind at h
  repeat' split at h
  all_goals first | omega | simp_all
theorem dKind_is3 (l x : Int) (h : dKind l x = 3) : l = 3 := by
  unfold dKind at h
  repeat' split at h
  all_goals first | omega | simp_all

/-- The end at a word that leads to no table and maps nothing. -/
theorem end_none (gu b0 B : Nat) (L : Bool) (u : UV) (M : Mach) (page choice : Int) (at' : WcE) (K O P : Int) (hK : ¬ K = 2 ∧ ¬ K = 3) (w : World) (h : UM w gu b0 B L u M) :
    Calls Try.prog 126 #[.pointer (some ⟨gu, 0, none⟩), tabV at', .agg #[.int .i64 K, .int .i64 O, .int .i64 P], .int .i64 page, .int .i64 choice] w fun r w' => r = .returned (hitV (if K = 0 then ⟨0, 0, 0, 0⟩ else ⟨3, 0, 0, 0⟩)) ∧ Below w.heap.size w w' := by
  unfold tabV hitV
  generalize 16 * cov at'.level = X1
  have k2 : (K != 2) = true := by simpa using hK.1
  have k3 : (K != 3) = true := by simpa using hK.2
  by_cases h0 : K = 0
  · subst h0
    clear hK k2 k3
    go_enter Try.func126, Try.ntmps126
    go_wp2_with fail
    exact bodyPost_ret (v := .agg #[.int .i64 0, .int .i64 0, .int .i64 0, .int .i64 0]) (by simp [results, Try.results126, go_sem]) rfl ⟨by simp, ((((Below.refl _ _).alloc (Nat.le_refl _) _).alloc (by simp) _).alloc (by simp <;> omega) _)⟩
  · have k0 : (K == 0) = false := by simpa using h0
    rw [if_neg h0]
    clear hK h0
    go_enter Try.func126, Try.ntmps126
    go_wp2_with fail
    exact bodyPost_ret (v := .agg #[.int .i64 3, .int .i64 0, .int .i64 0, .int .i64 0]) (by simp [results, Try.results126, go_sem]) rfl ⟨by simp, ((((Below.refl _ _).alloc (Nat.le_refl _) _).alloc (by simp) _).alloc (by simp <;> omega) _)⟩

set_option maxHeartbeats 2000000 in
theorem end_map (gu b0 B : Nat) (L : Bool) (u : UV) (M : Mach) (page choice : Int) (at' : WcE) (K O P S : Int) (hK : K = 2 ∨ K = 3) (hS : S = 1 ∨ S = 16) (hcov : cov at'.level = S) (hO : 0 ≤ O ∧ O < 65536) (hp0 : 0 ≤ page) (hp1 : page < 4096) (hc0 : 0 ≤ choice) (hc1 : choice ≤ 65535) (hn : M.tlb.length ≤ 256) (w : World) (hB : B ≤ w.heap.size) (h : UM w gu b0 B L u M) :
    Calls Try.prog 126 #[.pointer (some ⟨gu, 0, none⟩), tabV at', .agg #[.int .i64 K, .int .i64 O, .int .i64 P], .int .i64 page, .int .i64 choice] w fun r w' => r = .returned (hitV ⟨1, O + page % S, P, S⟩) ∧ ∃ u', UStep w w' gu b0 B L u u' (if bitI choice 6 then addTlbM M ⟨page - page % S, S, O, P, at'.doom⟩ else M) := by
  have hh := has_any choice 6 64 rfl (by omega) hc0 hc1
  generalize bitI choice 6 = bt at hh ⊢
  have hep := entryPages_any at'.level
  rw [hcov] at hep
  unfold tabV hitV
  have HX1 : Hid (16 * cov at'.level = 16 * S) := by rw [hcov]; exact rfl
  generalize 16 * cov at'.level = X1
  obtain ⟨wb, hwb⟩ : ∃ wb, wb = ((w.alloc (.cells #[.int .i64 at'.page, .int .i64 X1, .bool at'.doom, .int .i64 at'.level, .int .i64 at'.table] 170)).alloc (.cells #[.int .i64 K, .int .i64 O, .int .i64 P] 82)).alloc (.cells #[.int .i64 0, .int .i64 0, .int .i64 0, .int .i64 0] 37) := ⟨_, rfl⟩
  have hbb : Below w.heap.size w wb := by rw [hwb]; exact (((Below.refl _ _).alloc (Nat.le_refl _) _).alloc (by simp) _).alloc (by simp <;> omega) _
  have hzb : wb.heap.size = w.heap.size + 3 := by rw [hwb]; simp
  have HQ : Hid (∀ wX, Below wb.heap.size wb wX → wX.cell? ⟨w.heap.size, 2, none⟩ = some (.bool at'.doom) ∧ wX.cell? ⟨w.heap.size, 3, none⟩ = some (.int .i64 at'.level) ∧ wX.cell? ⟨w.heap.size + 1, 1, none⟩ = some (.int .i64 O) ∧ wX.cell? ⟨w.heap.size + 1, 2, none⟩ = some (.int .i64 P)) := fun wX hX =>
    ⟨(hX.cell (by simp; omega)).trans (by rw [hwb]; simp [go_sem]), (hX.cell (by simp; omega)).trans (by rw [hwb]; simp [go_sem]), (hX.cell (by simp; omega)).trans (by rw [hwb]; simp [go_sem]), (hX.cell (by simp; omega)).trans (by rw [hwb]; simp [go_sem])⟩
  have HWI : Hid (∀ wX, Below wb.heap.size wb wX → Calls Try.prog 127 #[.pointer (some ⟨w.heap.size, 0, none⟩), .int .i64 page, .int .i64 S] wX fun e w' => e = .returned (.agg #[.int .i64 (page - page % S), .int .i64 S, .bool at'.doom]) ∧ Below wX.heap.size wX w') := fun wX hX => within_any w.heap.size 0 page S at'.doom hp0 (by omega) (by omega) wX (by have := hX.size; omega) (HQ.out wX hX).1
  have HWB : Hid (wb = _) := hwb
  have HBB : Hid (Below _ w wb) := hbb
  have HZ : Hid (wb.heap.size = w.heap.size + 3) := hzb
  have HUM : Hid _ := h
  obtain ⟨q1, q2, q3, q4⟩ := HQ.out wb (Below.refl _ _)
  rw [hwb] at q1 q2 q3 q4
  clear hwb hbb hzb h q1 q2 q3 q4
  have HADD : Hid (∀ wX, Below w.heap.size w wX → Calls Try.prog 180 #[.slice u.a4 M.tlb.length u.c4, .agg #[.int .i64 (page - page % S), .int .i64 S, .bool at'.doom, .int .i64 O, .int .i64 P], .int .i64 256] wX fun r w' => ∃ a' c', r = .returned (.slice a' (addTen M.tlb ⟨page - page % S, S, O, P, at'.doom⟩).length c') ∧ ERow eTE w' B (.slice a' (addTen M.tlb ⟨page - page % S, S, O, P, at'.doom⟩).length c') (addTen M.tlb ⟨page - page % S, S, O, P, at'.doom⟩) ∧ wX.grownBy w' u.o4 ∧ (∀ k, oOf a' = some k → u.o4 = some k ∨ wX.heap.size ≤ k)) := fun wX hX => addTen_any u.a4 u.c4 B M.tlb ⟨page - page % S, S, O, P, at'.doom⟩ wX hn (Nat.le_trans hB hX.size) (HUM.out.t.below hX)
  have hmod0 : 0 ≤ page % S := Int.emod_nonneg _ (by omega)
  have hmod1 : page % S ≤ page := by rcases hS with rfl | rfl <;> omega
  have HOUT : Hid (O + page - (page - page % S) = O + page % S) := by show _ = _; omega
  rcases hK with rfl | rfl
  all_goals
    go_enter Try.func126, Try.ntmps126
    go_upto_region 5 with fail
    rw [← HWB.out]
    go_cut [11] (fun d wx => ∃ E, d = .pointer (some ⟨E, 0, none⟩) ∧ wx.cell? ⟨E, 0, none⟩ = some (.int .i64 (page - page % S)) ∧ wx.cell? ⟨E, 1, none⟩ = some (.int .i64 S) ∧ wx.cell? ⟨E, 2, none⟩ = some (.bool at'.doom) ∧ wx.cell? ⟨E, 3, none⟩ = some (.int .i64 O) ∧ wx.cell? ⟨E, 4, none⟩ = some (.int .i64 P) ∧ wb.heap.size ≤ E ∧ E < wx.heap.size ∧ Below wb.heap.size wb wx)
    case first =>
      obtain ⟨q1, q2, q3, q4⟩ := HQ.out wb (Below.refl _ _)
      go_region_held3 (fun wX => wX.cell? ⟨w.heap.size, 2, none⟩ = some (.bool at'.doom) ∧ wX.cell? ⟨w.heap.size, 3, none⟩ = some (.int .i64 at'.level) ∧ wX.cell? ⟨w.heap.size + 1, 1, none⟩ = some (.int .i64 O) ∧ wX.cell? ⟨w.heap.size + 1, 2, none⟩ = some (.int .i64 P))
        ((refine HQ.out _ ?_; repeat (first | exact Below.refl _ _ | with_reducible refine Below.drew ?_ | with_reducible refine Below.setCell ?_ (by first | omega | (simp <;> omega)) _ | with_reducible refine Below.alloc ?_ (by first | omega | (simp <;> omega)) _ | refine Below.trans ?_ (hb1.mono (by first | omega | (simp <;> omega))))))
        (first
          | (go_at_call 173; refine (hep _).mono ?_; rintro e wE ⟨rfl, rfl⟩)
          | (go_at_call 127; refine (HWI.out _ (by repeat (first | exact Below.refl _ _ | with_reducible refine Below.drew ?_ | with_reducible refine Below.alloc ?_ (by first | omega | (simp <;> omega)) _))).mono ?_; rintro e w1 ⟨rfl, hb1⟩; obtain ⟨hc1, hf1⟩ := bcell hb1; have hz1 := hb1.size; simp at hz1))
      all_goals
        go_wp2_with fail
        go_meet
        case rel =>
          refine ⟨_, rfl, ?_, ?_, ?_, ?_, ?_, ?_, ?_, ?_⟩
          · simp [go_sem, hc1]
          · simp [go_sem, hc1]
          · simp [go_sem, hc1]
          · simp [go_sem, hc1]
          · simp [go_sem, hc1]
          · first | omega | (simp <;> omega)
          · first | omega | (simp <;> omega)
          · repeat (first | exact Below.refl _ _ | with_reducible refine Below.drew ?_ | with_reducible refine Below.setCell ?_ (by first | omega | (simp <;> omega)) _ | with_reducible refine Below.alloc ?_ (by first | omega | (simp <;> omega)) _ | refine Below.trans ?_ (hb1.mono (by first | omega | (simp <;> omega))))
    case rest =>
      obtain ⟨wx, rfl⟩ : ∃ wx : World, wx = wc := ⟨_, rfl⟩
      obtain ⟨E, rfl, y0, y1, y2, y3, y4, hE0, hE1, hbx⟩ := hcut
      have hzb := HZ.out
      have bx : Below w.heap.size w wx := HBB.out.trans (hbx.mono (by omega))
      have ux := HUM.out.below bx
      have r0 : wx.cell? ⟨w.heap.size + 2, 0, none⟩ = some (.int .i64 0) := (hbx.cell (by simp; omega)).trans (by rw [HWB.out]; simp [go_sem])
      have r1 : wx.cell? ⟨w.heap.size + 2, 1, none⟩ = some (.int .i64 0) := (hbx.cell (by simp; omega)).trans (by rw [HWB.out]; simp [go_sem])
      have r2 : wx.cell? ⟨w.heap.size + 2, 2, none⟩ = some (.int .i64 0) := (hbx.cell (by simp; omega)).trans (by rw [HWB.out]; simp [go_sem])
      have r3 : wx.cell? ⟨w.heap.size + 2, 3, none⟩ = some (.int .i64 0) := (hbx.cell (by simp; omega)).trans (by rw [HWB.out]; simp [go_sem])
      have g0 : wx.frozen? ⟨w.heap.size + 2, 0, none⟩ = false := (hbx.frozen (by simp; omega)).trans (by rw [HWB.out]; simp [go_sem])
      have g1 : wx.frozen? ⟨w.heap.size + 2, 1, none⟩ = false := (hbx.frozen (by simp; omega)).trans (by rw [HWB.out]; simp [go_sem])
      have g2 : wx.frozen? ⟨w.heap.size + 2, 2, none⟩ = false := (hbx.frozen (by simp; omega)).trans (by rw [HWB.out]; simp [go_sem])
      have g3 : wx.frozen? ⟨w.heap.size + 2, 3, none⟩ = false := (hbx.frozen (by simp; omega)).trans (by rw [HWB.out]; simp [go_sem])
      have lt := HUM.out.lt
      have HUX : Hid _ := ux
      have HBX : Hid (Below w.heap.size w wx) := bx
      cases bt
      · have HIF : Hid ((if false = true then addTlbM M ⟨page - page % S, S, O, P, at'.doom⟩ else M) = M) := rfl
        have hht := hit_any E 0 page (page - page % S) S O P hp0 (by omega) (by omega) (by omega) hO.1 (by omega) wx hE1 y0 y1 y3 y4
        clear ux bx hbx y0 y1 y2 y3 y4
        go_wp2_with (go_at_call 174; refine (hh _).mono ?_; rintro e wE ⟨rfl, hwE⟩; obtain rfl := hwE.symm)
        refine hht.mono ?_
        rintro e w2 ⟨rfl, hb2⟩
        have sx := hb2.size
        have z0 := (hb2.cell (p := ⟨w.heap.size + 2, 0, none⟩) (by simp; omega)).trans r0
        have z1 := (hb2.cell (p := ⟨w.heap.size + 2, 1, none⟩) (by simp; omega)).trans r1
        have z2 := (hb2.cell (p := ⟨w.heap.size + 2, 2, none⟩) (by simp; omega)).trans r2
        have z3 := (hb2.cell (p := ⟨w.heap.size + 2, 3, none⟩) (by simp; omega)).trans r3
        have f0 := (hb2.frozen (p := ⟨w.heap.size + 2, 0, none⟩) (by simp; omega)).trans g0
        have f1 := (hb2.frozen (p := ⟨w.heap.size + 2, 1, none⟩) (by simp; omega)).trans g1
        have f2 := (hb2.frozen (p := ⟨w.heap.size + 2, 2, none⟩) (by simp; omega)).trans g2
        have f3 := (hb2.frozen (p := ⟨w.heap.size + 2, 3, none⟩) (by simp; omega)).trans g3
        have HB2 : Hid (Below w.heap.size w w2) := HBX.out.trans (hb2.mono (by omega))
        clear hb2 r0 r1 r2 r3 g0 g1 g2 g3 hht
        go_wp2_with fail
        refine bodyPost_ret (v := .agg #[.int .i64 1, .int .i64 (O + page - (page - page % S)), .int .i64 P, .int .i64 S]) (by simp [results, Try.results126, go_sem, z0, z1, z2, z3]) rfl ⟨by rw [HOUT.out], u, ?_⟩
        exact UStep.refl HUM.out ((((HB2.out.setCell (by simp <;> omega) _).setCell (by simp <;> omega) _).setCell (by simp <;> omega) _).setCell (by simp <;> omega) _)
      · have HIF : Hid ((if true = true then addTlbM M ⟨page - page % S, S, O, P, at'.doom⟩ else M) = ⟨M.mem, M.pend, addTen M.tlb ⟨page - page % S, S, O, P, at'.doom⟩, M.wc⟩) := (addTlbM_eq M _)
        have q3 := ux.q3
        have f3' := ux.f3
        have HE : Hid (∀ wX : World, wX.heap[E]? = wx.heap[E]? → wX.cell? ⟨E, 0, none⟩ = some (.int .i64 (page - page % S)) ∧ wX.cell? ⟨E, 1, none⟩ = some (.int .i64 S) ∧ wX.cell? ⟨E, 2, none⟩ = some (.bool at'.doom) ∧ wX.cell? ⟨E, 3, none⟩ = some (.int .i64 O) ∧ wX.cell? ⟨E, 4, none⟩ = some (.int .i64 P)) := fun wX hX =>
          ⟨(World.cell?_of_block hX).trans y0, (World.cell?_of_block hX).trans y1, (World.cell?_of_block hX).trans y2, (World.cell?_of_block hX).trans y3, (World.cell?_of_block hX).trans y4⟩
        have HO4 : Hid (∀ k, u.o4 = some k → k < w.heap.size) := fun k hk => (HUM.out.t.ownA k hk).2
        have HR : Hid (∀ wX : World, wX.heap[w.heap.size + 2]? = wx.heap[w.heap.size + 2]? → wX.cell? ⟨w.heap.size + 2, 0, none⟩ = some (.int .i64 0) ∧ wX.cell? ⟨w.heap.size + 2, 1, none⟩ = some (.int .i64 0) ∧ wX.cell? ⟨w.heap.size + 2, 2, none⟩ = some (.int .i64 0) ∧ wX.cell? ⟨w.heap.size + 2, 3, none⟩ = some (.int .i64 0) ∧ wX.frozen? ⟨w.heap.size + 2, 0, none⟩ = false ∧ wX.frozen? ⟨w.heap.size + 2, 1, none⟩ = false ∧ wX.frozen? ⟨w.heap.size + 2, 2, none⟩ = false ∧ wX.frozen? ⟨w.heap.size + 2, 3, none⟩ = false) := fun wX hX =>
          ⟨(World.cell?_of_block hX).trans r0, (World.cell?_of_block hX).trans r1, (World.cell?_of_block hX).trans r2, (World.cell?_of_block hX).trans r3, (World.frozen?_of_block hX).trans g0, (World.frozen?_of_block hX).trans g1, (World.frozen?_of_block hX).trans g2, (World.frozen?_of_block hX).trans g3⟩
        have hne : gu ≠ E := by omega
        clear ux bx hbx r0 r1 r2 r3 g0 g1 g2 g3
        go_upto_region 7 with (go_at_call 174; refine (hh _).mono ?_; rintro e wE ⟨rfl, hwE⟩; obtain rfl := hwE.symm)
        go_region_with (go_at_call 180; refine (HADD.out _ (by first | exact HBX.out | exact HBX.out.drew)).mono ?_; rintro e w1 ⟨a', c', rfl, hr1, hg1, ho1⟩; have hE2 := hg1.block E (by simpa using hE1) (fun e => by have := HO4.out E e.symm; omega); have hG2 := hg1.block gu (by simp; omega) (fun e => HUM.out.ap.g4 e.symm); have x3 := (World.cell?_of_block (a := ⟨gu, 3, none⟩) hG2).trans q3; have x3f := (World.frozen?_of_block (a := ⟨gu, 3, none⟩) hG2).trans f3')
        all_goals
          have hE3 : (w1.setCell ⟨gu, 3, none⟩ (.slice a' (addTen M.tlb ⟨page - page % S, S, O, P, at'.doom⟩).length c')).heap[E]? = wx.heap[E]? := (Below.heap_setCell _ _ _ _ (by exact hne.symm)).trans hE2
          have hR3 : (w1.setCell ⟨gu, 3, none⟩ (.slice a' (addTen M.tlb ⟨page - page % S, S, O, P, at'.doom⟩).length c')).heap[w.heap.size + 2]? = wx.heap[w.heap.size + 2]? := (Below.heap_setCell _ _ _ _ (by show w.heap.size + 2 ≠ gu; omega)).trans (hg1.block _ (by simp; omega) (fun e => by have := HO4.out _ e.symm; omega))
          have st := UM.newTlb (HUX.out.below (Below.refl _ _).drew) hg1 a' c' _ hr1 ho1
          have s1 := hg1.size
          simp at s1
          obtain ⟨wn, hwn⟩ : ∃ wn, wn = w1.setCell ⟨gu, 3, none⟩ (.slice a' (addTen M.tlb ⟨page - page % S, S, O, P, at'.doom⟩).length c') := ⟨_, rfl⟩
          have hzn : wn.heap.size = w1.heap.size := by rw [hwn]; simp
          rw [← hwn] at hE3 hR3 st ⊢
          obtain ⟨y0, y1, y2, y3, y4⟩ := HE.out wn hE3
          obtain ⟨r0, r1, r2, r3, g0, g1, g2, g3⟩ := HR.out wn hR3
          have hht := hit_any E 0 page (page - page % S) S O P hp0 (by omega) (by omega) (by omega) hO.1 (by omega) wn (by omega) y0 y1 y3 y4
          have HST : Hid _ := st
          clear st hE3 hR3 hE2 hG2 x3 x3f hr1 hg1 ho1 y0 y1 y2 y3 y4 hwn
          go_wp2_with fail
          refine hht.mono ?_
          rintro e w2 ⟨rfl, hb2⟩
          have sx := hb2.size
          have z0 := (hb2.cell (p := ⟨w.heap.size + 2, 0, none⟩) (by simp; omega)).trans r0
          have z1 := (hb2.cell (p := ⟨w.heap.size + 2, 1, none⟩) (by simp; omega)).trans r1
          have z2 := (hb2.cell (p := ⟨w.heap.size + 2, 2, none⟩) (by simp; omega)).trans r2
          have z3 := (hb2.cell (p := ⟨w.heap.size + 2, 3, none⟩) (by simp; omega)).trans r3
          have f0 := (hb2.frozen (p := ⟨w.heap.size + 2, 0, none⟩) (by simp; omega)).trans g0
          have f1 := (hb2.frozen (p := ⟨w.heap.size + 2, 1, none⟩) (by simp; omega)).trans g1
          have f2 := (hb2.frozen (p := ⟨w.heap.size + 2, 2, none⟩) (by simp; omega)).trans g2
          have f3 := (hb2.frozen (p := ⟨w.heap.size + 2, 3, none⟩) (by simp; omega)).trans g3
          have HB2 : Hid (Below wn.heap.size wn w2) := hb2
          clear hb2 r0 r1 r2 r3 g0 g1 g2 g3 hht
          go_wp2_with fail
          refine bodyPost_ret (v := .agg #[.int .i64 1, .int .i64 (O + page - (page - page % S)), .int .i64 P, .int .i64 S]) (by simp [results, Try.results126, go_sem, z0, z1, z2, z3]) rfl ⟨by rw [HOUT.out], ⟨u.a1, u.c1, u.a2, u.n2, u.c2, u.a3, u.c3, a', c', u.a5, u.c5⟩, ?_⟩
          show UStep _ _ _ _ _ _ _ _ (addTlbM M _)
          rw [addTlbM_eq]
          refine UStep.seal HBX.out.drew HUM.out HST.out ⟨HB2.out.os, HB2.out.tape, HB2.out.output, by simpa using HB2.out.size, fun k hk hn2 => ?_⟩
          have hk2 : k ≠ w.heap.size + 1 + 1 := fun e => hn2 (by subst e; simp; omega)
          rw [Below.heap_setCell _ _ _ _ (by exact hk2), Below.heap_setCell _ _ _ _ (by exact hk2), Below.heap_setCell _ _ _ _ (by exact hk2), Below.heap_setCell _ _ _ _ (by exact hk2)]
          exact HB2.out.block k hk
end Go.Proofs.Ytnmhkgmmpkjjeab
