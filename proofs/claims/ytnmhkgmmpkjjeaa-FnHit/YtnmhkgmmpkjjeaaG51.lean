import Derived.Test.YtnmhkgmmpkjjeaaG50
import Derived.Test.YtnmhkgmmpkjjeaaG30
import Derived.Test.YtnmhkgmmpkjjeaaG44
import Derived.Test.YtnmhkgmmpkjjeaaG46
import Derived.Test.YtnmhkgmmpkjjeaaG47
namespace Go.Proofs.Ytnmhkgmmpkjjeaa
open Go.ChangeShapes Go.WideShapes Go.ChangeAt Go.RowKit
set_option linter.unusedVariables false
attribute [local go_sem ↓] Go.wp_at_zero Go.wp_at_succ

set_option maxRecDepth 100000 in
set_option maxHeartbeats 4000000 in
theorem implAcc_any (s : SV) (M : Mach) (b : Nat) (page need choice : Int) (w : World) (hk : MOk M) (hs : M.Small) (h : MRow w b (s.mv M) M) :
    Calls Try.prog 14 #[.agg #[.slice s.a1 M.mem.length s.c1, .slice s.a2 M.pend.length s.c2, .slice s.a3 M.tlb.length s.c3, .slice s.a4 M.wc.length s.c4], .int .i64 page, .int .i64 need, .int .i64 choice] w fun e w' => ∃ s' : SV, e = .returned (.tuple #[.agg #[.slice s'.a1 (accM M page need choice).1.mem.length s'.c1, .slice s'.a2 (accM M page need choice).1.pend.length s'.c2, .slice s'.a3 (accM M page need choice).1.tlb.length s'.c3, .slice s'.a4 (accM M page need choice).1.wc.length s'.c4], seenV (accM M page need choice).2]) ∧ MRow w' w.heap.size (s'.mv (accM M page need choice).1) (accM M page need choice).1 ∧ (s'.mv (accM M page need choice).1).apart ∧ Below w.heap.size w w' := by
  obtain ⟨wb, hwb⟩ : ∃ wb, wb = ((w.alloc (.cells #[.slice s.a1 M.mem.length s.c1, .slice s.a2 M.pend.length s.c2, .slice s.a3 M.tlb.length s.c3, .slice s.a4 M.wc.length s.c4] 38)).alloc (.cells #[.slice none 0 0, .slice none 0 0, .slice none 0 0, .slice none 0 0] 38)).alloc (.cells #[.int .i64 0, .int .i64 0, .int .i64 0, .int .i64 0] 41) := ⟨_, rfl⟩
  have hbb : Below w.heap.size w wb := by rw [hwb]; exact (((Below.refl _ _).alloc (Nat.le_refl _) _).alloc (by simp) _).alloc (by simp <;> omega) _
  have hzb : wb.heap.size = w.heap.size + 3 := by rw [hwb]; simp
  have HBOX : Hid (∀ wX, Below wb.heap.size wb wX → (wX.cell? ⟨w.heap.size, 0, none⟩ = some (.slice s.a1 M.mem.length s.c1) ∧ wX.cell? ⟨w.heap.size, 1, none⟩ = some (.slice s.a2 M.pend.length s.c2) ∧ wX.cell? ⟨w.heap.size, 2, none⟩ = some (.slice s.a3 M.tlb.length s.c3) ∧ wX.cell? ⟨w.heap.size, 3, none⟩ = some (.slice s.a4 M.wc.length s.c4)) ∧ (wX.cell? ⟨w.heap.size + 1, 0, none⟩ = some (.slice none 0 0) ∧ wX.cell? ⟨w.heap.size + 1, 1, none⟩ = some (.slice none 0 0) ∧ wX.cell? ⟨w.heap.size + 1, 2, none⟩ = some (.slice none 0 0) ∧ wX.cell? ⟨w.heap.size + 1, 3, none⟩ = some (.slice none 0 0)) ∧ (wX.frozen? ⟨w.heap.size + 1, 0, none⟩ = false ∧ wX.frozen? ⟨w.heap.size + 1, 1, none⟩ = false ∧ wX.frozen? ⟨w.heap.size + 1, 2, none⟩ = false ∧ wX.frozen? ⟨w.heap.size + 1, 3, none⟩ = false) ∧ (wX.cell? ⟨w.heap.size + 1 + 1, 0, none⟩ = some (.int .i64 0) ∧ wX.cell? ⟨w.heap.size + 1 + 1, 1, none⟩ = some (.int .i64 0) ∧ wX.cell? ⟨w.heap.size + 1 + 1, 2, none⟩ = some (.int .i64 0) ∧ wX.cell? ⟨w.heap.size + 1 + 1, 3, none⟩ = some (.int .i64 0)) ∧ (wX.frozen? ⟨w.heap.size + 1 + 1, 0, none⟩ = false ∧ wX.frozen? ⟨w.heap.size + 1 + 1, 1, none⟩ = false ∧ wX.frozen? ⟨w.heap.size + 1 + 1, 2, none⟩ = false ∧ wX.frozen? ⟨w.heap.size + 1 + 1, 3, none⟩ = false) ∧ w.heap.size + 1 + 1 < wX.heap.size) := fun wX hX => by
    have hsz := hX.size
    refine ⟨⟨?_, ?_, ?_, ?_⟩, ⟨?_, ?_, ?_, ?_⟩, ⟨?_, ?_, ?_, ?_⟩, ⟨?_, ?_, ?_, ?_⟩, ⟨?_, ?_, ?_, ?_⟩, by omega⟩
    iterate 8 (exact (hX.cell (by simp; omega)).trans (by rw [hwb]; simp [go_sem]))
    iterate 4 (exact (hX.frozen (by simp; omega)).trans (by rw [hwb]; simp [go_sem]))
    iterate 4 (exact (hX.cell (by simp; omega)).trans (by rw [hwb]; simp [go_sem]))
    iterate 4 (exact (hX.frozen (by simp; omega)).trans (by rw [hwb]; simp [go_sem]))
  have HWB : Hid (wb = _) := hwb
  have HBB : Hid (Below _ w wb) := hbb
  have HZ : Hid (wb.heap.size = w.heap.size + 3) := hzb
  have hvm := validM_any s M b wb hs (h.below hbb)
  rw [hwb] at hvm
  have hpk := validPage_any page
  have hnk := validNeed_any need
  have hck := validChoice_any choice
  have HM : Hid (∀ wX, Below wb.heap.size wb wX → MRow wX b (s.mv M) M) := fun wX hX => h.below (hbb.trans (hX.mono (by omega)))
  have hsm := accM_small hk hs page need choice
  have hno : accOk M page need choice = false → accM M page need choice = (zM, ⟨0, 0, 0, 0⟩) := fun e => by unfold accM; rw [e]; rfl
  have hyes : accOk M page need choice = true → accM M page need choice = (accN M page choice, accS M page need choice) := fun e => by unfold accM; rw [e]; rfl
  have hao : accOk M page need choice = (validB M && pageOk page && choiceOk choice && needOk need) := rfl
  clear hwb hbb hzb h
  cases hv : validB M
  · rw [hno (by rw [hao, hv]; rfl)]
    rw [hv] at hvm
    clear hno hyes hao hsm hv
    go_enter Try.func14, Try.ntmps14
    go_wp2_with fail
    refine hvm.mono ?_
    rintro e w1 ⟨rfl, hb1'⟩
    have hb1 : Below wb.heap.size wb w1 := by rw [HWB.out]; exact hb1'
    obtain ⟨⟨q0, q1, q2, q3⟩, ⟨r0, r1, r2, r3⟩, ⟨z0, z1, z2, z3⟩, ⟨p0, p1, p2, p3⟩, ⟨x0, x1, x2, x3⟩, N1⟩ := HBOX.out w1 hb1
    have HB1 : Hid (Below w.heap.size w w1) := HBB.out.trans (hb1.mono (by have := HZ.out; omega))
    clear hb1' hb1 hvm
    go_wp2_with fail
    obtain ⟨wF, hwF⟩ : ∃ wF, wF = ((((((((w1.setCell ⟨w.heap.size + 1, 0, none⟩ (.slice none 0 0)).setCell ⟨w.heap.size + 1, 1, none⟩ (.slice none 0 0)).setCell ⟨w.heap.size + 1, 2, none⟩ (.slice none 0 0)).setCell ⟨w.heap.size + 1, 3, none⟩ (.slice none 0 0)).setCell ⟨w.heap.size + 1 + 1, 0, none⟩ (.int .i64 0)).setCell ⟨w.heap.size + 1 + 1, 1, none⟩ (.int .i64 0)).setCell ⟨w.heap.size + 1 + 1, 2, none⟩ (.int .i64 0)).setCell ⟨w.heap.size + 1 + 1, 3, none⟩ (.int .i64 0)) := ⟨_, rfl⟩
    rw [← hwF]
    have hTF : Touch (fun k => k = w.heap.size + 1 ∨ k = w.heap.size + 1 + 1) w1 wF := by
      rw [hwF]
      exact (Touch.put (Touch.put (Touch.put (Touch.put (Touch.put (Touch.put (Touch.put (Touch.put (Touch.none w1) _ _ (.inl rfl)) _ _ (.inl rfl)) _ _ (.inl rfl)) _ _ (.inl rfl)) _ _ (.inr rfl)) _ _ (.inr rfl)) _ _ (.inr rfl)) _ _ (.inr rfl))
    have f0 : wF.cell? ⟨w.heap.size + 1, 0, none⟩ = some (.slice none 0 0) := by rw [hwF]; simp [go_sem, r0]
    have f1 : wF.cell? ⟨w.heap.size + 1, 1, none⟩ = some (.slice none 0 0) := by rw [hwF]; simp [go_sem, r1]
    have f2 : wF.cell? ⟨w.heap.size + 1, 2, none⟩ = some (.slice none 0 0) := by rw [hwF]; simp [go_sem, r2]
    have f3 : wF.cell? ⟨w.heap.size + 1, 3, none⟩ = some (.slice none 0 0) := by rw [hwF]; simp [go_sem, r3]
    have g0 : wF.cell? ⟨w.heap.size + 1 + 1, 0, none⟩ = some (.int .i64 0) := by rw [hwF]; simp [go_sem, p0]
    have g1 : wF.cell? ⟨w.heap.size + 1 + 1, 1, none⟩ = some (.int .i64 0) := by rw [hwF]; simp [go_sem, p1]
    have g2 : wF.cell? ⟨w.heap.size + 1 + 1, 2, none⟩ = some (.int .i64 0) := by rw [hwF]; simp [go_sem, p2]
    have g3 : wF.cell? ⟨w.heap.size + 1 + 1, 3, none⟩ = some (.int .i64 0) := by rw [hwF]; simp [go_sem, p3]
    exact bodyPost_ret (v := .tuple #[.agg #[.slice none 0 0, .slice none 0 0, .slice none 0 0, .slice none 0 0], .agg #[.int .i64 0, .int .i64 0, .int .i64 0, .int .i64 0]]) (by simp [results, Try.results14, go_sem, f0, f1, f2, f3, g0, g1, g2, g3]) rfl ⟨zS, rfl, zM_row _ _, zM_apart, Touch.below HB1.out hTF HB1.out.size (fun k hk => by omega)⟩
  · rw [hv] at hvm
    cases hp : pageOk page
    · rw [hno (by rw [hao, hp]; simp)]
      rw [hp] at hpk
      clear hno hyes hao hsm hv hp
      go_enter Try.func14, Try.ntmps14
      go_wp2_with fail
      refine hvm.mono ?_
      rintro e w1 ⟨rfl, hb1'⟩
      have hb1 : Below wb.heap.size wb w1 := by rw [HWB.out]; exact hb1'
      obtain ⟨⟨q0, q1, q2, q3⟩, ⟨r0, r1, r2, r3⟩, ⟨z0, z1, z2, z3⟩, ⟨p0, p1, p2, p3⟩, ⟨x0, x1, x2, x3⟩, N1⟩ := HBOX.out w1 hb1
      have HB1 : Hid (Below w.heap.size w w1) := HBB.out.trans (hb1.mono (by have := HZ.out; omega))
      clear hb1' hb1 hvm
      go_wp2_with (first | (go_at_call 44; refine (hpk _).mono ?_; rintro e wE ⟨rfl, hwE⟩; obtain rfl := hwE.symm))
      obtain ⟨wF, hwF⟩ : ∃ wF, wF = ((((((((w1.setCell ⟨w.heap.size + 1, 0, none⟩ (.slice none 0 0)).setCell ⟨w.heap.size + 1, 1, none⟩ (.slice none 0 0)).setCell ⟨w.heap.size + 1, 2, none⟩ (.slice none 0 0)).setCell ⟨w.heap.size + 1, 3, none⟩ (.slice none 0 0)).setCell ⟨w.heap.size + 1 + 1, 0, none⟩ (.int .i64 0)).setCell ⟨w.heap.size + 1 + 1, 1, none⟩ (.int .i64 0)).setCell ⟨w.heap.size + 1 + 1, 2, none⟩ (.int .i64 0)).setCell ⟨w.heap.size + 1 + 1, 3, none⟩ (.int .i64 0)) := ⟨_, rfl⟩
      rw [← hwF]
      have hTF : Touch (fun k => k = w.heap.size + 1 ∨ k = w.heap.size + 1 + 1) w1 wF := by
        rw [hwF]
        exact (Touch.put (Touch.put (Touch.put (Touch.put (Touch.put (Touch.put (Touch.put (Touch.put (Touch.none w1) _ _ (.inl rfl)) _ _ (.inl rfl)) _ _ (.inl rfl)) _ _ (.inl rfl)) _ _ (.inr rfl)) _ _ (.inr rfl)) _ _ (.inr rfl)) _ _ (.inr rfl))
      have f0 : wF.cell? ⟨w.heap.size + 1, 0, none⟩ = some (.slice none 0 0) := by rw [hwF]; simp [go_sem, r0]
      have f1 : wF.cell? ⟨w.heap.size + 1, 1, none⟩ = some (.slice none 0 0) := by rw [hwF]; simp [go_sem, r1]
      have f2 : wF.cell? ⟨w.heap.size + 1, 2, none⟩ = some (.slice none 0 0) := by rw [hwF]; simp [go_sem, r2]
      have f3 : wF.cell? ⟨w.heap.size + 1, 3, none⟩ = some (.slice none 0 0) := by rw [hwF]; simp [go_sem, r3]
      have g0 : wF.cell? ⟨w.heap.size + 1 + 1, 0, none⟩ = some (.int .i64 0) := by rw [hwF]; simp [go_sem, p0]
      have g1 : wF.cell? ⟨w.heap.size + 1 + 1, 1, none⟩ = some (.int .i64 0) := by rw [hwF]; simp [go_sem, p1]
      have g2 : wF.cell? ⟨w.heap.size + 1 + 1, 2, none⟩ = some (.int .i64 0) := by rw [hwF]; simp [go_sem, p2]
      have g3 : wF.cell? ⟨w.heap.size + 1 + 1, 3, none⟩ = some (.int .i64 0) := by rw [hwF]; simp [go_sem, p3]
      exact bodyPost_ret (v := .tuple #[.agg #[.slice none 0 0, .slice none 0 0, .slice none 0 0, .slice none 0 0], .agg #[.int .i64 0, .int .i64 0, .int .i64 0, .int .i64 0]]) (by simp [results, Try.results14, go_sem, f0, f1, f2, f3, g0, g1, g2, g3]) rfl ⟨zS, rfl, zM_row _ _, zM_apart, Touch.below HB1.out hTF HB1.out.size (fun k hk => by omega)⟩
    · rw [hp] at hpk
      cases hnn : needOk need
      · rw [hno (by rw [hao, hnn]; simp)]
        rw [hnn] at hnk
        clear hno hyes hao hsm hv hp hnn
        go_enter Try.func14, Try.ntmps14
        go_wp2_with fail
        refine hvm.mono ?_
        rintro e w1 ⟨rfl, hb1'⟩
        have hb1 : Below wb.heap.size wb w1 := by rw [HWB.out]; exact hb1'
        obtain ⟨⟨q0, q1, q2, q3⟩, ⟨r0, r1, r2, r3⟩, ⟨z0, z1, z2, z3⟩, ⟨p0, p1, p2, p3⟩, ⟨x0, x1, x2, x3⟩, N1⟩ := HBOX.out w1 hb1
        have HB1 : Hid (Below w.heap.size w w1) := HBB.out.trans (hb1.mono (by have := HZ.out; omega))
        clear hb1' hb1 hvm
        go_wp2_with (first | (go_at_call 44; refine (hpk _).mono ?_; rintro e wE ⟨rfl, hwE⟩; obtain rfl := hwE.symm) | (go_at_call 49; refine (hnk _).mono ?_; rintro e wE ⟨rfl, hwE⟩; obtain rfl := hwE.symm))
        obtain ⟨wF, hwF⟩ : ∃ wF, wF = ((((((((w1.setCell ⟨w.heap.size + 1, 0, none⟩ (.slice none 0 0)).setCell ⟨w.heap.size + 1, 1, none⟩ (.slice none 0 0)).setCell ⟨w.heap.size + 1, 2, none⟩ (.slice none 0 0)).setCell ⟨w.heap.size + 1, 3, none⟩ (.slice none 0 0)).setCell ⟨w.heap.size + 1 + 1, 0, none⟩ (.int .i64 0)).setCell ⟨w.heap.size + 1 + 1, 1, none⟩ (.int .i64 0)).setCell ⟨w.heap.size + 1 + 1, 2, none⟩ (.int .i64 0)).setCell ⟨w.heap.size + 1 + 1, 3, none⟩ (.int .i64 0)) := ⟨_, rfl⟩
        rw [← hwF]
        have hTF : Touch (fun k => k = w.heap.size + 1 ∨ k = w.heap.size + 1 + 1) w1 wF := by
          rw [hwF]
          exact (Touch.put (Touch.put (Touch.put (Touch.put (Touch.put (Touch.put (Touch.put (Touch.put (Touch.none w1) _ _ (.inl rfl)) _ _ (.inl rfl)) _ _ (.inl rfl)) _ _ (.inl rfl)) _ _ (.inr rfl)) _ _ (.inr rfl)) _ _ (.inr rfl)) _ _ (.inr rfl))
        have f0 : wF.cell? ⟨w.heap.size + 1, 0, none⟩ = some (.slice none 0 0) := by rw [hwF]; simp [go_sem, r0]
        have f1 : wF.cell? ⟨w.heap.size + 1, 1, none⟩ = some (.slice none 0 0) := by rw [hwF]; simp [go_sem, r1]
        have f2 : wF.cell? ⟨w.heap.size + 1, 2, none⟩ = some (.slice none 0 0) := by rw [hwF]; simp [go_sem, r2]
        have f3 : wF.cell? ⟨w.heap.size + 1, 3, none⟩ = some (.slice none 0 0) := by rw [hwF]; simp [go_sem, r3]
        have g0 : wF.cell? ⟨w.heap.size + 1 + 1, 0, none⟩ = some (.int .i64 0) := by rw [hwF]; simp [go_sem, p0]
        have g1 : wF.cell? ⟨w.heap.size + 1 + 1, 1, none⟩ = some (.int .i64 0) := by rw [hwF]; simp [go_sem, p1]
        have g2 : wF.cell? ⟨w.heap.size + 1 + 1, 2, none⟩ = some (.int .i64 0) := by rw [hwF]; simp [go_sem, p2]
        have g3 : wF.cell? ⟨w.heap.size + 1 + 1, 3, none⟩ = some (.int .i64 0) := by rw [hwF]; simp [go_sem, p3]
        exact bodyPost_ret (v := .tuple #[.agg #[.slice none 0 0, .slice none 0 0, .slice none 0 0, .slice none 0 0], .agg #[.int .i64 0, .int .i64 0, .int .i64 0, .int .i64 0]]) (by simp [results, Try.results14, go_sem, f0, f1, f2, f3, g0, g1, g2, g3]) rfl ⟨zS, rfl, zM_row _ _, zM_apart, Touch.below HB1.out hTF HB1.out.size (fun k hk => by omega)⟩
      · rw [hnn] at hnk
        cases hc : choiceOk choice
        · rw [hno (by rw [hao, hc]; simp)]
          rw [hc] at hck
          clear hno hyes hao hsm hv hp hnn hc
          go_enter Try.func14, Try.ntmps14
          go_wp2_with fail
          refine hvm.mono ?_
          rintro e w1 ⟨rfl, hb1'⟩
          have hb1 : Below wb.heap.size wb w1 := by rw [HWB.out]; exact hb1'
          obtain ⟨⟨q0, q1, q2, q3⟩, ⟨r0, r1, r2, r3⟩, ⟨z0, z1, z2, z3⟩, ⟨p0, p1, p2, p3⟩, ⟨x0, x1, x2, x3⟩, N1⟩ := HBOX.out w1 hb1
          have HB1 : Hid (Below w.heap.size w w1) := HBB.out.trans (hb1.mono (by have := HZ.out; omega))
          clear hb1' hb1 hvm
          go_wp2_with (first | (go_at_call 44; refine (hpk _).mono ?_; rintro e wE ⟨rfl, hwE⟩; obtain rfl := hwE.symm) | (go_at_call 49; refine (hnk _).mono ?_; rintro e wE ⟨rfl, hwE⟩; obtain rfl := hwE.symm) | (go_at_call 45; refine (hck _).mono ?_; rintro e wE ⟨rfl, hwE⟩; obtain rfl := hwE.symm))
          obtain ⟨wF, hwF⟩ : ∃ wF, wF = ((((((((w1.setCell ⟨w.heap.size + 1, 0, none⟩ (.slice none 0 0)).setCell ⟨w.heap.size + 1, 1, none⟩ (.slice none 0 0)).setCell ⟨w.heap.size + 1, 2, none⟩ (.slice none 0 0)).setCell ⟨w.heap.size + 1, 3, none⟩ (.slice none 0 0)).setCell ⟨w.heap.size + 1 + 1, 0, none⟩ (.int .i64 0)).setCell ⟨w.heap.size + 1 + 1, 1, none⟩ (.int .i64 0)).setCell ⟨w.heap.size + 1 + 1, 2, none⟩ (.int .i64 0)).setCell ⟨w.heap.size + 1 + 1, 3, none⟩ (.int .i64 0)) := ⟨_, rfl⟩
          rw [← hwF]
          have hTF : Touch (fun k => k = w.heap.size + 1 ∨ k = w.heap.size + 1 + 1) w1 wF := by
            rw [hwF]
            exact (Touch.put (Touch.put (Touch.put (Touch.put (Touch.put (Touch.put (Touch.put (Touch.put (Touch.none w1) _ _ (.inl rfl)) _ _ (.inl rfl)) _ _ (.inl rfl)) _ _ (.inl rfl)) _ _ (.inr rfl)) _ _ (.inr rfl)) _ _ (.inr rfl)) _ _ (.inr rfl))
          have f0 : wF.cell? ⟨w.heap.size + 1, 0, none⟩ = some (.slice none 0 0) := by rw [hwF]; simp [go_sem, r0]
          have f1 : wF.cell? ⟨w.heap.size + 1, 1, none⟩ = some (.slice none 0 0) := by rw [hwF]; simp [go_sem, r1]
          have f2 : wF.cell? ⟨w.heap.size + 1, 2, none⟩ = some (.slice none 0 0) := by rw [hwF]; simp [go_sem, r2]
          have f3 : wF.cell? ⟨w.heap.size + 1, 3, none⟩ = some (.slice none 0 0) := by rw [hwF]; simp [go_sem, r3]
          have g0 : wF.cell? ⟨w.heap.size + 1 + 1, 0, none⟩ = some (.int .i64 0) := by rw [hwF]; simp [go_sem, p0]
          have g1 : wF.cell? ⟨w.heap.size + 1 + 1, 1, none⟩ = some (.int .i64 0) := by rw [hwF]; simp [go_sem, p1]
          have g2 : wF.cell? ⟨w.heap.size + 1 + 1, 2, none⟩ = some (.int .i64 0) := by rw [hwF]; simp [go_sem, p2]
          have g3 : wF.cell? ⟨w.heap.size + 1 + 1, 3, none⟩ = some (.int .i64 0) := by rw [hwF]; simp [go_sem, p3]
          exact bodyPost_ret (v := .tuple #[.agg #[.slice none 0 0, .slice none 0 0, .slice none 0 0, .slice none 0 0], .agg #[.int .i64 0, .int .i64 0, .int .i64 0, .int .i64 0]]) (by simp [results, Try.results14, go_sem, f0, f1, f2, f3, g0, g1, g2, g3]) rfl ⟨zS, rfl, zM_row _ _, zM_apart, Touch.below HB1.out hTF HB1.out.size (fun k hk => by omega)⟩
        · rw [hc] at hck
          have hy := hyes (by rw [hao, hv, hp, hc, hnn]; rfl)
          rw [hy] at hsm ⊢
          have hok := WOk.of hk hv
          have hpp : 0 ≤ page ∧ page < 4096 := by simpa [pageOk] using hp
          have hcc : 0 ≤ choice ∧ choice ≤ 65535 := by simpa [choiceOk] using hc
          have HOP : Hid (∀ wX, Below wb.heap.size wb wX → Calls Try.prog 46 #[.agg #[.slice s.a1 M.mem.length s.c1, .slice s.a2 M.pend.length s.c2, .slice s.a3 M.tlb.length s.c3, .slice s.a4 M.wc.length s.c4]] wX fun r w' => ∃ gu u, r = .returned (.pointer (some ⟨gu, 0, none⟩)) ∧ wX.heap.size ≤ gu ∧ UM w' gu wX.heap.size wX.heap.size true u M ∧ (∀ k, u.o1 = some k → u.o3 ≠ some k) ∧ Below wX.heap.size wX w') := fun wX hX => open_any s M b wX hok (fun i hi => valid_pend hv i hi) (HM.out wX hX)
          obtain ⟨R, hR⟩ : ∃ R, R = accN M page choice := ⟨_, rfl⟩
          obtain ⟨SX, hSX⟩ : ∃ SX, SX = accS M page need choice := ⟨_, rfl⟩
          have HAC : Hid (∀ (gu b0 : Nat) (u : UV) (wX : World), b0 ≤ wX.heap.size → UM wX gu b0 b0 true u M → Calls Try.prog 50 #[.pointer (some ⟨gu, 0, none⟩), .int .i64 page, .int .i64 need, .int .i64 choice] wX fun r w' => r = .returned (.agg #[.int .i64 SX.page, .int .i64 SX.need, .int .i64 SX.kind, .int .i64 SX.out]) ∧ ∃ u', UStep wX w' gu b0 b0 true u u' R) := fun gu b0 u wX hb hu => by
            rw [hR, hSX]
            exact access_any gu b0 b0 u M page need choice wX hpp.1 hpp.2 hcc.1 hcc.2 hnn hok hv hb hu
          have hsm' : R.Small := by rw [hR]; exact hsm
          have hcl0 := fun (gu b0 : Nat) (u : UV) (wX : World) (hu : UM wX gu b0 b0 true u R) => close_any gu b0 b0 true u R wX hsm' hu
          have HCL : Hid _ := hcl0
          rw [← hR, ← hSX]
          unfold seenV
          clear hcl0 hno hyes hao hy hsm hok hR hSX hv hp hc hsm' hpp hcc
          go_enter Try.func14, Try.ntmps14
          go_wp2_with fail
          refine hvm.mono ?_
          rintro e w1 ⟨rfl, hb1'⟩
          have hb1 : Below wb.heap.size wb w1 := by rw [HWB.out]; exact hb1'
          obtain ⟨⟨q0, q1, q2, q3⟩, ⟨r0, r1, r2, r3⟩, ⟨z0, z1, z2, z3⟩, ⟨p0, p1, p2, p3⟩, ⟨x0, x1, x2, x3⟩, N1⟩ := HBOX.out w1 hb1
          have HB1 : Hid (Below wb.heap.size wb w1) := hb1
          clear hb1' hb1 hvm
          go_wp2_with (first | (go_at_call 44; refine (hpk _).mono ?_; rintro e wE ⟨rfl, hwE⟩; obtain rfl := hwE.symm) | (go_at_call 49; refine (hnk _).mono ?_; rintro e wE ⟨rfl, hwE⟩; obtain rfl := hwE.symm) | (go_at_call 45; refine (hck _).mono ?_; rintro e wE ⟨rfl, hwE⟩; obtain rfl := hwE.symm))
          refine (HOP.out _ HB1.out).mono ?_
          rintro e w2 ⟨gu, u, rfl, hgu, hum, hap, hb2⟩
          have hac := HAC.out gu w1.heap.size u w2 hb2.size hum
          have HUM : Hid (UM w2 gu w1.heap.size w1.heap.size true u M) := hum
          have HAP : Hid (∀ k, u.o1 = some k → u.o3 ≠ some k) := hap
          have HB2 : Hid (Below w1.heap.size w1 w2) := hb2
          have HGU : Hid (w1.heap.size ≤ gu) := hgu
          clear hum hap hb2 hgu q0 q1 q2 q3 r0 r1 r2 r3 z0 z1 z2 z3 p0 p1 p2 p3 x0 x1 x2 x3
          go_wp2_with fail
          refine hac.mono ?_
          rintro e w3 ⟨rfl, u', hst⟩
          obtain ⟨wq, hwq⟩ : ∃ wq, wq = w3.alloc (.cells #[.int .i64 SX.page, .int .i64 SX.need, .int .i64 SX.kind, .int .i64 SX.out] 41) := ⟨_, rfl⟩
          have hzq : wq.heap.size = w3.heap.size + 1 := by rw [hwq]; simp
          have b3 : Below w1.heap.size w1 w3 := Touch.below HB2.out hst.tch HB2.out.size (fun k hk => by
            rcases hk with hk | hk | hk
            · have := HGU.out; omega
            · exact (HUM.out.t.ownA k hk).1
            · exact (HUM.out.c.ownA k hk).1)
          have bq : Below w3.heap.size w3 wq := by rw [hwq]; exact (Below.refl _ _).alloc (Nat.le_refl _) _
          have HSQ : Hid (∀ wX, Below wq.heap.size wq wX → wX.cell? ⟨w3.heap.size, 0, none⟩ = some (.int .i64 SX.page) ∧ wX.cell? ⟨w3.heap.size, 1, none⟩ = some (.int .i64 SX.need) ∧ wX.cell? ⟨w3.heap.size, 2, none⟩ = some (.int .i64 SX.kind) ∧ wX.cell? ⟨w3.heap.size, 3, none⟩ = some (.int .i64 SX.out)) := fun wX hX => by
            refine ⟨?_, ?_, ?_, ?_⟩
            iterate 4 (exact (hX.cell (by simp; omega)).trans (by rw [hwq]; simp [go_sem]))
          have HCQ : Hid (∀ wX, Below wq.heap.size wq wX → UM wX gu w1.heap.size w1.heap.size true u' R) := fun wX hX => hst.um.below (bq.trans (hX.mono (by omega)))
          have HST : Hid (UStep w2 w3 gu w1.heap.size w1.heap.size true u u' R) := hst
          have HWQ : Hid (wq = _) := hwq
          have HZQ : Hid (wq.heap.size = w3.heap.size + 1) := hzq
          have HB3 : Hid (Below w1.heap.size w1 w3) := b3
          have HBQ : Hid (Below w3.heap.size w3 wq) := bq
          clear hst hac hwq b3 bq hzq
          go_upto_region 5 with fail
          rw [← HWQ.out]
          refine wp_region_held_drew (S := fun wX => wX.cell? ⟨w3.heap.size, 0, none⟩ = some (.int .i64 SX.page) ∧ wX.cell? ⟨w3.heap.size, 1, none⟩ = some (.int .i64 SX.need) ∧ wX.cell? ⟨w3.heap.size, 2, none⟩ = some (.int .i64 SX.kind) ∧ wX.cell? ⟨w3.heap.size, 3, none⟩ = some (.int .i64 SX.out)) (by kernel_rfl) (HSQ.out _ (Below.refl _ _).drew) (fun hHeld => ?_)
          refine tk 0 ?_
          refine tk 2 ?_
          refine wpAnyH_ready (rs := [1]) (by kernel_rfl) (by simp) ?_
          refine AllReadyH.cons rfl (fun K hK => ?_) AllReadyH.nil
          go_simp
          refine (HCL.out gu w1.heap.size u' wq.drew (HCQ.out _ (Below.refl _ _).drew)).mono ?_; rintro r w4 ⟨a3, c3, a4, c4, rfl, ht4, hc4, hap4, hb4⟩
          go_wp2_with fail
          refine hK.out _ _ (HSQ.out _ ((Below.refl _ _).drew.trans (hb4.mono (by simp)))) (fun hHeld2 => ?_)
          clear hK K
          have bq4 : Below wq.heap.size wq w4 := (Below.refl _ _).drew.trans (hb4.mono (by simp))
          have b34 : Below w3.heap.size w3 w4 := HBQ.out.trans (bq4.mono HBQ.out.size)
          have b14 : Below w1.heap.size w1 w4 := HB3.out.trans (b34.mono HB3.out.size)
          have b4 : Below wb.heap.size wb w4 := HB1.out.trans (b14.mono HB1.out.size)
          obtain ⟨⟨q0, q1, q2, q3⟩, ⟨r0, r1, r2, r3⟩, ⟨z0, z1, z2, z3⟩, ⟨p0, p1, p2, p3⟩, ⟨x0, x1, x2, x3⟩, N1⟩ := HBOX.out w4 b4
          have hz3 := HZQ.out
          have hzb := HZ.out
          have hs13 := HB3.out.size
          have hs1b := HB1.out.size
          have hs4 := bq4.size
          have HS4 : Hid (∀ wX, Touch (fun k => k = w.heap.size + 1 ∨ k = w.heap.size + 1 + 1) w4 wX → wX.cell? ⟨w3.heap.size, 0, none⟩ = some (.int .i64 SX.page) ∧ wX.cell? ⟨w3.heap.size, 1, none⟩ = some (.int .i64 SX.need) ∧ wX.cell? ⟨w3.heap.size, 2, none⟩ = some (.int .i64 SX.kind) ∧ wX.cell? ⟨w3.heap.size, 3, none⟩ = some (.int .i64 SX.out)) := fun wX hX => by
            obtain ⟨c0, c1, c2, c3'⟩ := HSQ.out w4 bq4
            have hbk := hX.block w3.heap.size (by omega) (by omega)
            exact ⟨(World.cell?_of_block hbk).trans c0, (World.cell?_of_block hbk).trans c1, (World.cell?_of_block hbk).trans c2, (World.cell?_of_block hbk).trans c3'⟩
          have HEND : Hid (∀ wF, Touch (fun k => k = w.heap.size + 1 ∨ k = w.heap.size + 1 + 1) w4 wF → ∃ s' : SV, Ending.returned (.tuple #[.agg #[(.slice u'.a1 R.mem.length u'.c1), (.slice u'.a3 R.pend.length u'.c3), (.slice a3 R.tlb.length c3), (.slice a4 R.wc.length c4)], .agg #[.int .i64 SX.page, .int .i64 SX.need, .int .i64 SX.kind, .int .i64 SX.out]]) = .returned (.tuple #[.agg #[.slice s'.a1 R.mem.length s'.c1, .slice s'.a2 R.pend.length s'.c2, .slice s'.a3 R.tlb.length s'.c3, .slice s'.a4 R.wc.length s'.c4], .agg #[.int .i64 SX.page, .int .i64 SX.need, .int .i64 SX.kind, .int .i64 SX.out]]) ∧ MRow wF w.heap.size (s'.mv R) R ∧ (s'.mv R).apart ∧ Below w.heap.size w wF) := by
            intro wF hTF
            have hst := HST.out
            have ht4' : ERow eTlb w4 w3.heap.size (.slice a3 R.tlb.length c3) R.tlb := ht4.rebase (by simp; omega)
            have hc4' : ERow eWc w4 w3.heap.size (.slice a4 R.wc.length c4) R.wc := hc4.rebase (by simp; omega)
            have hrow : MRow w4 w1.heap.size ((⟨u'.a1, u'.c1, u'.a3, u'.c3, a3, c3, a4, c4⟩ : SV).mv R) R := ⟨hst.um.w.below b34, hst.um.p.below b34, ht4'.rebase hs13, hc4'.rebase hs13⟩
            refine ⟨⟨u'.a1, u'.c1, u'.a3, u'.c3, a3, c3, a4, c4⟩, rfl, ?_, ?_, ?_⟩
            · refine MRow.rebase (base := w1.heap.size) (hrow.touch hTF (fun k hk hh => ?_)) (by omega)
              have := (hrow.own k hk).1
              omega
            · intro k
              have o1 := fun h => (hst.um.w.ownA k h).2
              have o3 := fun h => (hst.um.p.ownA k h).2
              have ot := fun h => (ht4'.ownA k h).1
              have oc := fun h => (hc4'.ownA k h).1
              have x13 : oOf u'.a1 = some k → oOf u'.a3 ≠ some k := fun h1 h3 => HAP.out k (by rw [← hst.s1]; exact h1) (by rw [← hst.s3]; exact h3)
              simp only [SV.mv, own_slice]
              refine ⟨fun h => ⟨x13 h, fun h' => ?_, fun h' => ?_⟩, fun h => ⟨fun h' => ?_, fun h' => ?_⟩, fun h h' => hap4 k h h'⟩
              · have := o1 h; have := ot h'; omega
              · have := o1 h; have := oc h'; omega
              · have := o3 h; have := ot h'; omega
              · have := o3 h; have := oc h'; omega
            · exact Touch.below (HBB.out.trans (b4.mono (by omega))) hTF (by omega) (fun k hk => by omega)
          clear ht4 hc4 hap4 hb4 bq4 b34 b14 b4 q0 q1 q2 q3 hz3 hzb hs13 hs1b hs4 hHeld2
          refine wpAnyH_ready (rs := [3]) (by kernel_rfl) (by simp) ?_
          refine AllReadyH.cons rfl (fun K hK => ?_) AllReadyH.nil
          go_simp
          refine hK.out _ _ (HS4.out _ (Touch.put (Touch.put (Touch.put (Touch.put (Touch.none w4) _ _ (.inl rfl)) _ _ (.inl rfl)) _ _ (.inl rfl)) _ _ (.inl rfl))) (fun hHeld2 => ?_)
          clear hK K
          refine wpAnyH_ready (rs := [4]) (by kernel_rfl) (by simp) ?_
          refine AllReadyH.cons rfl (fun K hK => ?_) AllReadyH.nil
          go_simp
          refine hK.out _ _ (HS4.out _ (Touch.put (Touch.put (Touch.put (Touch.put (Touch.put (Touch.put (Touch.put (Touch.put (Touch.none w4) _ _ (.inl rfl)) _ _ (.inl rfl)) _ _ (.inl rfl)) _ _ (.inl rfl)) _ _ (.inr rfl)) _ _ (.inr rfl)) _ _ (.inr rfl)) _ _ (.inr rfl))) (fun hHeld3 => ?_)
          clear hK K
          refine wpAnyH_done (by kernel_rfl) ?_ _
          go_wp2_with fail
          obtain ⟨wF, hwF⟩ : ∃ wF, wF = ((((((((w4.setCell ⟨w.heap.size + 1, 0, none⟩ ((.slice u'.a1 R.mem.length u'.c1))).setCell ⟨w.heap.size + 1, 1, none⟩ ((.slice u'.a3 R.pend.length u'.c3))).setCell ⟨w.heap.size + 1, 2, none⟩ ((.slice a3 R.tlb.length c3))).setCell ⟨w.heap.size + 1, 3, none⟩ ((.slice a4 R.wc.length c4))).setCell ⟨w.heap.size + 1 + 1, 0, none⟩ (.int .i64 SX.page)).setCell ⟨w.heap.size + 1 + 1, 1, none⟩ (.int .i64 SX.need)).setCell ⟨w.heap.size + 1 + 1, 2, none⟩ (.int .i64 SX.kind)).setCell ⟨w.heap.size + 1 + 1, 3, none⟩ (.int .i64 SX.out)) := ⟨_, rfl⟩
          have f0 : wF.cell? ⟨w.heap.size + 1, 0, none⟩ = some (.slice u'.a1 R.mem.length u'.c1) := by rw [hwF]; simp [go_sem, r0]
          have f1 : wF.cell? ⟨w.heap.size + 1, 1, none⟩ = some (.slice u'.a3 R.pend.length u'.c3) := by rw [hwF]; simp [go_sem, r1]
          have f2 : wF.cell? ⟨w.heap.size + 1, 2, none⟩ = some (.slice a3 R.tlb.length c3) := by rw [hwF]; simp [go_sem, r2]
          have f3 : wF.cell? ⟨w.heap.size + 1, 3, none⟩ = some (.slice a4 R.wc.length c4) := by rw [hwF]; simp [go_sem, r3]
          have g0 : wF.cell? ⟨w.heap.size + 1 + 1, 0, none⟩ = some (.int .i64 SX.page) := by rw [hwF]; simp [go_sem, p0]
          have g1 : wF.cell? ⟨w.heap.size + 1 + 1, 1, none⟩ = some (.int .i64 SX.need) := by rw [hwF]; simp [go_sem, p1]
          have g2 : wF.cell? ⟨w.heap.size + 1 + 1, 2, none⟩ = some (.int .i64 SX.kind) := by rw [hwF]; simp [go_sem, p2]
          have g3 : wF.cell? ⟨w.heap.size + 1 + 1, 3, none⟩ = some (.int .i64 SX.out) := by rw [hwF]; simp [go_sem, p3]
          have hTF : Touch (fun k => k = w.heap.size + 1 ∨ k = w.heap.size + 1 + 1) w4 wF := by
            rw [hwF]
            exact (Touch.put (Touch.put (Touch.put (Touch.put (Touch.put (Touch.put (Touch.put (Touch.put (Touch.none w4) _ _ (.inl rfl)) _ _ (.inl rfl)) _ _ (.inl rfl)) _ _ (.inl rfl)) _ _ (.inr rfl)) _ _ (.inr rfl)) _ _ (.inr rfl)) _ _ (.inr rfl))
          rw [← hwF]
          exact bodyPost_ret (v := .tuple #[.agg #[(.slice u'.a1 R.mem.length u'.c1), (.slice u'.a3 R.pend.length u'.c3), (.slice a3 R.tlb.length c3), (.slice a4 R.wc.length c4)], .agg #[.int .i64 SX.page, .int .i64 SX.need, .int .i64 SX.kind, .int .i64 SX.out]]) (by simp [results, Try.results14, go_sem, f0, f1, f2, f3, g0, g1, g2, g3]) rfl (HEND.out wF hTF)
end Go.Proofs.Ytnmhkgmmpkjjeaa
