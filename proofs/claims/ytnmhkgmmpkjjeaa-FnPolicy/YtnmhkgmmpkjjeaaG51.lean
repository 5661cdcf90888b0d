import Derived.Test.YtnmhkgmmpkjjeaaG50
import Derived.Deep.DeepCutAuto
namespace Go.Proofs.Ytnmhkgmmpkjjeaa
open Go.ChangeShapes Go.WideShapes Go.ChangeAt Go.RowKit
set_option linter.unusedVariables false
attribute [local go_sem ↓] Go.wp_at_zero Go.wp_at_succ

set_option maxHeartbeats 4000000 in
theorem l4At_any (a : Option Addr) (cap b : Nat) (xs : List SpanE) (page : Int) (w : World) (hn : xs.length ≤ 1048576) (hvs : VS xs) (hp0 : 0 ≤ page) (hp1 : page < 4096) (h : ERow eSpan w b (.slice a xs.length cap) xs) :
    Calls Try.prog 70 #[.slice a xs.length cap, .int .i64 page] w fun e w' => e = .returned (.agg #[.int .i64 (atL xs page).k, .int .i64 (atL xs page).o, .int .i64 (atL xs page).p, .int .i64 (atL xs page).s]) ∧ Below w.heap.size w w' := by
  obtain ⟨g, hg, hcs⟩ := spCells h
  obtain ⟨wb, hwb⟩ : ∃ wb, wb = w.alloc (.cells #[.int .i64 0, .int .i64 0, .int .i64 0, .int .i64 0] 32) := ⟨_, rfl⟩
  have hbb : Below w.heap.size w wb := by rw [hwb]; exact (Below.refl _ _).alloc (Nat.le_refl _) _
  have hzb : wb.heap.size = w.heap.size + 1 := by rw [hwb]; simp
  have HRS : Hid (∀ wX, Below wb.heap.size wb wX → (wX.cell? ⟨w.heap.size, 0, none⟩ = some (.int .i64 0) ∧ wX.cell? ⟨w.heap.size, 1, none⟩ = some (.int .i64 0) ∧ wX.cell? ⟨w.heap.size, 2, none⟩ = some (.int .i64 0) ∧ wX.cell? ⟨w.heap.size, 3, none⟩ = some (.int .i64 0)) ∧ wX.frozen? ⟨w.heap.size, 0, none⟩ = false ∧ wX.frozen? ⟨w.heap.size, 1, none⟩ = false ∧ wX.frozen? ⟨w.heap.size, 2, none⟩ = false ∧ wX.frozen? ⟨w.heap.size, 3, none⟩ = false) := fun wX hX => by
    refine ⟨⟨?_, ?_, ?_, ?_⟩, ?_, ?_, ?_, ?_⟩
    iterate 4 (exact (hX.cell (by simp; omega)).trans (by rw [hwb]; simp [go_sem]))
    iterate 4 (exact (hX.frozen (by simp; omega)).trans (by rw [hwb]; simp [go_sem]))
  have HG : Hid _ := hg
  have HCS : Hid _ := hcs
  have HVS : Hid _ := hvs
  have HWB : Hid (wb = _) := hwb
  have HBB : Hid (Below w.heap.size w wb) := hbb
  have HZ : Hid (wb.heap.size = w.heap.size + 1) := hzb
  clear h hg hcs hvs hwb hbb hzb
  go_enter Try.func70, Try.ntmps70
  go_wp2_with fail
  rw [← HWB.out]
  go_loopw [5] (fun i wr => ∃ k : Nat, k ≤ xs.length ∧ i = .int .i64 k ∧ Hid (∀ j, j < k → inS (eAt eSpan xs j) page = false) ∧ Below wb.heap.size wb wr) (fun i _ => xs.length - (intOf i).toNat)
  case atStart => exact ⟨0, Nat.zero_le _, rfl, fun j hj => absurd hj (by omega), Below.refl _ _⟩
  case round =>
    obtain ⟨k, hk, rfl, hall, hbw⟩ := hrel
    by_cases hlt : k < xs.length
    · obtain ⟨rfl, hgl⟩ := HG.out (by omega)
      obtain ⟨E, hE⟩ : ∃ E, eAt eSpan xs k = E := ⟨_, rfl⟩
      obtain ⟨P, C, O, R, G⟩ := E
      have hok : spanOk ⟨P, C, O, R, G⟩ = true := by rw [← hE]; exact HVS.out.1 k hlt
      have hk7 := spanOk_iff.1 hok
      dsimp only at hk7
      obtain ⟨t1, t2, t3, t4, t5, _⟩ := hk7
      have HK : Hid (∀ wX, Below wr.heap.size wr wX → wX.cell? ⟨g, k * 5, none⟩ = some (.int .i64 P) ∧ wX.cell? ⟨g, k * 5 + 1, none⟩ = some (.int .i64 C) ∧ wX.cell? ⟨g, k * 5 + 2, none⟩ = some (.int .i64 O) ∧ wX.cell? ⟨g, k * 5 + 3, none⟩ = some (.int .i64 R) ∧ wX.cell? ⟨g, k * 5 + 4, none⟩ = some (.bool G)) := fun wX hX => HCS.out k P C O R G hlt hE wX (HBB.out.trans ((hbw.trans (hX.mono hbw.size)).mono (by have := HZ.out; omega)))
      have HE : Hid (eAt eSpan xs k = _) := hE
      have HOK : Hid (spanOk ⟨P, C, O, R, G⟩ = true) := hok
      have HBW : Hid (Below wb.heap.size wb wr) := hbw
      have L1 : (0 : Int) ≤ (k : Int) := by omega
      have L2 : (k : Int) < (xs.length : Int) := by omega
      have W0 : IntKind.i64.wrap (P + C) = P + C := by rw [IntKind.wrap_i64]; omega
      have W1 : IntKind.i64.wrap (O + page) = O + page := by rw [IntKind.wrap_i64]; omega
      have W2 : IntKind.i64.wrap (O + page - P) = O + page - P := by rw [IntKind.wrap_i64]; omega
      clear hE hok hbw
      by_cases h1 : P ≤ page
      · have d1 : decide (P ≤ page) = true := decide_eq_true h1
        by_cases h2 : page < P + C
        · have d2 : decide (page < P + C) = true := decide_eq_true h2
          have HHIT : Hid (atL xs page = hitS ⟨P, C, O, R, G⟩ page) := by
            have := at_hit page xs k hlt hall.out (by rw [HE.out]; unfold inS; exact decide_eq_true ⟨h1, h2⟩)
            rwa [HE.out] at this
          go_wp2_with fail
          refine wp_region_held_drew (S := (fun wX => wX.cell? ⟨g, k * 5, none⟩ = some (.int .i64 P) ∧ wX.cell? ⟨g, k * 5 + 1, none⟩ = some (.int .i64 C) ∧ wX.cell? ⟨g, k * 5 + 2, none⟩ = some (.int .i64 O) ∧ wX.cell? ⟨g, k * 5 + 3, none⟩ = some (.int .i64 R) ∧ wX.cell? ⟨g, k * 5 + 4, none⟩ = some (.bool G))) (by kernel_rfl) (HK.out _ ((Below.refl _ _).drew)) (fun hHeld => ?_)
          refine tk 0 ?_
          refine tk 1 ?_
          refine tk 2 ?_
          refine tk 3 ?_
          refine tk 4 ?_
          refine tk 5 ?_
          refine tk 6 ?_
          refine tk 7 ?_
          refine tk 8 ?_
          refine tk 9 ?_
          refine tk 10 ?_
          refine tk 11 ?_
          refine tk 12 ?_
          refine tk 13 ?_
          refine tk 14 ?_
          refine tk 15 ?_
          refine tk 16 ?_
          refine tk 17 ?_
          refine tk 18 ?_
          refine tk 19 ?_
          refine tk 20 ?_
          refine tk 21 ?_
          refine wpAnyH_done (by kernel_rfl) ?_ _
          go_wp2_with fail
          obtain ⟨wa, hwa⟩ : ∃ wa, wa = wr.drew := ⟨_, rfl⟩
          rw [← hwa]
          have HAR : Hid (Below wr.heap.size wr wa) := by rw [hwa]; exact (Below.refl _ _).drew
          have HKA : Hid (∀ wX, Below wa.heap.size wa wX → wX.cell? ⟨g, k * 5, none⟩ = some (.int .i64 P) ∧ wX.cell? ⟨g, k * 5 + 1, none⟩ = some (.int .i64 C) ∧ wX.cell? ⟨g, k * 5 + 2, none⟩ = some (.int .i64 O) ∧ wX.cell? ⟨g, k * 5 + 3, none⟩ = some (.int .i64 R) ∧ wX.cell? ⟨g, k * 5 + 4, none⟩ = some (.bool G)) := fun wX hX => HK.out wX (HAR.out.trans (hX.mono HAR.out.size))
          have HBA : Hid (Below wb.heap.size wb wa) := HBW.out.trans (HAR.out.mono HBW.out.size)
          clear hwa hHeld
          go_cut [6] (fun d wx => ∃ Z, d = .pointer (some ⟨Z, 0, none⟩) ∧ (wx.cell? ⟨Z, 0, none⟩ = some (.int .i64 1) ∧ wx.cell? ⟨Z, 1, none⟩ = some (.int .i64 (O + page - P)) ∧ wx.cell? ⟨Z, 2, none⟩ = some (.int .i64 R) ∧ wx.cell? ⟨Z, 3, none⟩ = some (.int .i64 1)) ∧ wx.frozen? ⟨Z, 3, none⟩ = false ∧ wa.heap.size ≤ Z ∧ Z < wx.heap.size ∧ Below wa.heap.size wa wx)
          case first =>
            go_region_held3 (fun wX => wX.cell? ⟨g, k * 5, none⟩ = some (.int .i64 P) ∧ wX.cell? ⟨g, k * 5 + 1, none⟩ = some (.int .i64 C) ∧ wX.cell? ⟨g, k * 5 + 2, none⟩ = some (.int .i64 O) ∧ wX.cell? ⟨g, k * 5 + 3, none⟩ = some (.int .i64 R) ∧ wX.cell? ⟨g, k * 5 + 4, none⟩ = some (.bool G))
              ((refine HKA.out _ ?_; repeat (first | exact Below.refl _ _ | with_reducible refine Below.drew ?_ | with_reducible refine Below.setCell ?_ (by first | omega | (simp <;> omega)) _ | with_reducible refine Below.alloc ?_ (by first | omega | (simp <;> omega)) _))) (fail)
            all_goals
              go_wp2_with fail
              go_meet
              case rel =>
                refine ⟨_, rfl, ⟨?_, ?_, ?_, ?_⟩, ?_, ?_, ?_, ?_⟩
                · simp [go_sem]
                · simp [go_sem]
                · simp [go_sem]
                · simp [go_sem]
                · simp [go_sem]
                · first | omega | (simp <;> omega)
                · first | omega | (simp <;> omega)
                · repeat (first | exact Below.refl _ _ | with_reducible refine Below.drew ?_ | with_reducible refine Below.setCell ?_ (by first | omega | (simp <;> omega)) _ | with_reducible refine Below.alloc ?_ (by first | omega | (simp <;> omega)) _)
          case rest =>
            obtain ⟨wx, rfl⟩ : ∃ wx : World, wx = wc := ⟨_, rfl⟩
            obtain ⟨Z, rfl, hzc, hzf, hZ1, hZ2, hbx⟩ := hcut
            have HZC : Hid (∀ wX, Below wx.heap.size wx wX → (wX.cell? ⟨Z, 0, none⟩ = some (.int .i64 1) ∧ wX.cell? ⟨Z, 1, none⟩ = some (.int .i64 (O + page - P)) ∧ wX.cell? ⟨Z, 2, none⟩ = some (.int .i64 R) ∧ wX.cell? ⟨Z, 3, none⟩ = some (.int .i64 1)) ∧ wX.frozen? ⟨Z, 3, none⟩ = false) := fun wX hX => ⟨⟨(hX.cell hZ2).trans hzc.1, (hX.cell hZ2).trans hzc.2.1, (hX.cell hZ2).trans hzc.2.2.1, (hX.cell hZ2).trans hzc.2.2.2⟩, (hX.frozen hZ2).trans hzf⟩
            have HBX : Hid (Below wb.heap.size wb wx) := HBA.out.trans (hbx.mono HBA.out.size)
            have N0 : w.heap.size < wx.heap.size := by have := HBX.out.size; have := HZ.out; omega
            have N1 : w.heap.size ≠ Z := by have := HBA.out.size; have := HZ.out; omega
            have hbig := l4Big_any P C O R G page
            have hbg := fun wX => hbig wX HOK.out hp0 hp1
            clear hzc hzf hbig
            obtain ⟨c0, c1, c2, c3, c4⟩ := HK.out wx (HAR.out.trans (hbx.mono HAR.out.size))
            have HX2 : Hid True := trivial
            cases hbb2 : bigB ⟨P, C, O, R, G⟩ page <;> simp only [hbb2] at hbg
            · go_wp2_with fail
              refine (hbg _).mono ?_
              rintro e w2 ⟨rfl, hb2⟩
              have HB2 : Hid (Below wb.heap.size wb w2) := HBX.out.trans (hb2.mono HBX.out.size)
              obtain ⟨⟨z0, z1, z2, z3⟩, zf⟩ := HZC.out w2 hb2
              obtain ⟨⟨r0, r1, r2, r3⟩, f0, f1, f2, f3⟩ := HRS.out w2 HB2.out
              have HSZ : Hid (Z < w2.heap.size) := Nat.lt_of_lt_of_le hZ2 hb2.size
              have HAT : Hid (atL xs page = ⟨1, O + page - P, R, 1⟩) := by rw [HHIT.out]; unfold hitS; rw [hbb2]; rfl
              clear hb2 hbb2
              go_wp2_with fail
              refine bodyPost_ret (v := .agg #[.int .i64 1, .int .i64 (O + page - P), .int .i64 R, .int .i64 1]) (by simp [results, Try.results70, go_sem, r0, r1, r2, r3]) rfl ⟨by rw [HAT.out], ?_⟩
              have B2 : Below w.heap.size w w2 := HBB.out.trans (HB2.out.mono (by have := HZ.out; omega))
              have zl : w.heap.size ≤ Z := by have := HBA.out.size; have := HZ.out; omega
              repeat (first | exact B2 | refine Below.setCell ?_ (by first | exact zl | exact Nat.le_refl _ | (dsimp only; omega)) _)
            · go_wp2_with fail
              refine (hbg _).mono ?_
              rintro e w2 ⟨rfl, hb2⟩
              have HB2 : Hid (Below wb.heap.size wb w2) := HBX.out.trans (hb2.mono HBX.out.size)
              obtain ⟨⟨z0, z1, z2, z3⟩, zf⟩ := HZC.out w2 hb2
              obtain ⟨⟨r0, r1, r2, r3⟩, f0, f1, f2, f3⟩ := HRS.out w2 HB2.out
              have HSZ : Hid (Z < w2.heap.size) := Nat.lt_of_lt_of_le hZ2 hb2.size
              have HAT : Hid (atL xs page = ⟨1, O + page - P, R, 16⟩) := by rw [HHIT.out]; unfold hitS; rw [hbb2]; rfl
              clear hb2 hbb2
              go_wp2_with fail
              refine bodyPost_ret (v := .agg #[.int .i64 1, .int .i64 (O + page - P), .int .i64 R, .int .i64 16]) (by simp [results, Try.results70, go_sem, r0, r1, r2, r3]) rfl ⟨by rw [HAT.out], ?_⟩
              have B2 : Below w.heap.size w w2 := HBB.out.trans (HB2.out.mono (by have := HZ.out; omega))
              have zl : w.heap.size ≤ Z := by have := HBA.out.size; have := HZ.out; omega
              repeat (first | exact B2 | refine Below.setCell ?_ (by first | exact zl | exact Nat.le_refl _ | (dsimp only; omega)) _)
        · have d2 : decide (page < P + C) = false := decide_eq_false h2
          have HIN : Hid (inS (eAt eSpan xs k) page = false) := by rw [HE.out]; unfold inS; exact decide_eq_false (fun h => h2 h.2)
          go_wp2_with fail
          refine wp_region_held_drew (S := (fun wX => wX.cell? ⟨g, k * 5, none⟩ = some (.int .i64 P) ∧ wX.cell? ⟨g, k * 5 + 1, none⟩ = some (.int .i64 C) ∧ wX.cell? ⟨g, k * 5 + 2, none⟩ = some (.int .i64 O) ∧ wX.cell? ⟨g, k * 5 + 3, none⟩ = some (.int .i64 R) ∧ wX.cell? ⟨g, k * 5 + 4, none⟩ = some (.bool G))) (by kernel_rfl) (HK.out _ ((Below.refl _ _).drew)) (fun hHeld => ?_)
          refine tk 0 ?_
          refine tk 1 ?_
          refine tk 2 ?_
          refine tk 3 ?_
          refine tk 4 ?_
          refine tk 5 ?_
          refine tk 6 ?_
          refine tk 7 ?_
          refine tk 8 ?_
          refine tk 9 ?_
          refine tk 10 ?_
          refine tk 11 ?_
          refine tk 12 ?_
          refine tk 13 ?_
          refine tk 14 ?_
          refine tk 15 ?_
          refine tk 16 ?_
          refine tk 17 ?_
          refine tk 18 ?_
          refine tk 19 ?_
          refine tk 20 ?_
          refine tk 21 ?_
          refine wpAnyH_done (by kernel_rfl) ?_ _
          go_wp2_with fail
          go_roundw
          case rel =>
            refine ⟨k + 1, by omega, by go_num, fun j hj => ?_, HBW.out.trans ((Below.refl _ _).drew.mono HBW.out.size)⟩
            by_cases e : j = k
            · rw [e]; exact HIN.out
            · exact hall.out j (by omega)
          case measure => simp [intOf]; omega
      · have d1 : decide (P ≤ page) = false := decide_eq_false h1
        have HIN : Hid (inS (eAt eSpan xs k) page = false) := by rw [HE.out]; unfold inS; exact decide_eq_false (fun h => h1 h.1)
        go_wp2_with fail
        refine wp_region_held_drew (S := (fun wX => wX.cell? ⟨g, k * 5, none⟩ = some (.int .i64 P) ∧ wX.cell? ⟨g, k * 5 + 1, none⟩ = some (.int .i64 C) ∧ wX.cell? ⟨g, k * 5 + 2, none⟩ = some (.int .i64 O) ∧ wX.cell? ⟨g, k * 5 + 3, none⟩ = some (.int .i64 R) ∧ wX.cell? ⟨g, k * 5 + 4, none⟩ = some (.bool G))) (by kernel_rfl) (HK.out _ ((Below.refl _ _).drew)) (fun hHeld => ?_)
        refine tk 0 ?_
        refine tk 1 ?_
        refine tk 2 ?_
        refine tk 3 ?_
        refine tk 4 ?_
        refine tk 5 ?_
        refine tk 6 ?_
        refine tk 7 ?_
        refine sk 8 ?_
        refine sk 9 ?_
        refine sk 10 ?_
        refine sk 11 ?_
        refine sk 12 ?_
        refine sk 13 ?_
        refine sk 14 ?_
        refine sk 15 ?_
        refine sk 16 ?_
        refine sk 17 ?_
        refine sk 18 ?_
        refine sk 19 ?_
        refine sk 20 ?_
        refine tk 21 ?_
        refine wpAnyH_done (by kernel_rfl) ?_ _
        go_wp2_with fail
        go_roundw
        case rel =>
          refine ⟨k + 1, by omega, by go_num, fun j hj => ?_, HBW.out.trans ((Below.refl _ _).drew.mono HBW.out.size)⟩
          by_cases e : j = k
          · rw [e]; exact HIN.out
          · exact hall.out j (by omega)
        case measure => simp [intOf]; omega
    · have e : k = xs.length := by omega
      subst e
      have HAT : Hid (atL xs page = zHt) := at_none page xs hall.out
      obtain ⟨⟨r0, r1, r2, r3⟩, f0, f1, f2, f3⟩ := HRS.out wr hbw
      have N0 : w.heap.size < wr.heap.size := by have := hbw.size; have := HZ.out; omega
      have HB2 : Hid (Below w.heap.size w wr) := HBB.out.trans (hbw.mono (by have := HZ.out; omega))
      clear hall hbw
      go_wp2_with fail
      refine bodyPost_ret (v := .agg #[.int .i64 0, .int .i64 0, .int .i64 0, .int .i64 0]) (by simp [results, Try.results70, go_sem, r0, r1, r2, r3]) rfl ⟨by rw [HAT.out]; rfl, ?_⟩
      exact (((HB2.out.setCell (by simp) _).setCell (by simp) _).setCell (by simp) _).setCell (by simp) _
end Go.Proofs.Ytnmhkgmmpkjjeaa
