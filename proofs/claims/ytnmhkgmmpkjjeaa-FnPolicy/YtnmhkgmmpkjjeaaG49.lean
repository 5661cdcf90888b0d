import Derived.Test.YtnmhkgmmpkjjeaaG48
namespace Go.Proofs.Ytnmhkgmmpkjjeaa
open Go.ChangeShapes Go.WideShapes Go.ChangeAt Go.RowKit
set_option linter.unusedVariables false
attribute [local go_sem ↓] Go.wp_at_zero Go.wp_at_succ

set_option maxHeartbeats 4000000 in
theorem implVS_any (a : Option Addr) (cap b : Nat) (xs : List SpanE) (w : World) (hn : xs.length ≤ 1048576) (hwf : ∀ i, i < xs.length → wfS (eAt eSpan xs i)) (h : ERow eSpan w b (.slice a xs.length cap) xs) :
    Calls Try.prog 20 #[.slice a xs.length cap] w fun e w' => e = .returned (.bool (vsB xs)) ∧ Below w.heap.size w w' := by
  obtain ⟨g, hg, hcs⟩ := spCells h
  have HG : Hid _ := hg
  have HCS : Hid _ := hcs
  have HWF : Hid _ := hwf
  clear h hg hcs hwf
  go_enter Try.func20, Try.ntmps20
  go_wp2_with fail
  go_loopw [7] (fun i wr => ∃ k : Nat, k ≤ xs.length ∧ i = .int .i64 k ∧ Hid (∀ j, j < k → spanOk (eAt eSpan xs j) = true) ∧ Hid (∀ j, j + 1 < k → pairOk (eAt eSpan xs j) (eAt eSpan xs (j + 1)) = true) ∧ Below w.heap.size w wr) (fun i _ => xs.length - (intOf i).toNat)
  case atStart => exact ⟨0, Nat.zero_le _, rfl, fun j hj => absurd hj (by omega), fun j hj => absurd hj (by omega), Below.refl _ _⟩
  case round =>
    obtain ⟨k, hk, rfl, hall, hpair, hbw⟩ := hrel
    by_cases hlt : k < xs.length
    · obtain ⟨rfl, hgl⟩ := HG.out (by omega)
      obtain ⟨F, hF⟩ : ∃ F, eAt eSpan xs k = F := ⟨_, rfl⟩
      obtain ⟨P2, C2, O2, R2, G2⟩ := F
      obtain ⟨c0, c1, c2, c3, c4⟩ := HCS.out k P2 C2 O2 R2 G2 hlt hF wr hbw
      have hsw := hbw.size
      obtain ⟨wb, hwb⟩ : ∃ wb, wb = wr.alloc (.cells #[.int .i64 P2, .int .i64 C2, .int .i64 O2, .int .i64 R2, .bool G2] 125) := ⟨_, rfl⟩
      have hzb : wb.heap.size = wr.heap.size + 1 := by rw [hwb]; simp
      have hbb : Below w.heap.size w wb := by rw [hwb]; exact hbw.alloc hsw _
      have hv := validSpan_any P2 C2 O2 R2 G2 wb (by rw [← hF]; exact HWF.out k hlt)
      have HBX : Hid (∀ wX, Below wb.heap.size wb wX → wX.cell? ⟨wr.heap.size, 0, none⟩ = some (.int .i64 P2) ∧ wX.cell? ⟨wr.heap.size, 1, none⟩ = some (.int .i64 C2) ∧ wX.cell? ⟨wr.heap.size, 2, none⟩ = some (.int .i64 O2) ∧ wX.cell? ⟨wr.heap.size, 3, none⟩ = some (.int .i64 R2) ∧ wX.cell? ⟨wr.heap.size, 4, none⟩ = some (.bool G2)) := fun wX hX => by
        refine ⟨?_, ?_, ?_, ?_, ?_⟩
        iterate 5 (exact (hX.cell (by simp; omega)).trans (by rw [hwb]; simp [go_sem]))
      rw [hwb] at hv
      have HWB : Hid (wb = _) := hwb
      have HBB : Hid (Below w.heap.size w wb) := hbb
      have HZ : Hid (wb.heap.size = _) := hzb
      have HF : Hid (eAt eSpan xs k = _) := hF
      have L1 : (0 : Int) ≤ (k : Int) := by omega
      have L2 : (k : Int) < (xs.length : Int) := by omega
      clear hF hbw hwb hbb hzb
      cases hok2 : spanOk ⟨P2, C2, O2, R2, G2⟩ <;> rw [hok2] at hv
      · have HV : Hid (vsB xs = false) := vs_bad1 k hlt (by rw [HF.out]; exact hok2)
        clear hok2
        go_wp2_with (go_at_call 65; refine hv.mono ?_; rintro e w1 ⟨rfl, hb1⟩)
        go_ret
        refine ⟨by rw [HV.out]; rfl, ?_⟩
        rw [← HWB.out] at hb1
        exact HBB.out.trans (hb1.mono HBB.out.size)
      · have HOK2 : Hid (spanOk ⟨P2, C2, O2, R2, G2⟩ = true) := hok2
        clear hok2
        go_wp2_with (go_at_call 65; refine hv.mono ?_; rintro e w1 ⟨rfl, hb1⟩)
        rw [← HWB.out] at hb1
        have b1 : Below w.heap.size w w1 := HBB.out.trans (hb1.mono HBB.out.size)
        have HB1 : Hid (Below w.heap.size w w1) := b1
        have HK1 : Hid (∀ wX, Below w1.heap.size w1 wX → wX.cell? ⟨wr.heap.size, 0, none⟩ = some (.int .i64 P2) ∧ wX.cell? ⟨wr.heap.size, 1, none⟩ = some (.int .i64 C2) ∧ wX.cell? ⟨wr.heap.size, 2, none⟩ = some (.int .i64 O2) ∧ wX.cell? ⟨wr.heap.size, 3, none⟩ = some (.int .i64 R2) ∧ wX.cell? ⟨wr.heap.size, 4, none⟩ = some (.bool G2)) := fun wX hX => HBX.out wX (hb1.trans (hX.mono hb1.size))
        have hs1 := b1.size
        clear hv c0 c1 c2 c3 c4
        rcases Nat.eq_zero_or_pos k with hk0 | hk0
        · subst hk0
          have HK : Hid (∀ wX, Below w1.heap.size w1 wX → wX.cell? ⟨wr.heap.size, 0, none⟩ = some (.int .i64 P2) ∧ wX.cell? ⟨wr.heap.size, 1, none⟩ = some (.int .i64 C2) ∧ wX.cell? ⟨wr.heap.size, 2, none⟩ = some (.int .i64 O2) ∧ wX.cell? ⟨wr.heap.size, 3, none⟩ = some (.int .i64 R2) ∧ wX.cell? ⟨wr.heap.size, 4, none⟩ = some (.bool G2)) := HK1
          clear hb1 b1
          refine wp_region_held_drew (S := (fun wX => wX.cell? ⟨wr.heap.size, 0, none⟩ = some (.int .i64 P2) ∧ wX.cell? ⟨wr.heap.size, 1, none⟩ = some (.int .i64 C2) ∧ wX.cell? ⟨wr.heap.size, 2, none⟩ = some (.int .i64 O2) ∧ wX.cell? ⟨wr.heap.size, 3, none⟩ = some (.int .i64 R2) ∧ wX.cell? ⟨wr.heap.size, 4, none⟩ = some (.bool G2))) (by kernel_rfl) (HK.out _ ((Below.refl _ _).drew)) (fun hHeld => ?_)
          refine tk 0 ?_
          refine tk 1 ?_
          refine tk 2 ?_
          refine sk 3 ?_
          refine sk 4 ?_
          refine sk 5 ?_
          refine sk 6 ?_
          refine sk 7 ?_
          refine sk 8 ?_
          refine sk 9 ?_
          refine sk 10 ?_
          refine sk 11 ?_
          refine sk 12 ?_
          refine sk 13 ?_
          refine sk 14 ?_
          refine sk 15 ?_
          refine sk 16 ?_
          refine sk 17 ?_
          refine sk 18 ?_
          refine sk 19 ?_
          refine sk 20 ?_
          refine tk 21 ?_
          refine wpAnyH_done (by kernel_rfl) ?_ _
          go_wp2_with fail
          go_roundw
          case rel =>
            refine ⟨0 + 1, by omega, by go_num, fun j hj => ?_, fun j hj => absurd hj (by omega), HB1.out.trans ((Below.refl _ _).drew.mono hs1)⟩
            obtain rfl : j = 0 := by omega
            rw [HF.out]; exact HOK2.out
          case measure => simp [intOf]; omega
        · obtain ⟨m, rfl⟩ : ∃ m, k = m + 1 := ⟨k - 1, by omega⟩
          obtain ⟨E, hE⟩ : ∃ E, eAt eSpan xs m = E := ⟨_, rfl⟩
          obtain ⟨P, C, O, R, G⟩ := E
          have hok : spanOk ⟨P, C, O, R, G⟩ = true := by rw [← hE]; exact hall.out m (by omega)
          have hk7 := spanOk_iff.1 hok
          dsimp only at hk7
          obtain ⟨t1, t2, t3, _⟩ := hk7
          have hse := spanEnd_any P C O R G (by omega) (by omega) (by omega) (by omega)
          have hj0 := fun wX => joins_any P C O R G P2 C2 O2 R2 G2 wX hok
          have HK : Hid (∀ wX, Below w1.heap.size w1 wX → (wX.cell? ⟨wr.heap.size, 0, none⟩ = some (.int .i64 P2) ∧ wX.cell? ⟨wr.heap.size, 1, none⟩ = some (.int .i64 C2) ∧ wX.cell? ⟨wr.heap.size, 2, none⟩ = some (.int .i64 O2) ∧ wX.cell? ⟨wr.heap.size, 3, none⟩ = some (.int .i64 R2) ∧ wX.cell? ⟨wr.heap.size, 4, none⟩ = some (.bool G2)) ∧ (wX.cell? ⟨g, m * 5, none⟩ = some (.int .i64 P) ∧ wX.cell? ⟨g, m * 5 + 1, none⟩ = some (.int .i64 C) ∧ wX.cell? ⟨g, m * 5 + 2, none⟩ = some (.int .i64 O) ∧ wX.cell? ⟨g, m * 5 + 3, none⟩ = some (.int .i64 R) ∧ wX.cell? ⟨g, m * 5 + 4, none⟩ = some (.bool G))) := fun wX hX =>
            ⟨HK1.out wX hX, HCS.out m P C O R G (by omega) hE wX (b1.trans (hX.mono hs1))⟩
          have HE : Hid (eAt eSpan xs m = _) := hE
          have HOK : Hid (spanOk ⟨P, C, O, R, G⟩ = true) := hok
          have L0 : (0 : Int) ≤ (m : Int) + 1 := by omega
          have L3 : (0 : Int) ≤ (m : Int) := by omega
          have L4 : (m : Int) < (xs.length : Int) := by omega
          have L5 : (0 : Int) < (m : Int) + 1 := by omega
          have D5 : decide ((0 : Int) < (m : Int) + 1) = true := decide_eq_true L5
          have W1 : IntKind.i64.wrap ((m : Int) + 1 - 1) = m := by rw [IntKind.wrap_i64]; omega
          have W3 : IntKind.i64.wrap (m : Int) = m := by rw [IntKind.wrap_i64]; omega
          clear hE hok hb1 b1
          by_cases hlp : P2 < P + C
          · have dl : decide (P2 < P + C) = true := by simpa using hlp
            have HV : Hid (vsB xs = false) := vs_bad2 m hlt (by rw [HE.out, HF.out]; unfold pairOk; simp; intro h; omega)
            clear hj0
            refine wp_region_held_drew (S := (fun wX => (wX.cell? ⟨wr.heap.size, 0, none⟩ = some (.int .i64 P2) ∧ wX.cell? ⟨wr.heap.size, 1, none⟩ = some (.int .i64 C2) ∧ wX.cell? ⟨wr.heap.size, 2, none⟩ = some (.int .i64 O2) ∧ wX.cell? ⟨wr.heap.size, 3, none⟩ = some (.int .i64 R2) ∧ wX.cell? ⟨wr.heap.size, 4, none⟩ = some (.bool G2)) ∧ (wX.cell? ⟨g, m * 5, none⟩ = some (.int .i64 P) ∧ wX.cell? ⟨g, m * 5 + 1, none⟩ = some (.int .i64 C) ∧ wX.cell? ⟨g, m * 5 + 2, none⟩ = some (.int .i64 O) ∧ wX.cell? ⟨g, m * 5 + 3, none⟩ = some (.int .i64 R) ∧ wX.cell? ⟨g, m * 5 + 4, none⟩ = some (.bool G)))) (by kernel_rfl) (HK.out _ ((Below.refl _ _).drew)) (fun hHeld => ?_)
            refine tk 0 ?_
            refine tk 1 ?_
            refine tk 2 ?_
            refine tk 3 ?_
            refine tk 4 ?_
            refine tk 5 ?_
            refine tk 6 ?_
            refine tk 7 ?_
            refine tk 8 ?_
            refine tk 9 ?_
            refine wpAnyH_ready (rs := [10]) (by kernel_rfl) (by simp) ?_
            refine AllReadyH.cons rfl (fun K hK => ?_) AllReadyH.nil
            go_simp
            go_at_call 66
            refine (hse _).mono ?_
            rintro e w2 ⟨rfl, hb2⟩
            go_wp2_with fail
            refine hK.out _ _ (by refine HK.out _ ?_; exact (Below.refl _ _).drew.trans (hb2.mono (by simp))) (fun hHeld2 => ?_)
            clear hK K
            refine tk 11 ?_
            refine tk 12 ?_
            refine sk 13 ?_
            refine sk 14 ?_
            refine sk 15 ?_
            refine sk 16 ?_
            refine sk 17 ?_
            refine sk 18 ?_
            refine sk 19 ?_
            refine tk 20 ?_
            refine tk 21 ?_
            refine wpAnyH_done (by kernel_rfl) ?_ _
            go_wp2_with fail
            go_ret
            exact ⟨by rw [HV.out]; rfl, HB1.out.trans (((Below.refl _ _).drew.trans (hb2.mono (by simp))).mono hs1)⟩
          · have dl : decide (P2 < P + C) = false := by simpa using hlp
            cases hjj : joinsB ⟨P, C, O, R, G⟩ ⟨P2, C2, O2, R2, G2⟩ <;> rw [hjj] at hj0
            · have hj := hj0
              have HPO : Hid (pairOk (eAt eSpan xs m) (eAt eSpan xs (m + 1)) = true) := by rw [HE.out, HF.out]; unfold pairOk; rw [hjj]; simp only [Bool.not_false, Bool.and_true, decide_eq_true_eq]; exact Int.not_lt.1 hlp
              clear hj0 hjj
              refine wp_region_held_drew (S := (fun wX => (wX.cell? ⟨wr.heap.size, 0, none⟩ = some (.int .i64 P2) ∧ wX.cell? ⟨wr.heap.size, 1, none⟩ = some (.int .i64 C2) ∧ wX.cell? ⟨wr.heap.size, 2, none⟩ = some (.int .i64 O2) ∧ wX.cell? ⟨wr.heap.size, 3, none⟩ = some (.int .i64 R2) ∧ wX.cell? ⟨wr.heap.size, 4, none⟩ = some (.bool G2)) ∧ (wX.cell? ⟨g, m * 5, none⟩ = some (.int .i64 P) ∧ wX.cell? ⟨g, m * 5 + 1, none⟩ = some (.int .i64 C) ∧ wX.cell? ⟨g, m * 5 + 2, none⟩ = some (.int .i64 O) ∧ wX.cell? ⟨g, m * 5 + 3, none⟩ = some (.int .i64 R) ∧ wX.cell? ⟨g, m * 5 + 4, none⟩ = some (.bool G)))) (by kernel_rfl) (HK.out _ ((Below.refl _ _).drew)) (fun hHeld => ?_)
              refine tk 0 ?_
              refine tk 1 ?_
              refine tk 2 ?_
              refine tk 3 ?_
              refine tk 4 ?_
              refine tk 5 ?_
              refine tk 6 ?_
              refine tk 7 ?_
              refine tk 8 ?_
              refine tk 9 ?_
              refine wpAnyH_ready (rs := [10]) (by kernel_rfl) (by simp) ?_
              refine AllReadyH.cons rfl (fun K hK => ?_) AllReadyH.nil
              go_simp
              go_at_call 66
              refine (hse _).mono ?_
              rintro e w2 ⟨rfl, hb2⟩
              go_wp2_with fail
              refine hK.out _ _ (by refine HK.out _ ?_; exact (Below.refl _ _).drew.trans (hb2.mono (by simp))) (fun hHeld2 => ?_)
              clear hK K
              refine tk 11 ?_
              refine tk 12 ?_
              refine tk 13 ?_
              refine tk 14 ?_
              refine tk 15 ?_
              refine tk 16 ?_
              refine tk 17 ?_
              refine tk 18 ?_
              refine wpAnyH_ready (rs := [19]) (by kernel_rfl) (by simp) ?_
              refine AllReadyH.cons rfl (fun K hK => ?_) AllReadyH.nil
              go_simp
              go_at_call 67
              refine (hj _).mono ?_
              rintro e w3 ⟨rfl, hb3⟩
              go_wp2_with fail
              refine hK.out _ _ (by refine HK.out _ ?_; exact ((Below.refl _ _).drew.trans (hb2.mono (by simp))).trans (hb3.mono (by have := hb2.size; simp at this; omega))) (fun hHeld2 => ?_)
              clear hK K
              refine tk 20 ?_
              refine tk 21 ?_
              refine wpAnyH_done (by kernel_rfl) ?_ _
              go_wp2_with fail
              go_roundw
              case rel =>
                refine ⟨m + 1 + 1, by omega, by go_num, fun j hj => ?_, fun j hj => ?_, HB1.out.trans (Below.mono ?_ hs1)⟩
                · by_cases e : j = m + 1
                  · rw [e, HF.out]; exact HOK2.out
                  · exact hall.out j (by omega)
                · by_cases e : j = m
                  · rw [e]; exact HPO.out
                  · exact hpair.out j (by omega)
                · exact ((Below.refl _ _).drew.trans (hb2.mono (by simp))).trans (hb3.mono (by have := hb2.size; simp at this; omega))
              case measure => simp [intOf]; omega
            · have hj := hj0
              have HV : Hid (vsB xs = false) := vs_bad2 m hlt (by rw [HE.out, HF.out]; unfold pairOk; rw [hjj]; simp)
              clear hj0 hjj
              refine wp_region_held_drew (S := (fun wX => (wX.cell? ⟨wr.heap.size, 0, none⟩ = some (.int .i64 P2) ∧ wX.cell? ⟨wr.heap.size, 1, none⟩ = some (.int .i64 C2) ∧ wX.cell? ⟨wr.heap.size, 2, none⟩ = some (.int .i64 O2) ∧ wX.cell? ⟨wr.heap.size, 3, none⟩ = some (.int .i64 R2) ∧ wX.cell? ⟨wr.heap.size, 4, none⟩ = some (.bool G2)) ∧ (wX.cell? ⟨g, m * 5, none⟩ = some (.int .i64 P) ∧ wX.cell? ⟨g, m * 5 + 1, none⟩ = some (.int .i64 C) ∧ wX.cell? ⟨g, m * 5 + 2, none⟩ = some (.int .i64 O) ∧ wX.cell? ⟨g, m * 5 + 3, none⟩ = some (.int .i64 R) ∧ wX.cell? ⟨g, m * 5 + 4, none⟩ = some (.bool G)))) (by kernel_rfl) (HK.out _ ((Below.refl _ _).drew)) (fun hHeld => ?_)
              refine tk 0 ?_
              refine tk 1 ?_
              refine tk 2 ?_
              refine tk 3 ?_
              refine tk 4 ?_
              refine tk 5 ?_
              refine tk 6 ?_
              refine tk 7 ?_
              refine tk 8 ?_
              refine tk 9 ?_
              refine wpAnyH_ready (rs := [10]) (by kernel_rfl) (by simp) ?_
              refine AllReadyH.cons rfl (fun K hK => ?_) AllReadyH.nil
              go_simp
              go_at_call 66
              refine (hse _).mono ?_
              rintro e w2 ⟨rfl, hb2⟩
              go_wp2_with fail
              refine hK.out _ _ (by refine HK.out _ ?_; exact (Below.refl _ _).drew.trans (hb2.mono (by simp))) (fun hHeld2 => ?_)
              clear hK K
              refine tk 11 ?_
              refine tk 12 ?_
              refine tk 13 ?_
              refine tk 14 ?_
              refine tk 15 ?_
              refine tk 16 ?_
              refine tk 17 ?_
              refine tk 18 ?_
              refine wpAnyH_ready (rs := [19]) (by kernel_rfl) (by simp) ?_
              refine AllReadyH.cons rfl (fun K hK => ?_) AllReadyH.nil
              go_simp
              go_at_call 67
              refine (hj _).mono ?_
              rintro e w3 ⟨rfl, hb3⟩
              go_wp2_with fail
              refine hK.out _ _ (by refine HK.out _ ?_; exact ((Below.refl _ _).drew.trans (hb2.mono (by simp))).trans (hb3.mono (by have := hb2.size; simp at this; omega))) (fun hHeld2 => ?_)
              clear hK K
              refine tk 20 ?_
              refine tk 21 ?_
              refine wpAnyH_done (by kernel_rfl) ?_ _
              go_wp2_with fail
              go_ret
              exact ⟨by rw [HV.out]; rfl, HB1.out.trans ((((Below.refl _ _).drew.trans (hb2.mono (by simp))).trans (hb3.mono (by have := hb2.size; simp at this; omega))).mono hs1)⟩
    · have HV : Hid (vsB xs = true) := vsB_true ⟨fun i hi => hall.out i (by omega), fun i hi => hpair.out i (by omega)⟩
      go_wp2_with fail
      go_ret
      exact ⟨by rw [HV.out]; rfl, hbw⟩
end Go.Proofs.Ytnmhkgmmpkjjeaa
