import Derived.Test.YtnmhkgmmpkjjeaaG13
import Derived.Test.YtnmhkgmmpkjjeaaG14
namespace Go.Proofs.Ytnmhkgmmpkjjeaa
open Go.ChangeShapes Go.WideShapes Go.ChangeAt Go.RowKit
set_option linter.unusedVariables false
attribute [local go_sem ↓] Go.wp_at_zero Go.wp_at_succ

theorem vs_bad1 {xs : List SpanE} (k : Nat) (hk : k < xs.length) (h : spanOk (eAt eSpan xs k) = false) : vsB xs = false :=
  vsB_false (fun hv => by have := hv.1 k hk; rw [h] at this; cases this)
theorem vs_bad2 {xs : List SpanE} (k : Nat) (hk : k + 1 < xs.length) (h : pairOk (eAt eSpan xs k) (eAt eSpan xs (k + 1)) = false) : vsB xs = false :=
  vsB_false (fun hv => by have := hv.2 k hk; rw [h] at this; cases this)

set_option maxHeartbeats 4000000 in
theorem specVS_any (a : Option Addr) (cap b : Nat) (xs : List SpanE) (w : World) (hn : xs.length ≤ 1048576) (hwf : ∀ i, i < xs.length → wfS (eAt eSpan xs i)) (h : ERow eSpan w b (.slice a xs.length cap) xs) :
    Calls Try.prog 69 #[.slice a xs.length cap] w fun e w' => e = .returned (.bool (vsB xs)) ∧ Below w.heap.size w w' := by
  obtain ⟨g, hg, hcs⟩ := spCells h
  have HG : Hid _ := hg
  have HCS : Hid _ := hcs
  have HWF : Hid _ := hwf
  clear h hg hcs hwf
  go_enter Try.func69, Try.ntmps69
  go_wp2_with fail
  go_loopw [3] (fun i wr => ∃ k : Nat, k ≤ xs.length ∧ i = .int .i64 k ∧ Hid (∀ j, j < k → spanOk (eAt eSpan xs j) = true) ∧ Below w.heap.size w wr) (fun i _ => xs.length - (intOf i).toNat)
  case atStart => exact ⟨0, Nat.zero_le _, rfl, fun j hj => absurd hj (by omega), Below.refl _ _⟩
  case round =>
    obtain ⟨k, hk, rfl, hall, hbw⟩ := hrel
    by_cases hlt : k < xs.length
    · obtain ⟨rfl, hgl⟩ := HG.out (by omega)
      obtain ⟨E, hE⟩ : ∃ E, eAt eSpan xs k = E := ⟨_, rfl⟩
      obtain ⟨P, C, O, R, G⟩ := E
      obtain ⟨c0, c1, c2, c3, c4⟩ := HCS.out k P C O R G hlt hE wr hbw
      have hv := l4SpanOk_any P C O R G wr (by rw [← hE]; exact HWF.out k hlt)
      have HE : Hid (eAt eSpan xs k = _) := hE
      have HBW : Hid (Below w.heap.size w wr) := hbw
      have L1 : (0 : Int) ≤ (k : Int) := by omega
      have L2 : (k : Int) < (xs.length : Int) := by omega
      clear hE hbw
      cases hok : spanOk ⟨P, C, O, R, G⟩ <;> rw [hok] at hv
      · have HV : Hid (vsB xs = false) := vs_bad1 k hlt (by rw [HE.out]; exact hok)
        clear hok
        go_wp2_with (go_at_call 134; refine hv.mono ?_; rintro e w1 ⟨rfl, hb1⟩)
        go_ret
        exact ⟨by rw [HV.out]; rfl, HBW.out.trans (hb1.mono HBW.out.size)⟩
      · have HOK : Hid (spanOk ⟨P, C, O, R, G⟩ = true) := hok
        clear hok
        go_wp2_with (go_at_call 134; refine hv.mono ?_; rintro e w1 ⟨rfl, hb1⟩)
        go_roundw
        case rel =>
          refine ⟨k + 1, by omega, by go_num, fun j hj => ?_, HBW.out.trans (hb1.mono HBW.out.size)⟩
          by_cases e : j = k
          · rw [e, HE.out]; exact HOK.out
          · exact hall.out j (by omega)
        case measure => simp [intOf]; omega
    · have e : k = xs.length := by omega
      subst e
      obtain ⟨wA, rfl⟩ : ∃ wA : World, wA = wr := ⟨_, rfl⟩
      have HBA : Hid (Below w.heap.size w wA) := hbw
      have HALL : Hid (∀ j, j < xs.length → spanOk (eAt eSpan xs j) = true) := hall
      clear hall hbw
      go_wp2_with fail
      go_loopw [4] (fun i wr => ∃ k : Nat, 1 ≤ k ∧ (k ≤ xs.length ∨ k = 1) ∧ i = .int .i64 k ∧ Hid (∀ j, j + 1 < k → pairOk (eAt eSpan xs j) (eAt eSpan xs (j + 1)) = true) ∧ Below w.heap.size w wr) (fun i _ => xs.length - (intOf i).toNat)
      case atStart => exact ⟨1, Nat.le_refl _, .inr rfl, rfl, fun j hj => absurd hj (by omega), HBA.out⟩
      case round =>
        obtain ⟨k, hk1, hk2, rfl, hall, hbw⟩ := hrel
        by_cases hlt : k < xs.length
        · obtain ⟨m, rfl⟩ : ∃ m, k = m + 1 := ⟨k - 1, by omega⟩
          obtain ⟨rfl, hgl⟩ := HG.out (by omega)
          obtain ⟨E, hE⟩ : ∃ E, eAt eSpan xs m = E := ⟨_, rfl⟩
          obtain ⟨P, C, O, R, G⟩ := E
          obtain ⟨F, hF⟩ : ∃ F, eAt eSpan xs (m + 1) = F := ⟨_, rfl⟩
          obtain ⟨P2, C2, O2, R2, G2⟩ := F
          have hok : spanOk ⟨P, C, O, R, G⟩ = true := by rw [← hE]; exact HALL.out m (by omega)
          have hj := l4Joins_any P C O R G P2 C2 O2 R2 G2
          have HK : Hid (∀ wX, Below wr.heap.size wr wX → (wX.cell? ⟨g, m * 5, none⟩ = some (.int .i64 P) ∧ wX.cell? ⟨g, m * 5 + 1, none⟩ = some (.int .i64 C) ∧ wX.cell? ⟨g, m * 5 + 2, none⟩ = some (.int .i64 O) ∧ wX.cell? ⟨g, m * 5 + 3, none⟩ = some (.int .i64 R) ∧ wX.cell? ⟨g, m * 5 + 4, none⟩ = some (.bool G)) ∧ (wX.cell? ⟨g, (m + 1) * 5, none⟩ = some (.int .i64 P2) ∧ wX.cell? ⟨g, (m + 1) * 5 + 1, none⟩ = some (.int .i64 C2) ∧ wX.cell? ⟨g, (m + 1) * 5 + 2, none⟩ = some (.int .i64 O2) ∧ wX.cell? ⟨g, (m + 1) * 5 + 3, none⟩ = some (.int .i64 R2) ∧ wX.cell? ⟨g, (m + 1) * 5 + 4, none⟩ = some (.bool G2))) := fun wX hX =>
            ⟨HCS.out m P C O R G (by omega) hE wX (hbw.trans (hX.mono hbw.size)), HCS.out (m + 1) P2 C2 O2 R2 G2 hlt hF wX (hbw.trans (hX.mono hbw.size))⟩
          have HE : Hid (eAt eSpan xs m = _) := hE
          have HF : Hid (eAt eSpan xs (m + 1) = _) := hF
          have HBW : Hid (Below w.heap.size w wr) := hbw
          have hk7 := spanOk_iff.1 hok
          dsimp only at hk7
          obtain ⟨t1, t2, t3, _⟩ := hk7
          have HOK : Hid (spanOk ⟨P, C, O, R, G⟩ = true) := hok
          have L1 : (0 : Int) ≤ (m : Int) := by omega
          have L0 : (0 : Int) ≤ (m : Int) + 1 := by omega
          have L2 : (m : Int) + 1 < (xs.length : Int) := by omega
          have L3 : (m : Int) < (xs.length : Int) := by omega
          have W1 : IntKind.i64.wrap ((m : Int) + 1 - 1) = m := by rw [IntKind.wrap_i64]; omega
          have W2 : IntKind.i64.wrap (P + C) = P + C := by rw [IntKind.wrap_i64]; omega
          have W3 : IntKind.i64.wrap (m : Int) = m := by rw [IntKind.wrap_i64]; omega
          clear hE hF hbw hok
          by_cases hlp : P2 < P + C
          · have dl : decide (P2 < P + C) = true := by simpa using hlp
            have HV : Hid (vsB xs = false) := vs_bad2 m hlt (by rw [HE.out, HF.out]; unfold pairOk; simp; intro h; omega)
            go_wp2_with fail
            refine wp_region_held_drew (S := (fun wX => (wX.cell? ⟨g, m * 5, none⟩ = some (.int .i64 P) ∧ wX.cell? ⟨g, m * 5 + 1, none⟩ = some (.int .i64 C) ∧ wX.cell? ⟨g, m * 5 + 2, none⟩ = some (.int .i64 O) ∧ wX.cell? ⟨g, m * 5 + 3, none⟩ = some (.int .i64 R) ∧ wX.cell? ⟨g, m * 5 + 4, none⟩ = some (.bool G)) ∧ (wX.cell? ⟨g, (m + 1) * 5, none⟩ = some (.int .i64 P2) ∧ wX.cell? ⟨g, (m + 1) * 5 + 1, none⟩ = some (.int .i64 C2) ∧ wX.cell? ⟨g, (m + 1) * 5 + 2, none⟩ = some (.int .i64 O2) ∧ wX.cell? ⟨g, (m + 1) * 5 + 3, none⟩ = some (.int .i64 R2) ∧ wX.cell? ⟨g, (m + 1) * 5 + 4, none⟩ = some (.bool G2)))) (by kernel_rfl) (HK.out _ ((Below.refl _ _).drew)) (fun hHeld => ?_)
            refine tk 0 ?_
            refine tk 1 ?_
            refine tk 2 ?_
            refine tk 3 ?_
            refine tk 4 ?_
            refine tk 5 ?_
            refine tk 6 ?_
            refine tk 7 ?_
            refine tk 8 ?_
            refine tk 9 ?_
            refine tk 10 ?_
            refine tk 11 ?_
            refine tk 12 ?_
            refine tk 13 ?_
            refine tk 14 ?_
            refine tk 15 ?_
            refine tk 16 ?_
            refine tk 17 ?_
            refine tk 18 ?_
            refine tk 19 ?_
            refine sk 20 ?_
            refine sk 21 ?_
            refine sk 22 ?_
            refine sk 23 ?_
            refine sk 24 ?_
            refine sk 25 ?_
            refine sk 26 ?_
            refine sk 27 ?_
            refine sk 28 ?_
            refine sk 29 ?_
            refine tk 30 ?_
            refine wpAnyH_done (by kernel_rfl) ?_ _
            go_wp2_with fail
            go_ret
            exact ⟨by rw [HV.out]; rfl, HBW.out.trans (((Below.refl _ _).drew).mono HBW.out.size)⟩
          · have dl : decide (P2 < P + C) = false := by simpa using hlp
            have hj' := fun wX => hj wX HOK.out
            clear hj
            cases hjj : joinsB ⟨P, C, O, R, G⟩ ⟨P2, C2, O2, R2, G2⟩ <;> rw [hjj] at hj'
            · have hj := hj'
              have HPO : Hid (pairOk (eAt eSpan xs m) (eAt eSpan xs (m + 1)) = true) := by rw [HE.out, HF.out]; unfold pairOk; rw [hjj]; simp only [Bool.not_false, Bool.and_true, decide_eq_true_eq]; exact Int.not_lt.1 hlp
              clear hj' hjj
              go_wp2_with fail
              refine wp_region_held_drew (S := (fun wX => (wX.cell? ⟨g, m * 5, none⟩ = some (.int .i64 P) ∧ wX.cell? ⟨g, m * 5 + 1, none⟩ = some (.int .i64 C) ∧ wX.cell? ⟨g, m * 5 + 2, none⟩ = some (.int .i64 O) ∧ wX.cell? ⟨g, m * 5 + 3, none⟩ = some (.int .i64 R) ∧ wX.cell? ⟨g, m * 5 + 4, none⟩ = some (.bool G)) ∧ (wX.cell? ⟨g, (m + 1) * 5, none⟩ = some (.int .i64 P2) ∧ wX.cell? ⟨g, (m + 1) * 5 + 1, none⟩ = some (.int .i64 C2) ∧ wX.cell? ⟨g, (m + 1) * 5 + 2, none⟩ = some (.int .i64 O2) ∧ wX.cell? ⟨g, (m + 1) * 5 + 3, none⟩ = some (.int .i64 R2) ∧ wX.cell? ⟨g, (m + 1) * 5 + 4, none⟩ = some (.bool G2)))) (by kernel_rfl) (HK.out _ ((Below.refl _ _).drew)) (fun hHeld => ?_)
              refine tk 0 ?_
              refine tk 1 ?_
              refine tk 2 ?_
              refine tk 3 ?_
              refine tk 4 ?_
              refine tk 5 ?_
              refine tk 6 ?_
              refine tk 7 ?_
              refine tk 8 ?_
              refine tk 9 ?_
              refine tk 10 ?_
              refine tk 11 ?_
              refine tk 12 ?_
              refine tk 13 ?_
              refine tk 14 ?_
              refine tk 15 ?_
              refine tk 16 ?_
              refine tk 17 ?_
              refine tk 18 ?_
              refine tk 19 ?_
              refine tk 20 ?_
              refine tk 21 ?_
              refine tk 22 ?_
              refine tk 23 ?_
              refine tk 24 ?_
              refine tk 25 ?_
              refine tk 26 ?_
              refine tk 27 ?_
              refine tk 28 ?_
              refine wpAnyH_ready (rs := [29]) (by kernel_rfl) (by simp) ?_
              refine AllReadyH.cons rfl (fun K hK => ?_) AllReadyH.nil
              go_simp
              go_at_call 125
              refine (hj _).mono ?_
              rintro e w1 ⟨rfl, hb1⟩
              go_wp2_with fail
              refine hK.out _ _ (by refine HK.out _ ?_; exact (Below.refl _ _).drew.trans (hb1.mono (by simp))) (fun hHeld2 => ?_)
              clear hK K
              refine tk 30 ?_
              refine wpAnyH_done (by kernel_rfl) ?_ _
              go_wp2_with fail
              go_roundw
              case rel =>
                refine ⟨m + 1 + 1, by omega, by omega, by go_num, fun j hj => ?_, HBW.out.trans (Below.mono ?_ HBW.out.size)⟩
                · by_cases e : j = m
                  · rw [e]; exact HPO.out
                  · exact hall.out j (by omega)
                · exact (Below.refl _ _).drew.trans (hb1.mono (by simp))
              case measure => simp [intOf]; omega
            · have hj := hj'
              have HV : Hid (vsB xs = false) := vs_bad2 m hlt (by rw [HE.out, HF.out]; unfold pairOk; rw [hjj]; simp)
              clear hj' hjj
              go_wp2_with fail
              refine wp_region_held_drew (S := (fun wX => (wX.cell? ⟨g, m * 5, none⟩ = some (.int .i64 P) ∧ wX.cell? ⟨g, m * 5 + 1, none⟩ = some (.int .i64 C) ∧ wX.cell? ⟨g, m * 5 + 2, none⟩ = some (.int .i64 O) ∧ wX.cell? ⟨g, m * 5 + 3, none⟩ = some (.int .i64 R) ∧ wX.cell? ⟨g, m * 5 + 4, none⟩ = some (.bool G)) ∧ (wX.cell? ⟨g, (m + 1) * 5, none⟩ = some (.int .i64 P2) ∧ wX.cell? ⟨g, (m + 1) * 5 + 1, none⟩ = some (.int .i64 C2) ∧ wX.cell? ⟨g, (m + 1) * 5 + 2, none⟩ = some (.int .i64 O2) ∧ wX.cell? ⟨g, (m + 1) * 5 + 3, none⟩ = some (.int .i64 R2) ∧ wX.cell? ⟨g, (m + 1) * 5 + 4, none⟩ = some (.bool G2)))) (by kernel_rfl) (HK.out _ ((Below.refl _ _).drew)) (fun hHeld => ?_)
              refine tk 0 ?_
              refine tk 1 ?_
              refine tk 2 ?_
              refine tk 3 ?_
              refine tk 4 ?_
              refine tk 5 ?_
              refine tk 6 ?_
              refine tk 7 ?_
              refine tk 8 ?_
              refine tk 9 ?_
              refine tk 10 ?_
              refine tk 11 ?_
              refine tk 12 ?_
              refine tk 13 ?_
              refine tk 14 ?_
              refine tk 15 ?_
              refine tk 16 ?_
              refine tk 17 ?_
              refine tk 18 ?_
              refine tk 19 ?_
              refine tk 20 ?_
              refine tk 21 ?_
              refine tk 22 ?_
              refine tk 23 ?_
              refine tk 24 ?_
              refine tk 25 ?_
              refine tk 26 ?_
              refine tk 27 ?_
              refine tk 28 ?_
              refine wpAnyH_ready (rs := [29]) (by kernel_rfl) (by simp) ?_
              refine AllReadyH.cons rfl (fun K hK => ?_) AllReadyH.nil
              go_simp
              go_at_call 125
              refine (hj _).mono ?_
              rintro e w1 ⟨rfl, hb1⟩
              go_wp2_with fail
              refine hK.out _ _ (by refine HK.out _ ?_; exact (Below.refl _ _).drew.trans (hb1.mono (by simp))) (fun hHeld2 => ?_)
              clear hK K
              refine tk 30 ?_
              refine wpAnyH_done (by kernel_rfl) ?_ _
              go_wp2_with fail
              go_ret
              exact ⟨by rw [HV.out]; rfl, HBW.out.trans (((Below.refl _ _).drew.trans (hb1.mono (by simp))).mono HBW.out.size)⟩
        · have HV : Hid (vsB xs = true) := vsB_true ⟨HALL.out, fun i hi => hall.out i (by omega)⟩
          go_wp2_with fail
          go_ret
          exact ⟨by rw [HV.out]; rfl, hbw⟩
end Go.Proofs.Ytnmhkgmmpkjjeaa
