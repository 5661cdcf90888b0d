import Derived.Test.YtnmhkgmmpkjjeaaG01
namespace Go.Proofs.Ytnmhkgmmpkjjeaa
open Go.ChangeShapes Go.WideShapes Go.ChangeAt Go.RowKit
set_option linter.unusedVariables false
set_option maxRecDepth 100000
attribute [local go_sem ↓] Go.wp_at_zero Go.wp_at_succ
attribute [local go_sem] bs_size bs_cAt bs_app bs_mk bs_cut bs_list

set_option maxHeartbeats 4000000 in
theorem l4Tokens_any (l : Txt) (w : World) (hle : l.length ≤ 20000) : Calls Try.prog 59 #[.string (bs l)] w fun e w' => ∃ v, e = .returned v ∧ LS eTok w w' v (tokL [] l) := by
  obtain ⟨i0, hi, hz0, hz1, hz2⟩ := info_parts infoTok
  have HS : Hid (LS eTok w (w.alloc (.cells #[] 109)) (.slice (some ⟨w.heap.size, 0, none⟩) 0 0) []) := LS.new eTok w
  go_enter Try.func59, Try.ntmps59
  go_wp2_with fail
  go_loopw [3, 4, 5] (fun vv sv iv wr => ∃ (k : Nat) (T : List Txt) (W : Txt), k ≤ l.length + 1 ∧ iv = .int .i64 k ∧ sv = .string (bs W) ∧ LS eTok w wr vv T ∧ Hid (k ≤ l.length → T ++ tokL W (l.drop k) = tokL [] l) ∧ Hid (k = l.length + 1 → T = tokL [] l) ∧ Hid (T.length + W.length ≤ k)) (fun _ _ iv _ => l.length + 1 - (intOf iv).toNat)
  case atStart => exact ⟨0, [], [], Nat.zero_le _, rfl, rfl, HS.out, hidP fun _ => rfl, hidP fun h => by simp at h, hidP (by simp)⟩
  case round =>
    obtain ⟨k, T, W, hk, rfl, rfl, hst, HT, HZ, HK⟩ := hrel
    by_cases hlt : k < l.length
    · have HD : Hid _ := drop_cAt hlt
      have hcut := cut_cAt hlt
      obtain ⟨c, hc⟩ : ∃ c, cAt l k = c := ⟨_, rfl⟩
      rw [hc] at HD hcut
      have HE : Hid (T ++ tokL W (c :: l.drop (k + 1)) = tokL [] l) := hidP <| by rw [← HD.out]; exact HT.out (by omega)
      have hW : W.length < 9223372036854775807 := by have := HK.out; omega
      have L1 : (0 : Int) ≤ (k : Int) := by omega
      have L2 : (k : Int) < (l.length : Int) := by omega
      have L3 : (0 : Int) ≤ (k : Int) + 1 := by omega
      have L4 : (k : Int) + 1 ≤ (l.length : Int) := by omega
      have L5 : (k : Int) ≤ (l.length : Int) := by omega
      cases hw : isWd c
      · have HE2 : Hid ((T ++ (flush W ++ (if decide (c.toNat = 59) then [[59]] else []))) ++ tokL [] (l.drop (k + 1)) = tokL [] l) := hidP <| by
          rw [← HE.out, tokL, hw]; simp
        by_cases h59 : c.toNat = 59
        · have e59 : ((c.toNat : Int) == 59) = true := by simp [h59]
          have HE3 : Hid ((T ++ (flush W ++ [[59]])) ++ tokL [] (l.drop (k + 1)) = tokL [] l) := hidP <| by
            rw [← HE2.out, decide_eq_true h59]; rfl
          clear h59
          by_cases hWn : W = []
          · subst hWn
            obtain ⟨⟨gv1, cv1, rfl, hrow⟩, hbel⟩ := hst
            have hsz1 := hbel.size
            have HROW1 : Hid _ := hrow
            have HB1 : Hid (Below _ w _) := hbel
            have hln1 : T.length ≤ 30000 := by have := HK.out; omega
            clear hrow hbel
            go_wp2_with (first | (go_at_call 117; refine (l4WordByte_any c _).mono ?_; rintro e w' ⟨rfl, rfl⟩) | (at_builtin; refine wpList_append_lies _ rfl (.tmp 48) (.tmp 50) 105 rfl w.heap.size 109 i0 _ 1 16 Try.underlying105 hi hz0 hz1 hz2 rfl (by omega) _ _ _ rfl (World.ownsRow.alloc HROW1.out _) ⟨_, 0, none⟩ 1 1 [.string (bs [59])] rfl rfl ?c1 ?c2 (by omega) ?c3 ?c4 ?c5 _ rfl ?_))
            case c1 => exact World.news_of_block (heap_alloc_new _ (.cells #[.string (bs [59])] 109))
            case c2 => intro u hu; simp at hu; rcases hu with rfl; rfl
            case c3 => unfold maxLen; omega
            case c4 => omega
            case c5 => simp; omega
            intro g1 cap1 wn1 hown hgrow hat hlt3
            have hst1 := LS.push (E := eTok) (x := [59]) HB1.out HROW1.out hown hgrow
            clear hown hgrow hat hlt3
            go_wp2_with fail
            go_roundw
            case rel => exact ⟨k + 1, T ++ [[59]], [], by omega, by go_num, rfl, hst1, hidP fun _ => HE3.out, hidP fun h => absurd h (by omega), hidP (by have := HK.out; simp at this ⊢; omega)⟩
            case measure => first | (simp [intOf]; done) | (simp [intOf]; omega)
          · have h0 : 0 < W.length := List.length_pos_iff.2 hWn
            have HF : Hid (flush W = [W]) := hidP <| by unfold flush; rw [if_neg hWn]
            clear hWn
            obtain ⟨⟨gv1, cv1, rfl, hrow⟩, hbel⟩ := hst
            have hsz1 := hbel.size
            have HROW1 : Hid _ := hrow
            have HB1 : Hid (Below _ w _) := hbel
            have hln1 : T.length ≤ 30000 := by have := HK.out; omega
            clear hrow hbel
            go_wp2_with (first | (go_at_call 117; refine (l4WordByte_any c _).mono ?_; rintro e w' ⟨rfl, rfl⟩) | (at_builtin; refine wpList_append_lies _ rfl (.tmp 33) (.tmp 36) 105 rfl w.heap.size 109 i0 _ 1 16 Try.underlying105 hi hz0 hz1 hz2 rfl (by omega) _ _ _ rfl (World.ownsRow.alloc HROW1.out _) ⟨_, 0, none⟩ 1 1 [.string (bs W)] rfl rfl ?c1 ?c2 (by omega) ?c3 ?c4 ?c5 _ rfl ?_))
            case c1 => exact World.news_of_block (heap_alloc_new _ (.cells #[.string (bs W)] 109))
            case c2 => intro u hu; simp at hu; rcases hu with rfl; rfl
            case c3 => unfold maxLen; omega
            case c4 => omega
            case c5 => simp; omega
            intro g1 cap1 wn1 hown hgrow hat hlt3
            have hst1 := LS.push (E := eTok) (x := W) HB1.out HROW1.out hown hgrow
            clear hown hgrow hat hlt3
            obtain ⟨T2, hT2⟩ : ∃ T2, T ++ [W] = T2 := ⟨_, rfl⟩
            have hT2l : T.length + 1 = T2.length := by rw [← hT2]; simp
            rw [hT2, hT2l] at hst1
            rw [hT2l]
            have HT2 : Hid _ := hT2
            have HT2l : Hid _ := hT2l
            clear hT2 hT2l
            obtain ⟨⟨gv2, cv2, eg2, hrow⟩, hbel⟩ := hst1
            have hsz2 := hbel.size
            have HROW2 : Hid _ := hrow
            have HB2 : Hid (Below _ w _) := hbel
            have hln2 : T2.length ≤ 30000 := by have := HK.out; have := HT2l.out; omega
            clear hrow hbel
            simp only [Value.slice.injEq, Option.some.injEq, Addr.mk.injEq, and_true, true_and] at eg2
            obtain ⟨rfl, rfl⟩ := eg2
            go_wp2_with (at_builtin; refine wpList_append_lies _ rfl (.tmp 48) (.tmp 50) 105 rfl w.heap.size 109 i0 _ 1 16 Try.underlying105 hi hz0 hz1 hz2 rfl (by omega) _ _ _ rfl (World.ownsRow.alloc HROW2.out _) ⟨_, 0, none⟩ 1 1 [.string (bs [59])] rfl rfl ?c1 ?c2 (by omega) ?c3 ?c4 ?c5 _ rfl ?_)
            case c1 => exact World.news_of_block (heap_alloc_new _ (.cells #[.string (bs [59])] 109))
            case c2 => intro u hu; simp at hu; rcases hu with rfl; rfl
            case c3 => unfold maxLen; omega
            case c4 => omega
            case c5 => simp; omega
            intro g2 cap2 wn2 hown hgrow hat hlt3
            have hst2 := LS.push (E := eTok) (x := [59]) HB2.out HROW2.out hown hgrow
            clear hown hgrow hat hlt3
            go_wp2_with fail
            go_roundw
            case rel => exact ⟨k + 1, T2 ++ [[59]], [], by omega, by go_num, rfl, hst2, hidP fun _ => by rw [← HE3.out, HF.out, ← HT2.out]; simp, hidP fun h => absurd h (by omega), hidP (by have := HK.out; have := HT2l.out; simp at this ⊢; omega)⟩
            case measure => first | (simp [intOf]; done) | (simp [intOf]; omega)
        · have e59 : ((c.toNat : Int) == 59) = false := by simp; omega
          have HE3 : Hid ((T ++ flush W) ++ tokL [] (l.drop (k + 1)) = tokL [] l) := hidP <| by
            rw [← HE2.out, decide_eq_false h59]; simp
          clear h59
          by_cases hWn : W = []
          · subst hWn
            go_wp2_with (go_at_call 117; refine (l4WordByte_any c _).mono ?_; rintro e w' ⟨rfl, rfl⟩)
            go_roundw
            case rel => exact ⟨k + 1, T, [], by omega, by go_num, rfl, hst, hidP fun _ => by rw [← HE3.out]; simp [flush], hidP fun h => absurd h (by omega), hidP (by have := HK.out; simp at this ⊢; omega)⟩
            case measure => first | (simp [intOf]; done) | (simp [intOf]; omega)
          · have h0 : 0 < W.length := List.length_pos_iff.2 hWn
            have HF : Hid (flush W = [W]) := hidP <| by unfold flush; rw [if_neg hWn]
            clear hWn
            obtain ⟨⟨gv1, cv1, rfl, hrow⟩, hbel⟩ := hst
            have hsz1 := hbel.size
            have HROW1 : Hid _ := hrow
            have HB1 : Hid (Below _ w _) := hbel
            have hln1 : T.length ≤ 30000 := by have := HK.out; omega
            clear hrow hbel
            go_wp2_with (first | (go_at_call 117; refine (l4WordByte_any c _).mono ?_; rintro e w' ⟨rfl, rfl⟩) | (at_builtin; refine wpList_append_lies _ rfl (.tmp 33) (.tmp 36) 105 rfl w.heap.size 109 i0 _ 1 16 Try.underlying105 hi hz0 hz1 hz2 rfl (by omega) _ _ _ rfl (World.ownsRow.alloc HROW1.out _) ⟨_, 0, none⟩ 1 1 [.string (bs W)] rfl rfl ?c1 ?c2 (by omega) ?c3 ?c4 ?c5 _ rfl ?_))
            case c1 => exact World.news_of_block (heap_alloc_new _ (.cells #[.string (bs W)] 109))
            case c2 => intro u hu; simp at hu; rcases hu with rfl; rfl
            case c3 => unfold maxLen; omega
            case c4 => omega
            case c5 => simp; omega
            intro g1 cap1 wn1 hown hgrow hat hlt3
            have hst1 := LS.push (E := eTok) (x := W) HB1.out HROW1.out hown hgrow
            clear hown hgrow hat hlt3
            go_wp2_with fail
            go_roundw
            case rel => exact ⟨k + 1, T ++ [W], [], by omega, by go_num, rfl, hst1, hidP fun _ => by rw [← HE3.out, HF.out], hidP fun h => absurd h (by omega), hidP (by have := HK.out; simp at this ⊢; omega)⟩
            case measure => first | (simp [intOf]; done) | (simp [intOf]; omega)
      · have HE2 : Hid (T ++ tokL (W ++ [c]) (l.drop (k + 1)) = tokL [] l) := hidP <| by
          rw [← HE.out, tokL, hw]; simp
        go_wp2_with (go_at_call 117; refine (l4WordByte_any c _).mono ?_; rintro e w' ⟨rfl, rfl⟩)
        go_roundw
        case rel => exact ⟨k + 1, T, W ++ [c], by omega, by go_num, rfl, hst, hidP fun _ => HE2.out, hidP fun h => absurd h (by omega), hidP (by have := HK.out; simp; omega)⟩
        case measure => first | (simp [intOf]; done) | (simp [intOf]; omega)
    · by_cases hz : k = l.length
      · have HE : Hid (T ++ flush W = tokL [] l) := hidP <| by
          have := HT.out (by omega)
          rw [hz, List.drop_length, tokL] at this
          exact this
        subst hz
        have L1 : (0 : Int) ≤ (l.length : Int) := by omega
        by_cases hWn : W = []
        · subst hWn
          go_wp2_with fail
          go_roundw
          case rel => exact ⟨l.length + 1, T, [], by omega, by go_num, rfl, hst, hidP fun h => absurd h (by omega), hidP fun _ => by rw [← HE.out]; simp [flush], hidP (by have := HK.out; simp at this ⊢; omega)⟩
          case measure => first | (simp [intOf]; done) | (simp [intOf]; omega)
        · have h0 : 0 < W.length := List.length_pos_iff.2 hWn
          have HF : Hid (flush W = [W]) := hidP <| by unfold flush; rw [if_neg hWn]
          clear hWn
          obtain ⟨⟨gv1, cv1, rfl, hrow⟩, hbel⟩ := hst
          have hsz1 := hbel.size
          have HROW1 : Hid _ := hrow
          have HB1 : Hid (Below _ w _) := hbel
          have hln1 : T.length ≤ 30000 := by have := HK.out; omega
          clear hrow hbel
          go_wp2_with (at_builtin; refine wpList_append_lies _ rfl (.tmp 33) (.tmp 36) 105 rfl w.heap.size 109 i0 _ 1 16 Try.underlying105 hi hz0 hz1 hz2 rfl (by omega) _ _ _ rfl (World.ownsRow.alloc HROW1.out _) ⟨_, 0, none⟩ 1 1 [.string (bs W)] rfl rfl ?c1 ?c2 (by omega) ?c3 ?c4 ?c5 _ rfl ?_)
          case c1 => exact World.news_of_block (heap_alloc_new _ (.cells #[.string (bs W)] 109))
          case c2 => intro u hu; simp at hu; rcases hu with rfl; rfl
          case c3 => unfold maxLen; omega
          case c4 => omega
          case c5 => simp; omega
          intro g1 cap1 wn1 hown hgrow hat hlt3
          have hst1 := LS.push (E := eTok) (x := W) HB1.out HROW1.out hown hgrow
          clear hown hgrow hat hlt3
          go_wp2_with fail
          go_roundw
          case rel => exact ⟨l.length + 1, T ++ [W], [], by omega, by go_num, rfl, hst1, hidP fun h => absurd h (by omega), hidP fun _ => by rw [← HE.out, HF.out], hidP (by have := HK.out; simp at this ⊢; omega)⟩
          case measure => first | (simp [intOf]; done) | (simp [intOf]; omega)
      · have hz2 : k = l.length + 1 := by omega
        have HE : Hid (T = tokL [] l) := hidP (HZ.out hz2)
        subst hz2
        go_wp2_with fail
        go_ret
        refine ⟨_, rfl, ?_⟩
        rw [← HE.out]
        exact hst
end Go.Proofs.Ytnmhkgmmpkjjeaa
