import Derived.Test.YtnmhkgmmpkjjeaaG01
import Derived.Test.YtnmhkgmmpkjjeaaG03
namespace Go.Proofs.Ytnmhkgmmpkjjeaa
open Go.ChangeShapes Go.WideShapes Go.ChangeAt Go.RowKit
set_option linter.unusedVariables false
set_option maxRecDepth 100000
attribute [local go_sem ↓] Go.wp_at_zero Go.wp_at_succ
attribute [local go_sem] bs_size bs_cAt bs_app bs_mk bs_cut bs_list

theorem l4Digits_any (l : Txt) (w : World) (hle : l.length ≤ 20000) : Calls Try.prog 155 #[.string (bs l)] w fun e w' => e = .returned (.bool (digL l)) ∧ w' = w := by
  go_enter Try.func155, Try.ntmps155
  go_wp2_with fail
  go_loopw [3] (fun iv wr => ∃ (k : Nat), k ≤ l.length ∧ iv = .int .i64 k ∧ Hid (∀ j, j < k → isDig (cAt l j) = true) ∧ wr = w) (fun iv _ => l.length - (intOf iv).toNat)
  case atStart => exact ⟨0, Nat.zero_le _, rfl, hidP fun j hj => absurd hj (by omega), rfl⟩
  case round =>
    obtain ⟨k, hk, rfl, HO, rfl⟩ := hrel
    by_cases hlt : k < l.length
    · have HN : Hid (isDig (cAt l k) = false → digL l = false) := hidP fun h => by unfold digL; rw [all_no hlt h]; rfl
      have HY : Hid (isDig (cAt l k) = true → ∀ j, j < k + 1 → isDig (cAt l j) = true) := hidP fun h j hj => by
        by_cases e : j = k
        · rw [e]; exact h
        · exact HO.out j (by omega)
      obtain ⟨c, hc⟩ : ∃ c, cAt l k = c := ⟨_, rfl⟩
      rw [hc] at HN HY
      have L1 : (0 : Int) ≤ (k : Int) := by omega
      have L2 : (k : Int) < (l.length : Int) := by omega
      by_cases h1 : c.toNat < 48
      · have HR : Hid _ := HN.out (by unfold isDig; simp; omega)
        have e1 : (c.toNat : Int) < 48 := by omega
        clear h1
        go_wp2_with fail
        go_ret
        exact ⟨by rw [HR.out]; rfl, rfl⟩
      · by_cases h2 : 57 < c.toNat
        · have HR : Hid _ := HN.out (by unfold isDig; simp; omega)
          have e1 : (48 : Int) ≤ c.toNat := by omega
          have e2 : (57 : Int) < c.toNat := by omega
          clear h1 h2
          go_wp2_with fail
          go_ret
          exact ⟨by rw [HR.out]; rfl, rfl⟩
        · have HR : Hid _ := HY.out (by unfold isDig; simp; omega)
          have e1 : (48 : Int) ≤ c.toNat := by omega
          have e2 : (c.toNat : Int) ≤ 57 := by omega
          clear h1 h2
          go_wp2_with fail
          go_roundw
          case rel => exact ⟨k + 1, by omega, by go_num, HR, by first | rfl | trivial⟩
          case measure => first | (simp [intOf]; done) | (simp [intOf]; omega)
    · have HE : Hid (digL l = decide (0 < l.length)) := hidP <| by
        unfold digL; rw [all_cAt.2 (fun j hj => HO.out j (by omega))]; rfl
      go_wp2_with fail
      go_ret
      refine ⟨?_, rfl⟩
      rw [HE.out]
      simp

set_option maxHeartbeats 1000000 in
theorem l4Number_any (l : Txt) (w : World) (hle : l.length ≤ 20000) : Calls Try.prog 119 #[.string (bs l)] w fun e w' => e = .returned (.int .i64 (numL l)) ∧ w' = w := by
  cases hd : digL l
  · have HR : Hid (numL l = -1) := hidP <| by unfold numL numOk; rw [hd]; rfl
    go_enter Try.func119, Try.ntmps119
    go_wp2_with (go_at_call 155; refine (l4Digits_any l _ hle).mono ?_; rintro e w' ⟨rfl, rfl⟩)
    go_ret
    exact ⟨by rw [HR.out]; rfl, rfl⟩
  · have HD : Hid (l.all isDig = true ∧ 0 < l.length) := hidP <| by unfold digL at hd; simpa using hd
    have h0 : 0 < l.length := HD.out.2
    have h0' : (0 : Int) < (l.length : Int) := by omega
    by_cases h6 : l.length ≤ 6
    · obtain ⟨c, hc⟩ : ∃ c, cAt l 0 = c := ⟨_, rfl⟩
      by_cases h48 : c.toNat = 48 ∧ 1 < l.length
      · have HR : Hid (numL l = -1) := hidP <| by unfold numL numOk; rw [hd, hc]; simp [h48]
        have e1 : ((c.toNat : Int) == 48) = true := by simp [h48.1]
        have e2 : (1 : Int) < (l.length : Int) := by omega
        have e3 : (l.length : Int) ≤ 6 := by omega
        clear h48 h6
        go_enter Try.func119, Try.ntmps119
        go_wp2_with (go_at_call 155; refine (l4Digits_any l _ hle).mono ?_; rintro e w' ⟨rfl, rfl⟩)
        go_ret
        exact ⟨by rw [HR.out]; rfl, rfl⟩
      · have HR : Hid (numL l = valL l) := hidP <| by
          unfold numL
          rw [if_pos (by unfold numOk; rw [hd, hc]; simp; refine ⟨h6, by omega⟩)]
        have HV : Hid _ := fun {k : Nat} (hk : k ≤ l.length) => valL_le HD.out.1 h6 hk
        have e3 : (l.length : Int) ≤ 6 := by omega
        by_cases h4 : c.toNat = 48
        · have e1 : ((c.toNat : Int) == 48) = true := by simp [h4]
          have e2 : (l.length : Int) ≤ 1 := by omega
          clear h48 h4
          go_enter Try.func119, Try.ntmps119
          go_wp2_with (go_at_call 155; refine (l4Digits_any l _ hle).mono ?_; rintro e w' ⟨rfl, rfl⟩)
          go_loopw [3, 4] (fun nv iv wr => ∃ (k : Nat), k ≤ l.length ∧ iv = .int .i64 k ∧ nv = .int .i64 (valL (l.take k)) ∧ wr = w') (fun _ iv _ => l.length - (intOf iv).toNat)
          case atStart => exact ⟨0, Nat.zero_le _, rfl, rfl, rfl⟩
          case round =>
            obtain ⟨k, hk, rfl, rfl, rfl⟩ := hrel
            by_cases hlt : k < l.length
            · have HSU : Hid _ := valL_succ hlt
              have HDI : Hid _ := all_cAt.1 HD.out.1 k hlt
              have hV := HV.out (k := k) (by omega)
              obtain ⟨V, hVe⟩ : ∃ V, valL (l.take k) = V := ⟨_, rfl⟩
              rw [hVe] at hV HSU ⊢
              obtain ⟨c2, hc2⟩ : ∃ c2, cAt l k = c2 := ⟨_, rfl⟩
              rw [hc2] at HSU HDI
              obtain ⟨d, hd2, hd9⟩ : ∃ d : Nat, c2.toNat = d + 48 ∧ d ≤ 9 := by
                have := HDI.out
                unfold isDig at this
                simp at this
                exact ⟨c2.toNat - 48, by omega, by omega⟩
              rw [hd2, Nat.add_sub_cancel] at HSU
              have w1 : IntKind.u8.wrap ((d : Int)) = (d : Int) := by rw [IntKind.wrap_u8]; omega
              have w2 : IntKind.i64.wrap ((V : Int) * 10) = (V : Int) * 10 := by rw [IntKind.wrap_i64]; omega
              have w3 : IntKind.i64.wrap ((d : Int)) = (d : Int) := by rw [IntKind.wrap_i64]; omega
              have w4 : IntKind.i64.wrap ((V : Int) * 10 + (d : Int)) = (V : Int) * 10 + (d : Int) := by rw [IntKind.wrap_i64]; omega
              have L1 : (0 : Int) ≤ (k : Int) := by omega
              have L2 : (k : Int) < (l.length : Int) := by omega
              clear hVe
              go_wp2_with fail
              go_roundw
              case rel => exact ⟨k + 1, by omega, by go_num, by rw [HSU.out]; go_num, by first | rfl | trivial⟩
              case measure => first | (simp [intOf]; done) | (simp [intOf]; omega)
            · have hkl : k = l.length := by omega
              have HZ : Hid (valL (l.take k) = valL l) := hidP <| by rw [hkl, List.take_length]
              go_wp2_with fail
              go_ret
              refine ⟨?_, rfl⟩
              rw [HR.out, ← HZ.out]
              rfl
        · have e1 : ((c.toNat : Int) == 48) = false := by simp; omega
          clear h48 h4
          go_enter Try.func119, Try.ntmps119
          go_wp2_with (go_at_call 155; refine (l4Digits_any l _ hle).mono ?_; rintro e w' ⟨rfl, rfl⟩)
          go_loopw [3, 4] (fun nv iv wr => ∃ (k : Nat), k ≤ l.length ∧ iv = .int .i64 k ∧ nv = .int .i64 (valL (l.take k)) ∧ wr = w') (fun _ iv _ => l.length - (intOf iv).toNat)
          case atStart => exact ⟨0, Nat.zero_le _, rfl, rfl, rfl⟩
          case round =>
            obtain ⟨k, hk, rfl, rfl, rfl⟩ := hrel
            by_cases hlt : k < l.length
            · have HSU : Hid _ := valL_succ hlt
              have HDI : Hid _ := all_cAt.1 HD.out.1 k hlt
              have hV := HV.out (k := k) (by omega)
              obtain ⟨V, hVe⟩ : ∃ V, valL (l.take k) = V := ⟨_, rfl⟩
              rw [hVe] at hV HSU ⊢
              obtain ⟨c2, hc2⟩ : ∃ c2, cAt l k = c2 := ⟨_, rfl⟩
              rw [hc2] at HSU HDI
              obtain ⟨d, hd2, hd9⟩ : ∃ d : Nat, c2.toNat = d + 48 ∧ d ≤ 9 := by
                have := HDI.out
                unfold isDig at this
                simp at this
                exact ⟨c2.toNat - 48, by omega, by omega⟩
              rw [hd2, Nat.add_sub_cancel] at HSU
              have w1 : IntKind.u8.wrap ((d : Int)) = (d : Int) := by rw [IntKind.wrap_u8]; omega
              have w2 : IntKind.i64.wrap ((V : Int) * 10) = (V : Int) * 10 := by rw [IntKind.wrap_i64]; omega
              have w3 : IntKind.i64.wrap ((d : Int)) = (d : Int) := by rw [IntKind.wrap_i64]; omega
              have w4 : IntKind.i64.wrap ((V : Int) * 10 + (d : Int)) = (V : Int) * 10 + (d : Int) := by rw [IntKind.wrap_i64]; omega
              have L1 : (0 : Int) ≤ (k : Int) := by omega
              have L2 : (k : Int) < (l.length : Int) := by omega
              clear hVe
              go_wp2_with fail
              go_roundw
              case rel => exact ⟨k + 1, by omega, by go_num, by rw [HSU.out]; go_num, by first | rfl | trivial⟩
              case measure => first | (simp [intOf]; done) | (simp [intOf]; omega)
            · have hkl : k = l.length := by omega
              have HZ : Hid (valL (l.take k) = valL l) := hidP <| by rw [hkl, List.take_length]
              go_wp2_with fail
              go_ret
              refine ⟨?_, rfl⟩
              rw [HR.out, ← HZ.out]
              rfl
    · have HR : Hid (numL l = -1) := hidP <| by unfold numL numOk; rw [decide_eq_false h6]; simp
      have e3 : (6 : Int) < (l.length : Int) := by omega
      clear h6
      go_enter Try.func119, Try.ntmps119
      go_wp2_with (go_at_call 155; refine (l4Digits_any l _ hle).mono ?_; rintro e w' ⟨rfl, rfl⟩)
      go_ret
      exact ⟨by rw [HR.out]; rfl, rfl⟩

set_option maxHeartbeats 1000000 in
theorem l4IsName_any (l : Txt) (w : World) (hle : l.length ≤ 20000) : Calls Try.prog 118 #[.string (bs l)] w fun e w' => e = .returned (.bool (nameL l)) ∧ w' = w := by
  by_cases h0 : l.length = 0
  · have HR : Hid (nameL l = false) := hidP <| by unfold nameL; simp [h0]
    have e0 : ((l.length : Int) == 0) = true := by simp [h0]
    clear h0
    go_enter Try.func118, Try.ntmps118
    go_wp2
    go_ret
    exact ⟨by rw [HR.out]; rfl, rfl⟩
  · have e0 : ((l.length : Int) == 0) = false := by rw [beq_eq_false_iff_ne]; omega
    have g0 : (0 : Int) < (l.length : Int) := by omega
    by_cases h1 : l.length ≤ 16
    · have e1 : (l.length : Int) ≤ 16 := by omega
      obtain ⟨c, hc⟩ : ∃ c, cAt l 0 = c := ⟨_, rfl⟩
      by_cases h2 : c.toNat < 97
      · have HR : Hid (nameL l = false) := hidP <| by unfold nameL isLow; rw [hc, decide_eq_false (show ¬ 97 ≤ c.toNat by omega)]; simp
        have e2 : (c.toNat : Int) < 97 := by omega
        clear h2 h1 h0
        go_enter Try.func118, Try.ntmps118
        go_wp2
        go_ret
        exact ⟨by rw [HR.out]; rfl, rfl⟩
      · have e2 : (97 : Int) ≤ (c.toNat : Int) := by omega
        by_cases h3 : 122 < c.toNat
        · have HR : Hid (nameL l = false) := hidP <| by unfold nameL isLow; rw [hc, decide_eq_false (show ¬ c.toNat ≤ 122 by omega)]; simp
          have e3 : (122 : Int) < (c.toNat : Int) := by omega
          clear h3 h2 h1 h0
          go_enter Try.func118, Try.ntmps118
          go_wp2
          go_ret
          exact ⟨by rw [HR.out]; rfl, rfl⟩
        · have HR : Hid (nameL l = !isKw l) := hidP <| by unfold nameL isLow; rw [hc, decide_eq_true (show 97 ≤ c.toNat by omega), decide_eq_true (show c.toNat ≤ 122 by omega), decide_eq_true h1, decide_eq_true (show 0 < l.length by omega)]; simp
          have e3 : (c.toNat : Int) ≤ 122 := by omega
          clear h3 h2 h1 h0
          go_enter Try.func118, Try.ntmps118
          go_wp2
          all_goals
            go_ret
            refine ⟨?_, rfl⟩
            rw [HR.out]
            unfold isKw
            simp [*]
    · have HR : Hid (nameL l = false) := hidP <| by unfold nameL; rw [decide_eq_false h1]; simp
      have e1 : (16 : Int) < (l.length : Int) := by omega
      clear h1 h0
      go_enter Try.func118, Try.ntmps118
      go_wp2
      go_ret
      exact ⟨by rw [HR.out]; rfl, rfl⟩

theorem l4PermText_any (k : Nat) (h1 : 1 ≤ k) (h7 : k ≤ 7) (w : World) : Calls Try.prog 154 #[.int .i64 k] w fun e w' => e = .returned (.string (bs (ptxt k))) ∧ w' = w := by
  rcases (show k = 1 ∨ k = 2 ∨ k = 3 ∨ k = 4 ∨ k = 5 ∨ k = 6 ∨ k = 7 by omega) with rfl | rfl | rfl | rfl | rfl | rfl | rfl
  all_goals as_aux_lemma =>
    go_enter Try.func154, Try.ntmps154
    go_wp2
    go_ret
    exact ⟨rfl, rfl⟩

theorem l4Perm_any (l : Txt) (w : World) : Calls Try.prog 120 #[.string (bs l)] w fun e w' => e = .returned (.int .i64 (permL l)) ∧ w' = w := by
  go_enter Try.func120, Try.ntmps120
  go_wp2_with fail
  go_loopw [3] (fun iv wr => ∃ (k : Nat), 1 ≤ k ∧ k ≤ 8 ∧ iv = .int .i64 k ∧ Hid (∀ j, 1 ≤ j → j < k → (ptxt j == l) = false) ∧ wr = w) (fun iv _ => 8 - (intOf iv).toNat)
  case atStart => exact ⟨1, by omega, by omega, rfl, hidP fun j hj hk => absurd hk (by omega), rfl⟩
  case round =>
    obtain ⟨k, h1, h8, rfl, HO, rfl⟩ := hrel
    by_cases hlt : k ≤ 7
    · have HC : Hid _ := l4PermText_any k h1 hlt
      have L2 : (k : Int) ≤ 7 := by omega
      cases hp : ptxt k == l
      · have HN : Hid ((ptxt k == l) = false) := hp
        go_wp2_with (go_at_call 154; refine (HC.out _).mono ?_; rintro e w' ⟨rfl, rfl⟩)
        go_roundw
        case rel =>
          refine ⟨k + 1, by omega, by omega, by go_num, hidP fun j hj hk => ?_, by first | rfl | trivial⟩
          by_cases e : j = k
          · rw [e]; exact HN.out
          · exact HO.out j hj (by omega)
        case measure => first | (simp [intOf]; done) | (simp [intOf]; omega)
      · have HR : Hid (permL l = k) := hidP (permL_eq h1 hlt hp)
        go_wp2_with (go_at_call 154; refine (HC.out _).mono ?_; rintro e w' ⟨rfl, rfl⟩)
        go_ret
        exact ⟨by rw [HR.out]; rfl, rfl⟩
    · have HR : Hid (permL l = 0) := hidP (permL_none fun j hj hk => HO.out j hj (by omega))
      have L2 : (7 : Int) < (k : Int) := by omega
      go_wp2_with fail
      go_ret
      exact ⟨by rw [HR.out]; rfl, rfl⟩
end Go.Proofs.Ytnmhkgmmpkjjeaa
