import Derived.Test.YtnmhkgmmpkjjeaaG44
namespace Go.Proofs.Ytnmhkgmmpkjjeaa
open Go.ChangeShapes Go.WideShapes Go.ChangeAt Go.RowKit
set_option linter.unusedVariables false
set_option linter.unusedSimpArgs false
set_option maxRecDepth 100000
attribute [local go_sem ↓] Go.wp_at_zero Go.wp_at_succ
attribute [local go_sem] bs_size bs_cAt bs_app bs_mk bs_cut bs_list

/-! DrawReadPolicy: some text. -/
def strOf : Value → Nat
  | .string s => s.size
  | _ => 0
theorem strOf_bs (t : Txt) : strOf (.string (bs t)) = t.length := bs_size t
theorem SomeT.up {n m : Nat} {w : World} {e : Ending} {w' : World} (h : SomeT n w e w') (hm : n ≤ m) : SomeT m w e w' := by
  obtain ⟨t, e, hl, hb⟩ := h
  exact ⟨t, e, by omega, hb⟩
set_option maxHeartbeats 4000000 in
theorem drawPol_any (a : Option Addr) (cap : Nat) (cs : List Int) (w : World) (hc : Byt cs) (hs : BAt w a cs) : Calls Try.prog 16 #[.slice a cs.length cap] w (SomeT 3000000 w) := by
  have t1 := hidP (take_any a cap cs 0 24 w hc (by omega) (by omega) hs)
  have bH := tkV_bd cs 0 24 (by omega) hc (by omega)
  have t2 := hidP (fun wX (hX : Below w.heap.size w wX) => drawText_any 0 (.inl rfl) a cap cs 1 wX hc (by omega) (hs.below hX))
  have hlen : (drTxt 0 cs 1).length ≤ 900100 := by
    have := (drTxt_len 0 cs 1 hc (by omega)).1
    unfold drTxt
    split
    · rw [List.length_append]
      have : tGrd.length = 32 := rfl
      omega
    · omega
  obtain ⟨b0, b1⟩ := arN_bd cs
  obtain ⟨Q, hQ⟩ : ∃ Q : Nat, 1 + 5 * arN cs = Q := ⟨_, rfl⟩
  have hQ1 : Q ≤ 100000 := by omega
  rw [hQ] at t2
  have t3 := hidP (fun wX (hX : Below w.heap.size w wX) => take_any a cap cs Q 4 wX hc (by omega) (by omega) (hs.below hX))
  have bX := tkV_bd cs Q 4 (by omega) hc (by omega)
  have tE := hidP (fun wX (hX : Below w.heap.size w wX) => extra_any a cap cs Q wX hc (by omega) (hs.below hX))
  have tS := hidP (fun (s : Txt) wX (hl : s.length ≤ 950000) (hX : Below w.heap.size w wX) => spoilT_any a cap cs (Q + 2) s wX hc (by omega) hl (hs.below hX))
  have HS : Hid (∀ (n : Nat) wX, n ≤ 1000000 → Calls Try.prog 54 #[.int .i64 (n : Int)] wX fun e w' => e = .returned (.string (bs (showL n))) ∧ Below wX.heap.size wX w') := hidP (fun n wX hn => l4Show_any n (by omega) wX)
  generalize drTxt 0 cs 1 = S at *
  generalize tkV cs 0 24 = HW at *
  generalize tkV cs Q 4 = X at *
  have eq2 : ((Q + 2 : Nat) : Int) = (Q : Int) + 2 := by omega
  rw [eq2] at tS
  have WQ : IntKind.i64.wrap ((Q : Int) + 2) = (Q : Int) + 2 := by rw [IntKind.wrap_i64]; omega
  have c0 : ((0 : Nat) : Int) = 0 := rfl
  have c1 : ((1 : Nat) : Int) = 1 := rfl
  rw [c0] at t1
  rw [c1] at t2
  have e01 : (0 : Int) + 1 = 1 := rfl
  rw [e01] at t1
  clear hc hs hQ eq2 c0 c1 e01 b0 b1
  go_enter Try.func16, Try.ntmps16
  go_wp2_with fail
  refine t1.out.mono ?_
  rintro e w1 ⟨rfl, hb1⟩
  have t4 := hidP (t2.out w1 hb1)
  have HB1 := hidP hb1
  clear t1 t2 hb1
  go_wp2_with fail
  refine t4.out.mono ?_
  rintro e w2 ⟨rfl, hb2⟩
  have HB2 : Hid (Below w.heap.size w w2) := hidP (HB1.out.trans (hb2.mono HB1.out.size))
  clear t4 hb2 HB1
  by_cases h23 : HW = 23
  · subst h23
    have t5 := hidP (t3.out w2 HB2.out)
    clear t3 tE tS
    go_wp2_with fail
    refine t5.out.mono ?_
    rintro e w3 ⟨rfl, hb3⟩
    have HB3 : Hid (Below w.heap.size w w3) := hidP (HB2.out.trans (hb3.mono HB2.out.size))
    clear t5 hb3
    go_wp2_with fail
    go_loopw [9] (fun tv wr => ∃ T : Txt, tv = .string (bs T) ∧ 10 ≤ T.length ∧ T.length ≤ 40000 ∧ wr = w3) (fun tv _ => 40000 - strOf tv)
    case atStart => exact ⟨[103, 117, 97, 114, 100, 32, 49, 32, 49, 59], rfl, by decide, by decide, rfl⟩
    case round =>
      obtain ⟨T, rfl, l0, l1, hw⟩ := hrel
      obtain rfl : w3 = wr := hw.symm
      by_cases hlt : T.length < 20000
      · have K1 : (T.length : Int) < 20000 := by omega
        have q1 : ¬ 9223372036854775807 < T.length + T.length := by omega
        go_wp2_with fail
        go_roundw
        case rel => exact ⟨T ++ T, rfl, by rw [List.length_append]; omega, by rw [List.length_append]; omega, by first | trivial | rfl⟩
        case measure => simp [strOf_bs]; omega
      · have K1 : ¬ (T.length : Int) < 20000 := by omega
        have K2 : (20000 : Int) ≤ (T.length : Int) := by omega
        rcases (show X = 0 ∨ X = 1 ∨ X = 2 ∨ X = 3 by omega) with rfl | rfl | rfl | rfl
        · go_wp2_with fail
          go_ret
          exact ⟨_, rfl, Nat.le_trans (cutL_le T _ _) (by omega), HB3.out⟩
        · go_wp2_with fail
          go_ret
          exact ⟨_, rfl, by omega, HB3.out⟩
        · go_wp2_with fail
          go_loopw [9, 10] (fun tv iv wr => ∃ (i : Nat) (T : Txt), iv = .int .i64 (i : Int) ∧ tv = .string (bs T) ∧ i ≤ 1000 ∧ T.length ≤ i * 1100 ∧ Below w.heap.size w wr) (fun _ iv _ => 1000 - (intOf iv).toNat)
          case atStart => exact ⟨0, [], rfl, rfl, by omega, by simp, HB3.out⟩
          case round =>
            obtain ⟨i, U, rfl, rfl, hi, hU, hbr⟩ := hrel
            have HBR := hidP hbr
            clear hbr
            by_cases hlt : i < 1000
            · have K3 : (i : Int) < 1000 := by omega
              have t6 := hidP (HS.out i wr (by omega))
              have hl := showL_len i
              generalize showL i = V at *
              have q1 : ¬ 9223372036854775807 < U.length + 6 := by omega
              have q2 : ¬ 9223372036854775807 < U.length + 6 + V.length := by omega
              have q2' : ¬ 9223372036854775807 < U.length + (6 + V.length) := by omega
              have q2b : ¬ 9223372036854775807 < U.length + (V.length + 1 + 1 + 1 + 1 + 1 + 1) := by omega
              have q3 : ¬ 9223372036854775807 < U.length + 6 + V.length + 3 := by omega
              have q3' : ¬ 9223372036854775807 < U.length + (6 + (V.length + 3)) := by omega
              have q3b : ¬ 9223372036854775807 < U.length + (V.length + 1 + 1 + 1 + 1 + 1 + 1) + 3 := by omega
              have q3c : ¬ 9223372036854775807 < U.length + (V.length + 3 + 1 + 1 + 1 + 1 + 1 + 1) := by omega
              go_wp2_with fail
              refine t6.out.mono ?_
              rintro e w4 ⟨rfl, hb4⟩
              have HB4 : Hid (Below w.heap.size w w4) := hidP (HBR.out.trans (hb4.mono HBR.out.size))
              clear t6 hb4
              go_wp2_with fail
              go_roundw
              case rel => exact ⟨i + 1, _, by go_num, rfl, by omega, by simp; omega, HB4.out⟩
              case measure => simp [intOf]; omega
            · obtain rfl : i = 1000 := by omega
              go_wp2_with fail
              go_ret
              exact ⟨_, rfl, by omega, HBR.out⟩
        · go_wp2_with fail
          go_loopw [9, 10] (fun tv iv wr => ∃ (i : Nat) (T : Txt), iv = .int .i64 (i : Int) ∧ tv = .string (bs T) ∧ i ≤ 1001 ∧ T.length ≤ i * 1100 ∧ Below w.heap.size w wr) (fun _ iv _ => 1001 - (intOf iv).toNat)
          case atStart => exact ⟨0, [], rfl, rfl, by omega, by simp, HB3.out⟩
          case round =>
            obtain ⟨i, U, rfl, rfl, hi, hU, hbr⟩ := hrel
            have HBR := hidP hbr
            clear hbr
            by_cases hlt : i < 1001
            · have K3 : (i : Int) < 1001 := by omega
              have t6 := hidP (HS.out i wr (by omega))
              have hl := showL_len i
              generalize showL i = V at *
              have q1 : ¬ 9223372036854775807 < U.length + 6 := by omega
              have q2 : ¬ 9223372036854775807 < U.length + 6 + V.length := by omega
              have q2' : ¬ 9223372036854775807 < U.length + (6 + V.length) := by omega
              have q2b : ¬ 9223372036854775807 < U.length + (V.length + 1 + 1 + 1 + 1 + 1 + 1) := by omega
              have q3 : ¬ 9223372036854775807 < U.length + 6 + V.length + 3 := by omega
              have q3' : ¬ 9223372036854775807 < U.length + (6 + (V.length + 3)) := by omega
              have q3b : ¬ 9223372036854775807 < U.length + (V.length + 1 + 1 + 1 + 1 + 1 + 1) + 3 := by omega
              have q3c : ¬ 9223372036854775807 < U.length + (V.length + 3 + 1 + 1 + 1 + 1 + 1 + 1) := by omega
              go_wp2_with fail
              refine t6.out.mono ?_
              rintro e w4 ⟨rfl, hb4⟩
              have HB4 : Hid (Below w.heap.size w w4) := hidP (HBR.out.trans (hb4.mono HBR.out.size))
              clear t6 hb4
              go_wp2_with fail
              go_roundw
              case rel => exact ⟨i + 1, _, by go_num, rfl, by omega, by simp; omega, HB4.out⟩
              case measure => simp [intOf]; omega
            · obtain rfl : i = 1001 := by omega
              go_wp2_with fail
              go_ret
              exact ⟨_, rfl, by omega, HBR.out⟩
  · have h23b : (HW == 23) = false := by simpa using h23
    by_cases h15 : 15 ≤ HW
    · have t6 := hidP (tE.out w2 HB2.out)
      go_wp2_with fail
      refine t6.out.mono ?_
      rintro e w4 ⟨V, rfl, hV, hb4⟩
      have HB4 : Hid (Below w.heap.size w w4) := hidP (HB2.out.trans (hb4.mono HB2.out.size))
      have q1 : ¬ 9223372036854775807 < S.length + V.length := by omega
      clear t6 hb4
      by_cases h4 : HW % 4 = 0
      · have e4 : HW.tmod 4 = 0 := by rw [Int.tmod_eq_emod_of_nonneg (by omega)]; exact h4
        have t7 := hidP (tS.out (S ++ V) w4 (by rw [List.length_append]; omega) HB4.out)
        clear h4
        go_wp2_with fail
        refine t7.out.mono ?_
        rintro e w5 ⟨T, rfl, hT, hb5⟩
        have HB5 : Hid (Below w.heap.size w w5) := hidP (HB4.out.trans (hb5.mono HB4.out.size))
        clear t7 hb5
        go_wp2_with fail
        go_ret
        exact ⟨_, rfl, hT, HB5.out⟩
      · obtain ⟨r4, hr4⟩ : ∃ r4, HW % 4 = r4 := ⟨_, rfl⟩
        have e4 : HW.tmod 4 = r4 := by rw [Int.tmod_eq_emod_of_nonneg (by omega)]; exact hr4
        have e5 : (r4 == 0) = false := by rw [← hr4]; simpa using h4
        clear h4 hr4
        go_wp2_with fail
        go_ret
        exact ⟨_, rfl, by rw [List.length_append]; omega, HB4.out⟩
    · have h15b : ¬ (15 : Int) ≤ HW := h15
      by_cases h4 : HW % 4 = 0
      · have e4 : HW.tmod 4 = 0 := by rw [Int.tmod_eq_emod_of_nonneg (by omega)]; exact h4
        have t7 := hidP (tS.out S w2 (by omega) HB2.out)
        clear h4
        go_wp2_with fail
        refine t7.out.mono ?_
        rintro e w5 ⟨T, rfl, hT, hb5⟩
        have HB5 : Hid (Below w.heap.size w w5) := hidP (HB2.out.trans (hb5.mono HB2.out.size))
        clear t7 hb5
        go_wp2_with fail
        go_ret
        exact ⟨_, rfl, hT, HB5.out⟩
      · obtain ⟨r4, hr4⟩ : ∃ r4, HW % 4 = r4 := ⟨_, rfl⟩
        have e4 : HW.tmod 4 = r4 := by rw [Int.tmod_eq_emod_of_nonneg (by omega)]; exact hr4
        have e5 : (r4 == 0) = false := by rw [← hr4]; simpa using h4
        clear h4 hr4
        go_wp2_with fail
        go_ret
        exact ⟨_, rfl, by omega, HB2.out⟩
end Go.Proofs.Ytnmhkgmmpkjjeaa
