import Derived.Test.YtnmhkgmmpkjjeaaG06
namespace Go.Proofs.Ytnmhkgmmpkjjeaa
open Go.ChangeShapes Go.WideShapes Go.ChangeAt Go.RowKit
set_option linter.unusedVariables false
set_option maxRecDepth 100000
attribute [local go_sem ↓] Go.wp_at_zero Go.wp_at_succ
attribute [local go_sem] bs_size bs_cAt bs_app bs_mk bs_cut bs_list

theorem l3Meet_any (p a q b : Int) (h0 : 0 ≤ p ∧ p < 1000000) (h1 : 0 ≤ a ∧ a < 1000000) (h2 : 0 ≤ q ∧ q < 1000000) (h3 : 0 ≤ b ∧ b < 1000000) (w : World) :
    Calls Try.prog 86 #[.int .i64 p, .int .i64 a, .int .i64 q, .int .i64 b] w fun e w' => e = .returned (.bool (meetB p a q b)) ∧ w' = w := by
  unfold meetB
  by_cases c : p < q + b
  · have c' : decide (p < q + b) = true := decide_eq_true c
    by_cases d : q < p + a
    · have d' : decide (q < p + a) = true := decide_eq_true d
      rw [c', d']
      go_enter Try.func86, Try.ntmps86
      go_wp2_with fail
      go_ret
      exact ⟨rfl, rfl⟩
    · have d' : decide (q < p + a) = false := decide_eq_false d
      rw [c', d']
      go_enter Try.func86, Try.ntmps86
      go_wp2_with fail
      go_ret
      exact ⟨rfl, rfl⟩
  · have c' : decide (p < q + b) = false := decide_eq_false c
    rw [c']
    go_enter Try.func86, Try.ntmps86
    go_wp2_with fail
    go_ret
    exact ⟨by first | rfl | simp, rfl⟩

theorem code_0 (a : Option Addr) (c : Nat) (all : List St) (M : Txt) (A B P : Int) (X : Bool) (w : World) :
    Calls Try.prog 61 #[.slice a all.length c, stV ⟨0, M, A, B, P, X⟩] w fun e w' => e = .returned (.int .i64 4) ∧ Below w.heap.size w w' := by
  unfold stV
  dsimp only
  go_enter Try.func61, Try.ntmps61
  go_wp2_with fail
  go_ret
  refine ⟨rfl, ?_⟩
  repeat (first | exact Below.refl _ _ | with_reducible refine Below.drew ?_ | with_reducible refine Below.setCell ?_ (by first | omega | (simp <;> omega)) _ | with_reducible refine Below.alloc ?_ (by first | omega | (simp <;> omega)) _)
set_option maxHeartbeats 4000000 in
theorem code_1 (a : Option Addr) (c : Nat) (all : List St) (M : Txt) (A B P : Int) (X : Bool) (w : World) (hle : all.length ≤ 1000) (hr : StR w a all) (hall : ∀ t ∈ all, StOk t) (ha : 0 ≤ A ∧ A < 1000000) (hb : 0 ≤ B ∧ B < 1000000) :
    Calls Try.prog 61 #[.slice a all.length c, stV ⟨1, M, A, B, P, X⟩] w fun e w' => e = .returned (.int .i64 (codeL all ⟨1, M, A, B, P, X⟩)) ∧ Below w.heap.size w w' := by
  obtain ⟨R, hR⟩ : ∃ R, objOf all M = R := ⟨_, rfl⟩
  obtain ⟨k2, m2, a2, b2, p2, x2⟩ := R
  have HO : Hid (∀ wX, Below w.heap.size w wX → Calls Try.prog 121 #[.slice a all.length c, .string (bs M)] wX fun e w' => e = .returned (.agg #[.int .i64 k2, .string (bs m2), .int .i64 a2, .int .i64 b2, .int .i64 p2, .bool x2]) ∧ Below wX.heap.size wX w') := hidP fun wX hX => by
    have := l4Object_any a c all M wX hle (hr.below hX)
    rw [hR] at this
    exact this
  have HC : Hid (∀ wX, Below (w.alloc (.cells #[.int .i64 1, .string (bs M), .int .i64 A, .int .i64 B, .int .i64 P, .bool X] 112)).heap.size (w.alloc (.cells #[.int .i64 1, .string (bs M), .int .i64 A, .int .i64 B, .int .i64 P, .bool X] 112)) wX → StR wX a all ∧ wX.cell? ⟨w.heap.size, 2, none⟩ = some (.int .i64 A) ∧ wX.cell? ⟨w.heap.size, 3, none⟩ = some (.int .i64 B) ∧ wX.cell? ⟨w.heap.size, 0, none⟩ = some (.int .i64 1) ∧ wX.cell? ⟨w.heap.size, 1, none⟩ = some (.string (bs M))) := hidP fun wX hX => by
    refine ⟨(hr.below bal).below hX, ?_, ?_, ?_, ?_⟩ <;> (rw [hX.cell (by simp)]; simp)
  have HOK : Hid _ := hall
  have HBW : Hid (Below w.heap.size w (w.alloc (.cells #[.int .i64 1, .string (bs M), .int .i64 A, .int .i64 B, .int .i64 P, .bool X] 112))) := bal
  have HAB : Hid ((0 ≤ A ∧ A < 1000000) ∧ (0 ≤ B ∧ B < 1000000)) := ⟨ha, hb⟩
  have HX1 : Hid (codeL all ⟨1, M, A, B, P, X⟩ = if k2 == 1 then 5 else if A == 0 || decide (65536 < B + A) then 7 else if all.any (hitObj ⟨1, M, A, B, P, X⟩) then 8 else 0) := hidP <| by
    show (if (1 : Int) == 0 then (4 : Int) else if (1 : Int) == 1 then _ else _) = _; rw [if_neg (by decide), if_pos (by decide)]; dsimp only; rw [hR]
  have HSZ : (w.alloc (.cells #[.int .i64 1, .string (bs M), .int .i64 A, .int .i64 B, .int .i64 P, .bool X] 112)).heap.size = w.heap.size + 1 := by simp
  have HSZ2 : Hid _ := HSZ
  clear hr hall hR HSZ
  unfold stV
  dsimp only
  cases h1 : k2 == 1
  · by_cases hA : A = 0
    · have HV : Hid (codeL all ⟨1, M, A, B, P, X⟩ = 7) := hidP <| by rw [HX1.out, h1, if_neg (by decide), if_pos (by simp [hA])]
      have e0 : (A == 0) = true := by simp [hA]
      clear hA
      go_enter Try.func61, Try.ntmps61
      go_wp2_with fail
      refine (HO.out _ bal).mono ?_
      rintro e w1 ⟨rfl, hb1⟩
      obtain ⟨-, q2, q3, q0, q5⟩ := HC.out w1 hb1
      have hz1 : w.heap.size < w1.heap.size := by have := hb1.size; rw [HSZ2.out] at this; omega
      go_wp2_with fail
      go_ret
      refine ⟨by rw [HV.out]; rfl, ?_⟩
      exact HBW.out.trans ((hb1.alloc hb1.size _).mono (by simp))
    · have e0 : (A == 0) = false := by simp [hA]
      by_cases hL : 65536 < B + A
      · have HV : Hid (codeL all ⟨1, M, A, B, P, X⟩ = 7) := hidP <| by rw [HX1.out, h1, if_neg (by decide), if_pos (by simp [hL])]
        clear hA
        go_enter Try.func61, Try.ntmps61
        go_wp2_with fail
        refine (HO.out _ bal).mono ?_
        rintro e w1 ⟨rfl, hb1⟩
        obtain ⟨-, q2, q3, q0, q5⟩ := HC.out w1 hb1
        have hz1 : w.heap.size < w1.heap.size := by have := hb1.size; rw [HSZ2.out] at this; omega
        go_wp2_with fail
        go_ret
        refine ⟨by rw [HV.out]; rfl, ?_⟩
        exact HBW.out.trans ((hb1.alloc hb1.size _).mono (by simp))
      · have hL' : B + A ≤ 65536 := by omega
        have HX2 : Hid (codeL all ⟨1, M, A, B, P, X⟩ = if all.any (hitObj ⟨1, M, A, B, P, X⟩) then 8 else 0) := hidP <| by rw [HX1.out, h1, if_neg (by decide), if_neg (by simp [hL, hA])]
        clear hA hL
        go_enter Try.func61, Try.ntmps61
        go_wp2_with fail
        refine (HO.out _ bal).mono ?_
        rintro e w1 ⟨rfl, hb1⟩
        obtain ⟨-, q2, q3, q0, q5⟩ := HC.out w1 hb1
        have hz1 : w.heap.size < w1.heap.size := by have := hb1.size; rw [HSZ2.out] at this; omega
        go_wp2_with fail
        go_loopw [6] (fun iv wr => ∃ (k : Nat), k ≤ all.length ∧ iv = .int .i64 k ∧ Hid (∀ j, j < k → hitObj ⟨1, M, A, B, P, X⟩ (stAt all j) = false) ∧ Below (w.alloc (.cells #[.int .i64 1, .string (bs M), .int .i64 A, .int .i64 B, .int .i64 P, .bool X] 112)).heap.size (w.alloc (.cells #[.int .i64 1, .string (bs M), .int .i64 A, .int .i64 B, .int .i64 P, .bool X] 112)) wr) (fun iv _ => all.length - (intOf iv).toNat)
        case atStart => exact ⟨0, Nat.zero_le _, rfl, hidP fun j hj => absurd hj (by omega), hb1.alloc hb1.size _⟩
        case round =>
          obtain ⟨k, hk, rfl, HJ, hbel⟩ := hrel
          have HB : Hid _ := hbel
          have hsz := hbel.size
          rw [HSZ2.out] at hsz
          clear hbel
          by_cases hlt : k < all.length
          · obtain ⟨hR0, cA, cB, -, -⟩ := HC.out wr HB.out
            obtain ⟨g, rfl, hcc⟩ := hR0 (by omega)
            have HKK0 : Hid (∀ wX, Below (w.alloc (.cells #[.int .i64 1, .string (bs M), .int .i64 A, .int .i64 B, .int .i64 P, .bool X] 112)).heap.size (w.alloc (.cells #[.int .i64 1, .string (bs M), .int .i64 A, .int .i64 B, .int .i64 P, .bool X] 112)) wX → StC wX g k (stAt all k)) := hidP fun wX hX => by
              obtain ⟨hR1, _⟩ := HC.out wX hX
              obtain ⟨g', e, hcc'⟩ := hR1 (by omega)
              simp only [Option.some.injEq, Addr.mk.injEq, and_true] at e
              rw [e]
              exact hcc' k hlt
            obtain ⟨hg, c0, c1, c2, c3, c4, c5⟩ := hcc k hlt
            have HOKk : Hid _ := stAt_ok HOK.out k
            obtain ⟨s1, hs1⟩ : ∃ s1, stAt all k = s1 := ⟨_, rfl⟩
            rw [hs1] at c0 c1 c2 c3 c4 c5 HOKk HKK0
            obtain ⟨K1, M1, A1, B1, P1, X1⟩ := s1
            dsimp only at c0 c1 c2 c3 c4 c5
            have HE : Hid _ := hs1
            have HKK : Hid (∀ wX, Below (w.alloc (.cells #[.int .i64 1, .string (bs M), .int .i64 A, .int .i64 B, .int .i64 P, .bool X] 112)).heap.size (w.alloc (.cells #[.int .i64 1, .string (bs M), .int .i64 A, .int .i64 B, .int .i64 P, .bool X] 112)) wX → (fun wX => wX.cell? ⟨g, k * 6, none⟩ = some (.int .i64 K1) ∧ wX.cell? ⟨g, k * 6 + 2, none⟩ = some (.int .i64 A1) ∧ wX.cell? ⟨g, k * 6 + 3, none⟩ = some (.int .i64 B1) ∧ wX.cell? ⟨w.heap.size, 2, none⟩ = some (.int .i64 A) ∧ wX.cell? ⟨w.heap.size, 3, none⟩ = some (.int .i64 B)) wX) := hidP fun wX hX => ⟨(HKK0.out wX hX).k, (HKK0.out wX hX).a, (HKK0.out wX hX).b, (HC.out wX hX).2.1, (HC.out wX hX).2.2.1⟩
            have HM : Hid _ := l3Meet_any B A B1 A1 HAB.out.2 HAB.out.1 ⟨HOKk.out.b0, HOKk.out.b1⟩ ⟨HOKk.out.a0, HOKk.out.a1⟩
            have L1 : (0 : Int) ≤ (k : Int) := by omega
            have L2 : (k : Int) < (all.length : Int) := by omega
            clear hs1 hcc hR0 c1 c4 c5
            cases hK1 : K1 == 1
            · have HF : Hid (hitObj ⟨1, M, A, B, P, X⟩ ⟨K1, M1, A1, B1, P1, X1⟩ = false) := hidP <| by unfold hitObj; rw [hK1]; rfl
              go_wp2_with fail
              refine wp_region_held_drew (S := (fun wX => wX.cell? ⟨g, k * 6, none⟩ = some (.int .i64 K1) ∧ wX.cell? ⟨g, k * 6 + 2, none⟩ = some (.int .i64 A1) ∧ wX.cell? ⟨g, k * 6 + 3, none⟩ = some (.int .i64 B1) ∧ wX.cell? ⟨w.heap.size, 2, none⟩ = some (.int .i64 A) ∧ wX.cell? ⟨w.heap.size, 3, none⟩ = some (.int .i64 B))) (by kernel_rfl) (HKK.out _ HB.out.drew) (fun hHeld => ?_)
              refine tk 0 ?_
              refine tk 1 ?_
              refine tk 2 ?_
              refine tk 3 ?_
              refine tk 4 ?_
              refine tk 5 ?_
              refine tk 6 ?_
              refine sk 7 ?_
              refine sk 8 ?_
              refine sk 9 ?_
              refine sk 10 ?_
              refine sk 11 ?_
              refine sk 12 ?_
              refine sk 13 ?_
              refine sk 14 ?_
              refine sk 15 ?_
              refine sk 16 ?_
              refine sk 17 ?_
              refine sk 18 ?_
              refine sk 19 ?_
              refine sk 20 ?_
              refine sk 21 ?_
              refine tk 22 ?_
              refine wpAnyH_done (by kernel_rfl) ?_ _
              go_wp2_with fail
              go_roundw
              case rel => exact ⟨k + 1, by omega, by go_num, hidP fun j hj => by
                  by_cases e : j = k
                  · rw [e, HE.out]; exact HF.out
                  · exact HJ.out j (by omega), HB.out.drew⟩
              case measure => first | (simp [intOf]; done) | (simp [intOf]; omega)
            · cases hm : meetB B A B1 A1 <;> rw [hm] at HM
              · have HF : Hid (hitObj ⟨1, M, A, B, P, X⟩ ⟨K1, M1, A1, B1, P1, X1⟩ = false) := hidP <| by unfold hitObj; rw [hK1]; exact hm
                clear hm
                go_wp2_with fail
                refine wp_region_held_drew (S := (fun wX => wX.cell? ⟨g, k * 6, none⟩ = some (.int .i64 K1) ∧ wX.cell? ⟨g, k * 6 + 2, none⟩ = some (.int .i64 A1) ∧ wX.cell? ⟨g, k * 6 + 3, none⟩ = some (.int .i64 B1) ∧ wX.cell? ⟨w.heap.size, 2, none⟩ = some (.int .i64 A) ∧ wX.cell? ⟨w.heap.size, 3, none⟩ = some (.int .i64 B))) (by kernel_rfl) (HKK.out _ HB.out.drew) (fun hHeld => ?_)
                refine tk 0 ?_
                refine tk 1 ?_
                refine tk 2 ?_
                refine tk 3 ?_
                refine tk 4 ?_
                refine tk 5 ?_
                refine tk 6 ?_
                refine tk 7 ?_
                refine tk 8 ?_
                refine tk 9 ?_
                refine tk 10 ?_
                refine tk 11 ?_
                refine tk 12 ?_
                refine tk 13 ?_
                refine tk 14 ?_
                refine tk 15 ?_
                refine tk 16 ?_
                refine tk 17 ?_
                refine tk 18 ?_
                refine tk 19 ?_
                refine tk 20 ?_
                refine wpAnyH_ready (rs := [21]) (by kernel_rfl) (by simp) ?_
                refine AllReadyH.cons rfl (fun K hK => ?_) AllReadyH.nil
                go_simp
                go_at_call 86
                refine (HM.out _).mono ?_
                rintro e w2 ⟨rfl, hw2⟩
                obtain rfl := hw2.symm
                go_wp2_with fail
                refine hK.out _ _ (HKK.out _ HB.out.drew) (fun hHeld2 => ?_)
                clear hK K
                refine tk 22 ?_
                refine wpAnyH_done (by kernel_rfl) ?_ _
                go_wp2_with fail
                go_roundw
                case rel => exact ⟨k + 1, by omega, by go_num, hidP fun j hj => by
                    by_cases e : j = k
                    · rw [e, HE.out]; exact HF.out
                    · exact HJ.out j (by omega), HB.out.drew⟩
                case measure => first | (simp [intOf]; done) | (simp [intOf]; omega)
              · have HV : Hid (codeL all ⟨1, M, A, B, P, X⟩ = 8) := hidP <| by
                  rw [HX2.out, any_hit hlt (by rw [HE.out]; unfold hitObj; rw [hK1]; exact hm)]; rfl
                clear hm
                go_wp2_with fail
                refine wp_region_held_drew (S := (fun wX => wX.cell? ⟨g, k * 6, none⟩ = some (.int .i64 K1) ∧ wX.cell? ⟨g, k * 6 + 2, none⟩ = some (.int .i64 A1) ∧ wX.cell? ⟨g, k * 6 + 3, none⟩ = some (.int .i64 B1) ∧ wX.cell? ⟨w.heap.size, 2, none⟩ = some (.int .i64 A) ∧ wX.cell? ⟨w.heap.size, 3, none⟩ = some (.int .i64 B))) (by kernel_rfl) (HKK.out _ HB.out.drew) (fun hHeld => ?_)
                refine tk 0 ?_
                refine tk 1 ?_
                refine tk 2 ?_
                refine tk 3 ?_
                refine tk 4 ?_
                refine tk 5 ?_
                refine tk 6 ?_
                refine tk 7 ?_
                refine tk 8 ?_
                refine tk 9 ?_
                refine tk 10 ?_
                refine tk 11 ?_
                refine tk 12 ?_
                refine tk 13 ?_
                refine tk 14 ?_
                refine tk 15 ?_
                refine tk 16 ?_
                refine tk 17 ?_
                refine tk 18 ?_
                refine tk 19 ?_
                refine tk 20 ?_
                refine wpAnyH_ready (rs := [21]) (by kernel_rfl) (by simp) ?_
                refine AllReadyH.cons rfl (fun K hK => ?_) AllReadyH.nil
                go_simp
                go_at_call 86
                refine (HM.out _).mono ?_
                rintro e w2 ⟨rfl, hw2⟩
                obtain rfl := hw2.symm
                go_wp2_with fail
                refine hK.out _ _ (HKK.out _ HB.out.drew) (fun hHeld2 => ?_)
                clear hK K
                refine tk 22 ?_
                refine wpAnyH_done (by kernel_rfl) ?_ _
                go_wp2_with fail
                go_ret
                exact ⟨by rw [HV.out]; rfl, HBW.out.trans (HB.out.drew.mono (by simp))⟩
          · have HV : Hid (codeL all ⟨1, M, A, B, P, X⟩ = 0) := hidP <| by
              rw [HX2.out, any_none (fun j hj => HJ.out j (by omega))]; rfl
            go_wp2_with fail
            go_ret
            exact ⟨by rw [HV.out]; rfl, HBW.out.trans (HB.out.mono (by simp))⟩
  · have HV : Hid (codeL all ⟨1, M, A, B, P, X⟩ = 5) := hidP <| by rw [HX1.out, h1]; rfl
    go_enter Try.func61, Try.ntmps61
    go_wp2_with fail
    refine (HO.out _ bal).mono ?_
    rintro e w1 ⟨rfl, hb1⟩
    obtain ⟨-, q2, q3, q0, q5⟩ := HC.out w1 hb1
    have hz1 : w.heap.size < w1.heap.size := by have := hb1.size; rw [HSZ2.out] at this; omega
    go_wp2_with fail
    go_ret
    refine ⟨by rw [HV.out]; rfl, ?_⟩
    exact HBW.out.trans ((hb1.alloc hb1.size _).mono (by simp))
end Go.Proofs.Ytnmhkgmmpkjjeaa
