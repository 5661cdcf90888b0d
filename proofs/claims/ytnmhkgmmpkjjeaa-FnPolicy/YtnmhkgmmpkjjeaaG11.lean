import Derived.Test.YtnmhkgmmpkjjeaaG05
import Derived.Test.YtnmhkgmmpkjjeaaG10
namespace Go.Proofs.Ytnmhkgmmpkjjeaa
open Go.ChangeShapes Go.WideShapes Go.ChangeAt Go.RowKit
set_option linter.unusedVariables false
set_option maxRecDepth 100000
attribute [local go_sem ↓] Go.wp_at_zero Go.wp_at_succ
attribute [local go_sem] bs_size bs_cAt bs_app bs_mk bs_cut bs_list

set_option maxHeartbeats 4000000 in
theorem rs_g7 (g o c : Nat) (x0 x1 x2 : Txt) (w : World) (hg : g < w.heap.size) (c0 : w.cell? ⟨g, o, none⟩ = some (.string (bs x0))) (c1 : w.cell? ⟨g, o + 1, none⟩ = some (.string (bs x1))) (c2 : w.cell? ⟨g, o + 2, none⟩ = some (.string (bs x2))) (l1 : x1.length ≤ 20000) (l2 : x2.length ≤ 20000) (h0 : (x0 == [111, 98, 106, 101, 99, 116]) = false) (h0r : (x0 == [114, 101, 103, 105, 111, 110]) = false) (h0g : (x0 == [103, 117, 97, 114, 100]) = true) :
    Calls Try.prog 60 #[.slice (some ⟨g, o, none⟩) 3 c] w fun e w' => e = .returned (stV (if numL x1 < 0 ∨ numL x2 < 0 then noSt else ⟨3, [], numL x1, numL x2, 0, false⟩)) ∧ Below w.heap.size w w' := by
  as_aux_lemma =>
  have HK : Hid (∀ wX, Below w.heap.size w wX → (fun wX => wX.cell? ⟨g, o + 1, none⟩ = some (.string (bs x1)) ∧ wX.cell? ⟨g, o + 2, none⟩ = some (.string (bs x2))) wX) := hidP fun wX hX => ⟨(hX.cell hg).trans c1, (hX.cell hg).trans c2⟩
  go_enter Try.func60, Try.ntmps60
  go_wp2_with (go_at_call 118; refine (l4IsName_any _ _ (by assumption)).mono ?_; rintro e w' ⟨rfl, rfl⟩)
  go_region_held3 (fun wX => wX.cell? ⟨g, o + 1, none⟩ = some (.string (bs x1)) ∧ wX.cell? ⟨g, o + 2, none⟩ = some (.string (bs x2))) ((refine HK.out _ ?_; repeat (first | exact Below.refl _ _ | with_reducible refine Below.drew ?_ | with_reducible refine Below.setCell ?_ (by first | omega | (simp <;> omega)) _ | with_reducible refine Below.alloc ?_ (by first | omega | (simp <;> omega)) _))) (first | (go_at_call 119; refine (l4Number_any _ _ (by assumption)).mono ?_; rintro e w' ⟨rfl, rfl⟩) | (go_at_call 120; refine (l4Perm_any _ _).mono ?_; rintro e w' ⟨rfl, rfl⟩))
  all_goals
    by_cases ha : numL x1 < 0
    · have HR : Hid ((if numL x1 < 0 ∨ numL x2 < 0 then noSt else ⟨3, [], numL x1, numL x2, 0, false⟩) = noSt) := hidP (if_pos (.inl ha))
      go_wp2_with fail
      refine bodyPost_ret (v := stV noSt) (by simp [results, Try.results60, go_sem, stV, noSt]) rfl ⟨by first | rw [HR.out] | rfl | (rw [if_pos HBB.out]) | (rw [if_neg HBB.out]), ?_⟩
      repeat (first | exact Below.refl _ _ | with_reducible refine Below.drew ?_ | with_reducible refine Below.setCell ?_ (by first | omega | (simp <;> omega)) _ | with_reducible refine Below.alloc ?_ (by first | omega | (simp <;> omega)) _)
    · have ha' : 0 ≤ numL x1 := by omega
      by_cases hb : numL x2 < 0
      · have HR : Hid ((if numL x1 < 0 ∨ numL x2 < 0 then noSt else ⟨3, [], numL x1, numL x2, 0, false⟩) = noSt) := hidP (if_pos (.inr hb))
        have hb' : numL x2 < 0 := hb
        have HBB : Hid _ := hb
        clear hb
        go_wp2_with fail
        refine bodyPost_ret (v := stV noSt) (by simp [results, Try.results60, go_sem, stV, noSt]) rfl ⟨by first | rw [HR.out] | rfl | (rw [if_pos HBB.out]) | (rw [if_neg HBB.out]), ?_⟩
        repeat (first | exact Below.refl _ _ | with_reducible refine Below.drew ?_ | with_reducible refine Below.setCell ?_ (by first | omega | (simp <;> omega)) _ | with_reducible refine Below.alloc ?_ (by first | omega | (simp <;> omega)) _)
      · have HR : Hid ((if numL x1 < 0 ∨ numL x2 < 0 then noSt else ⟨3, [], numL x1, numL x2, 0, false⟩) = ⟨3, [], numL x1, numL x2, 0, false⟩) := hidP (if_neg (fun h => h.elim ha hb))
        have hb' : 0 ≤ numL x2 := by omega
        have HBB : Hid _ := hb
        clear hb
        go_wp2_with fail
        refine bodyPost_ret (v := stV ⟨3, [], numL x1, numL x2, 0, false⟩) (by simp [results, Try.results60, go_sem, stV]) rfl ⟨by first | rw [HR.out] | rfl | (rw [if_pos HBB.out]) | (rw [if_neg HBB.out]), ?_⟩
        repeat (first | exact Below.refl _ _ | with_reducible refine Below.drew ?_ | with_reducible refine Below.setCell ?_ (by first | omega | (simp <;> omega)) _ | with_reducible refine Below.alloc ?_ (by first | omega | (simp <;> omega)) _)

set_option maxHeartbeats 4000000 in
theorem rs_r7_4 (g o c : Nat) (x0 x1 x2 x3 : Txt) (w : World) (hg : g < w.heap.size) (c0 : w.cell? ⟨g, o, none⟩ = some (.string (bs x0))) (c1 : w.cell? ⟨g, o + 1, none⟩ = some (.string (bs x1))) (c2 : w.cell? ⟨g, o + 2, none⟩ = some (.string (bs x2))) (c3 : w.cell? ⟨g, o + 3, none⟩ = some (.string (bs x3))) (l1 : x1.length ≤ 20000) (l2 : x2.length ≤ 20000) (h0 : (x0 == [111, 98, 106, 101, 99, 116]) = false) (h0r : (x0 == [114, 101, 103, 105, 111, 110]) = true) (hm : nameL x2 = true) :
    Calls Try.prog 60 #[.slice (some ⟨g, o, none⟩) 4 c] w fun e w' => e = .returned (stV (if numL x1 < 0 ∨ permL x3 = 0 then noSt else ⟨2, x2, numL x1, 0, permL x3, false⟩)) ∧ Below w.heap.size w w' := by
  as_aux_lemma =>
  have hpm := l4Perm_any x3
  generalize permL x3 = PM at *
  have HK : Hid (∀ wX, Below w.heap.size w wX → (fun wX => wX.cell? ⟨g, o + 1, none⟩ = some (.string (bs x1)) ∧ wX.cell? ⟨g, o + 2, none⟩ = some (.string (bs x2)) ∧ wX.cell? ⟨g, o + 3, none⟩ = some (.string (bs x3))) wX) := hidP fun wX hX => ⟨(hX.cell hg).trans c1, (hX.cell hg).trans c2, (hX.cell hg).trans c3⟩
  go_enter Try.func60, Try.ntmps60
  go_wp2_with (go_at_call 118; refine (l4IsName_any _ _ (by assumption)).mono ?_; rintro e w' ⟨rfl, rfl⟩)
  go_region_held3 (fun wX => wX.cell? ⟨g, o + 1, none⟩ = some (.string (bs x1)) ∧ wX.cell? ⟨g, o + 2, none⟩ = some (.string (bs x2)) ∧ wX.cell? ⟨g, o + 3, none⟩ = some (.string (bs x3))) ((refine HK.out _ ?_; repeat (first | exact Below.refl _ _ | with_reducible refine Below.drew ?_ | with_reducible refine Below.setCell ?_ (by first | omega | (simp <;> omega)) _ | with_reducible refine Below.alloc ?_ (by first | omega | (simp <;> omega)) _))) (first | (go_at_call 119; refine (l4Number_any _ _ (by assumption)).mono ?_; rintro e w' ⟨rfl, rfl⟩) | (go_at_call 120; refine (hpm _).mono ?_; rintro e w' ⟨rfl, rfl⟩))
  all_goals
    by_cases ha : numL x1 < 0
    · have HR : Hid ((if numL x1 < 0 ∨ PM = 0 then noSt else ⟨2, x2, numL x1, 0, PM, false⟩) = noSt) := hidP (if_pos (.inl ha))
      go_wp2_with fail
      refine bodyPost_ret (v := stV noSt) (by simp [results, Try.results60, go_sem, stV, noSt]) rfl ⟨by first | rw [HR.out] | rfl | (rw [if_neg hb]), ?_⟩
      repeat (first | exact Below.refl _ _ | with_reducible refine Below.drew ?_ | with_reducible refine Below.setCell ?_ (by first | omega | (simp <;> omega)) _ | with_reducible refine Below.alloc ?_ (by first | omega | (simp <;> omega)) _)
    · have ha' : 0 ≤ numL x1 := by omega
      by_cases hb : PM = 0
      · have HR : Hid ((if numL x1 < 0 ∨ PM = 0 then noSt else ⟨2, x2, numL x1, 0, PM, false⟩) = noSt) := hidP (if_pos (.inr hb))
        subst hb
        go_wp2_with fail
        refine bodyPost_ret (v := stV noSt) (by simp [results, Try.results60, go_sem, stV, noSt]) rfl ⟨by first | rw [HR.out] | rfl | (rw [if_neg hb]), ?_⟩
        repeat (first | exact Below.refl _ _ | with_reducible refine Below.drew ?_ | with_reducible refine Below.setCell ?_ (by first | omega | (simp <;> omega)) _ | with_reducible refine Below.alloc ?_ (by first | omega | (simp <;> omega)) _)
      · have HR : Hid ((if numL x1 < 0 ∨ PM = 0 then noSt else ⟨2, x2, numL x1, 0, PM, false⟩) = ⟨2, x2, numL x1, 0, PM, false⟩) := hidP (if_neg (fun h => h.elim ha hb))
        have hb' : (PM == 0) = false := by simp [hb]
        go_wp2_with fail
        refine bodyPost_ret (v := stV ⟨2, x2, numL x1, 0, PM, false⟩) (by simp [results, Try.results60, go_sem, stV]) rfl ⟨by first | rw [HR.out] | rfl | (rw [if_neg hb]), ?_⟩
        repeat (first | exact Below.refl _ _ | with_reducible refine Below.drew ?_ | with_reducible refine Below.setCell ?_ (by first | omega | (simp <;> omega)) _ | with_reducible refine Below.alloc ?_ (by first | omega | (simp <;> omega)) _)

set_option maxHeartbeats 4000000 in
theorem rs_r7_5 (g o c : Nat) (x0 x1 x2 x3 x4 : Txt) (w : World) (hg : g < w.heap.size) (c0 : w.cell? ⟨g, o, none⟩ = some (.string (bs x0))) (c1 : w.cell? ⟨g, o + 1, none⟩ = some (.string (bs x1))) (c2 : w.cell? ⟨g, o + 2, none⟩ = some (.string (bs x2))) (c3 : w.cell? ⟨g, o + 3, none⟩ = some (.string (bs x3))) (c4 : w.cell? ⟨g, o + 4, none⟩ = some (.string (bs x4))) (l1 : x1.length ≤ 20000) (l2 : x2.length ≤ 20000) (h0 : (x0 == [111, 98, 106, 101, 99, 116]) = false) (h0r : (x0 == [114, 101, 103, 105, 111, 110]) = true) (hm : nameL x2 = true) (h4 : (x4 == [104, 117, 103, 101]) = true) :
    Calls Try.prog 60 #[.slice (some ⟨g, o, none⟩) 5 c] w fun e w' => e = .returned (stV (if numL x1 < 0 ∨ permL x3 = 0 then noSt else ⟨2, x2, numL x1, 0, permL x3, true⟩)) ∧ Below w.heap.size w w' := by
  as_aux_lemma =>
  have hpm := l4Perm_any x3
  generalize permL x3 = PM at *
  have HK : Hid (∀ wX, Below w.heap.size w wX → (fun wX => wX.cell? ⟨g, o + 1, none⟩ = some (.string (bs x1)) ∧ wX.cell? ⟨g, o + 2, none⟩ = some (.string (bs x2)) ∧ wX.cell? ⟨g, o + 3, none⟩ = some (.string (bs x3))) wX) := hidP fun wX hX => ⟨(hX.cell hg).trans c1, (hX.cell hg).trans c2, (hX.cell hg).trans c3⟩
  go_enter Try.func60, Try.ntmps60
  go_wp2_with (go_at_call 118; refine (l4IsName_any _ _ (by assumption)).mono ?_; rintro e w' ⟨rfl, rfl⟩)
  go_region_held3 (fun wX => wX.cell? ⟨g, o + 1, none⟩ = some (.string (bs x1)) ∧ wX.cell? ⟨g, o + 2, none⟩ = some (.string (bs x2)) ∧ wX.cell? ⟨g, o + 3, none⟩ = some (.string (bs x3))) ((refine HK.out _ ?_; repeat (first | exact Below.refl _ _ | with_reducible refine Below.drew ?_ | with_reducible refine Below.setCell ?_ (by first | omega | (simp <;> omega)) _ | with_reducible refine Below.alloc ?_ (by first | omega | (simp <;> omega)) _))) (first | (go_at_call 119; refine (l4Number_any _ _ (by assumption)).mono ?_; rintro e w' ⟨rfl, rfl⟩) | (go_at_call 120; refine (hpm _).mono ?_; rintro e w' ⟨rfl, rfl⟩))
  all_goals
    by_cases ha : numL x1 < 0
    · have HR : Hid ((if numL x1 < 0 ∨ PM = 0 then noSt else ⟨2, x2, numL x1, 0, PM, true⟩) = noSt) := hidP (if_pos (.inl ha))
      go_wp2_with fail
      refine bodyPost_ret (v := stV noSt) (by simp [results, Try.results60, go_sem, stV, noSt]) rfl ⟨by first | rw [HR.out] | rfl | (rw [if_neg hb]), ?_⟩
      repeat (first | exact Below.refl _ _ | with_reducible refine Below.drew ?_ | with_reducible refine Below.setCell ?_ (by first | omega | (simp <;> omega)) _ | with_reducible refine Below.alloc ?_ (by first | omega | (simp <;> omega)) _)
    · have ha' : 0 ≤ numL x1 := by omega
      by_cases hb : PM = 0
      · have HR : Hid ((if numL x1 < 0 ∨ PM = 0 then noSt else ⟨2, x2, numL x1, 0, PM, true⟩) = noSt) := hidP (if_pos (.inr hb))
        subst hb
        go_wp2_with fail
        refine bodyPost_ret (v := stV noSt) (by simp [results, Try.results60, go_sem, stV, noSt]) rfl ⟨by first | rw [HR.out] | rfl | (rw [if_neg hb]), ?_⟩
        repeat (first | exact Below.refl _ _ | with_reducible refine Below.drew ?_ | with_reducible refine Below.setCell ?_ (by first | omega | (simp <;> omega)) _ | with_reducible refine Below.alloc ?_ (by first | omega | (simp <;> omega)) _)
      · have HR : Hid ((if numL x1 < 0 ∨ PM = 0 then noSt else ⟨2, x2, numL x1, 0, PM, true⟩) = ⟨2, x2, numL x1, 0, PM, true⟩) := hidP (if_neg (fun h => h.elim ha hb))
        have hb' : (PM == 0) = false := by simp [hb]
        go_wp2_with fail
        refine bodyPost_ret (v := stV ⟨2, x2, numL x1, 0, PM, true⟩) (by simp [results, Try.results60, go_sem, stV]) rfl ⟨by first | rw [HR.out] | rfl | (rw [if_neg hb]), ?_⟩
        repeat (first | exact Below.refl _ _ | with_reducible refine Below.drew ?_ | with_reducible refine Below.setCell ?_ (by first | omega | (simp <;> omega)) _ | with_reducible refine Below.alloc ?_ (by first | omega | (simp <;> omega)) _)
end Go.Proofs.Ytnmhkgmmpkjjeaa
namespace Go.Proofs.Ytnmhkgmmpkjjeaa
open Go.ChangeShapes Go.WideShapes Go.ChangeAt Go.RowKit
set_option linter.unusedVariables false
set_option maxRecDepth 100000

theorem l4ReadStmt_any (A : Option Addr) (c : Nat) (ts : List Txt) (w : World) (hn : ts.length ≤ 30000) (hl : ∀ i, i < ts.length → (tAt ts i).length ≤ 20000)
    (hA : 0 < ts.length → ∃ g o, A = some ⟨g, o, none⟩ ∧ g < w.heap.size ∧ ∀ i, i < ts.length → w.cell? ⟨g, o + i, none⟩ = some (.string (bs (tAt ts i)))) :
    Calls Try.prog 60 #[.slice A ts.length c] w fun e w' => e = .returned (stV (stmtL ts)) ∧ Below w.heap.size w w' := by
  by_cases h3 : ts.length < 3
  · have key : stmtL ts = noSt := by unfold stmtL; rw [if_pos h3]
    rw [key]
    exact rs_lt A c ts.length w (by omega)
  obtain ⟨g, o, rfl, hg, hc⟩ := hA (by omega)
  have N3 : (3 : Int) ≤ (ts.length : Int) := by omega
  cases h0 : tAt ts 0 == [111, 98, 106, 101, 99, 116]
  · cases h0r : tAt ts 0 == [114, 101, 103, 105, 111, 110]
    · cases h0g : tAt ts 0 == [103, 117, 97, 114, 100]
      · have key : stmtL ts = noSt := by unfold stmtL; rw [if_neg h3, h0, h0r, h0g]; rfl
        rw [key]
        exact rs_n g o c ts.length _ w hg (hc 0 (by omega)) h0 h0r h0g N3 hn
      · by_cases e3 : ts.length = 3
        · have key : stmtL ts = grdL ts := by unfold stmtL; rw [if_neg h3, h0, h0r, h0g, e3]; rfl
          rw [key, e3]
          exact rs_g7 g o c _ _ _ w hg (hc 0 (by omega)) (hc 1 (by omega)) (hc 2 (by omega)) (hl 1 (by omega)) (hl 2 (by omega)) h0 h0r h0g
        · have key : stmtL ts = noSt := by unfold stmtL; rw [if_neg h3, h0, h0r, h0g, show (ts.length == 3) = false by simpa using e3]; rfl
          rw [key]
          exact rs_g1 g o c ts.length _ w hg (hc 0 (by omega)) h0 h0r h0g N3 hn (by rw [beq_eq_false_iff_ne]; omega)
    · have key : stmtL ts = regL ts := by unfold stmtL; rw [if_neg h3, h0, h0r]; rfl
      rw [key]
      unfold regL
      by_cases e4 : ts.length = 4
      · rw [e4]
        cases hm : nameL (tAt ts 2)
        · exact rs_r2_4 g o c _ _ _ _ w hg (hc 0 (by omega)) (hc 1 (by omega)) (hc 2 (by omega)) (hc 3 (by omega)) (hl 2 (by omega)) h0 h0r hm
        · exact rs_r7_4 g o c _ _ _ _ w hg (hc 0 (by omega)) (hc 1 (by omega)) (hc 2 (by omega)) (hc 3 (by omega)) (hl 1 (by omega)) (hl 2 (by omega)) h0 h0r hm
      · by_cases e5 : ts.length = 5
        · rw [e5]
          cases hm : nameL (tAt ts 2)
          · exact rs_r2_5 g o c _ _ _ _ _ w hg (hc 0 (by omega)) (hc 1 (by omega)) (hc 2 (by omega)) (hc 3 (by omega)) (hc 4 (by omega)) (hl 2 (by omega)) h0 h0r hm
          · cases h4 : tAt ts 4 == [104, 117, 103, 101]
            · exact rs_r4_5 g o c _ _ _ _ _ w hg (hc 0 (by omega)) (hc 1 (by omega)) (hc 2 (by omega)) (hc 3 (by omega)) (hc 4 (by omega)) (hl 2 (by omega)) h0 h0r hm h4
            · exact rs_r7_5 g o c _ _ _ _ _ w hg (hc 0 (by omega)) (hc 1 (by omega)) (hc 2 (by omega)) (hc 3 (by omega)) (hc 4 (by omega)) (hl 1 (by omega)) (hl 2 (by omega)) h0 h0r hm h4
        · rw [show (ts.length == 4) = false by simpa using e4, show (ts.length == 5) = false by simpa using e5]
          exact rs_r1 g o c ts.length _ w hg (hc 0 (by omega)) h0 h0r N3 hn (by rw [bne_iff_ne]; omega) (by rw [bne_iff_ne]; omega)
  · have key : stmtL ts = objL ts := by unfold stmtL; rw [if_neg h3, h0]; rfl
    rw [key]
    unfold objL
    by_cases e5 : ts.length = 5
    · rw [e5]
      cases hm : nameL (tAt ts 1)
      · exact rs_o2_5 g o c _ _ _ _ _ w hg (hc 0 (by omega)) (hc 1 (by omega)) (hc 2 (by omega)) (hc 3 (by omega)) (hc 4 (by omega)) (hl 1 (by omega)) h0 hm
      · cases h4 : tAt ts 3 == [97, 116]
        · exact rs_o3_5 g o c _ _ _ _ _ w hg (hc 0 (by omega)) (hc 1 (by omega)) (hc 2 (by omega)) (hc 3 (by omega)) (hc 4 (by omega)) (hl 1 (by omega)) h0 hm h4
        · exact rs_o7_5 g o c _ _ _ _ _ w hg (hc 0 (by omega)) (hc 1 (by omega)) (hc 2 (by omega)) (hc 3 (by omega)) (hc 4 (by omega)) (hl 1 (by omega)) (hl 2 (by omega)) (hl 4 (by omega)) h0 hm h4
    · by_cases e6 : ts.length = 6
      · rw [e6]
        cases hm : nameL (tAt ts 1)
        · exact rs_o2_6 g o c _ _ _ _ _ _ w hg (hc 0 (by omega)) (hc 1 (by omega)) (hc 2 (by omega)) (hc 3 (by omega)) (hc 4 (by omega)) (hc 5 (by omega)) (hl 1 (by omega)) h0 hm
        · cases h4 : tAt ts 3 == [97, 116]
          · exact rs_o3_6 g o c _ _ _ _ _ _ w hg (hc 0 (by omega)) (hc 1 (by omega)) (hc 2 (by omega)) (hc 3 (by omega)) (hc 4 (by omega)) (hc 5 (by omega)) (hl 1 (by omega)) h0 hm h4
          · cases h5 : tAt ts 5 == [115, 104, 97, 114, 101, 100]
            · exact rs_o4_6 g o c _ _ _ _ _ _ w hg (hc 0 (by omega)) (hc 1 (by omega)) (hc 2 (by omega)) (hc 3 (by omega)) (hc 4 (by omega)) (hc 5 (by omega)) (hl 1 (by omega)) h0 hm h4 h5
            · exact rs_o7_6 g o c _ _ _ _ _ _ w hg (hc 0 (by omega)) (hc 1 (by omega)) (hc 2 (by omega)) (hc 3 (by omega)) (hc 4 (by omega)) (hc 5 (by omega)) (hl 1 (by omega)) (hl 2 (by omega)) (hl 4 (by omega)) h0 hm h4 h5
      · rw [show (ts.length == 5) = false by simpa using e5, show (ts.length == 6) = false by simpa using e6]
        exact rs_o1 g o c ts.length _ w hg (hc 0 (by omega)) h0 N3 hn (by rw [bne_iff_ne]; omega) (by rw [bne_iff_ne]; omega)
end Go.Proofs.Ytnmhkgmmpkjjeaa
