import Derived.Test.YtnmhkgmmpkjjeaaG05
namespace Go.Proofs.Ytnmhkgmmpkjjeaa
open Go.ChangeShapes Go.WideShapes Go.ChangeAt Go.RowKit
set_option linter.unusedVariables false
set_option maxRecDepth 100000
attribute [local go_sem ↓] Go.wp_at_zero Go.wp_at_succ
attribute [local go_sem] bs_size bs_cAt bs_app bs_mk bs_cut bs_list

set_option maxHeartbeats 4000000 in
theorem rs_o7_6 (g o c : Nat) (x0 x1 x2 x3 x4 x5 : Txt) (w : World) (hg : g < w.heap.size) (c0 : w.cell? ⟨g, o, none⟩ = some (.string (bs x0))) (c1 : w.cell? ⟨g, o + 1, none⟩ = some (.string (bs x1))) (c2 : w.cell? ⟨g, o + 2, none⟩ = some (.string (bs x2))) (c3 : w.cell? ⟨g, o + 3, none⟩ = some (.string (bs x3))) (c4 : w.cell? ⟨g, o + 4, none⟩ = some (.string (bs x4))) (c5 : w.cell? ⟨g, o + 5, none⟩ = some (.string (bs x5))) (l1 : x1.length ≤ 20000) (l2 : x2.length ≤ 20000) (l4 : x4.length ≤ 20000) (h0 : (x0 == [111, 98, 106, 101, 99, 116]) = true) (hm : nameL x1 = true) (h3 : (x3 == [97, 116]) = true) (h5 : (x5 == [115, 104, 97, 114, 101, 100]) = true) :
    Calls Try.prog 60 #[.slice (some ⟨g, o, none⟩) 6 c] w fun e w' => e = .returned (stV (if numL x2 < 0 ∨ numL x4 < 0 then noSt else ⟨1, x1, numL x2, numL x4, 0, true⟩)) ∧ Below w.heap.size w w' := by
  as_aux_lemma =>
  have HK : Hid (∀ wX, Below w.heap.size w wX → (fun wX => wX.cell? ⟨g, o + 1, none⟩ = some (.string (bs x1)) ∧ wX.cell? ⟨g, o + 2, none⟩ = some (.string (bs x2)) ∧ wX.cell? ⟨g, o + 4, none⟩ = some (.string (bs x4))) wX) := hidP fun wX hX => ⟨(hX.cell hg).trans c1, (hX.cell hg).trans c2, (hX.cell hg).trans c4⟩
  go_enter Try.func60, Try.ntmps60
  go_wp2_with (go_at_call 118; refine (l4IsName_any _ _ (by assumption)).mono ?_; rintro e w' ⟨rfl, rfl⟩)
  go_region_held3 (fun wX => wX.cell? ⟨g, o + 1, none⟩ = some (.string (bs x1)) ∧ wX.cell? ⟨g, o + 2, none⟩ = some (.string (bs x2)) ∧ wX.cell? ⟨g, o + 4, none⟩ = some (.string (bs x4))) ((refine HK.out _ ?_; repeat (first | exact Below.refl _ _ | with_reducible refine Below.drew ?_ | with_reducible refine Below.setCell ?_ (by first | omega | (simp <;> omega)) _ | with_reducible refine Below.alloc ?_ (by first | omega | (simp <;> omega)) _))) (first | (go_at_call 119; refine (l4Number_any _ _ (by assumption)).mono ?_; rintro e w' ⟨rfl, rfl⟩) | (go_at_call 120; refine (l4Perm_any _ _).mono ?_; rintro e w' ⟨rfl, rfl⟩))
  all_goals
    by_cases ha : numL x2 < 0
    · have HR : Hid ((if numL x2 < 0 ∨ numL x4 < 0 then noSt else ⟨1, x1, numL x2, numL x4, 0, true⟩) = noSt) := hidP (if_pos (.inl ha))
      go_wp2_with fail
      refine bodyPost_ret (v := stV noSt) (by simp [results, Try.results60, go_sem, stV, noSt]) rfl ⟨by first | rw [HR.out] | rfl | (rw [if_pos HBB.out]) | (rw [if_neg HBB.out]), ?_⟩
      repeat (first | exact Below.refl _ _ | with_reducible refine Below.drew ?_ | with_reducible refine Below.setCell ?_ (by first | omega | (simp <;> omega)) _ | with_reducible refine Below.alloc ?_ (by first | omega | (simp <;> omega)) _)
    · have ha' : 0 ≤ numL x2 := by omega
      by_cases hb : numL x4 < 0
      · have HR : Hid ((if numL x2 < 0 ∨ numL x4 < 0 then noSt else ⟨1, x1, numL x2, numL x4, 0, true⟩) = noSt) := hidP (if_pos (.inr hb))
        have hb' : numL x4 < 0 := hb
        have HBB : Hid _ := hb
        clear hb
        go_wp2_with fail
        refine bodyPost_ret (v := stV noSt) (by simp [results, Try.results60, go_sem, stV, noSt]) rfl ⟨by first | rw [HR.out] | rfl | (rw [if_pos HBB.out]) | (rw [if_neg HBB.out]), ?_⟩
        repeat (first | exact Below.refl _ _ | with_reducible refine Below.drew ?_ | with_reducible refine Below.setCell ?_ (by first | omega | (simp <;> omega)) _ | with_reducible refine Below.alloc ?_ (by first | omega | (simp <;> omega)) _)
      · have HR : Hid ((if numL x2 < 0 ∨ numL x4 < 0 then noSt else ⟨1, x1, numL x2, numL x4, 0, true⟩) = ⟨1, x1, numL x2, numL x4, 0, true⟩) := hidP (if_neg (fun h => h.elim ha hb))
        have hb' : 0 ≤ numL x4 := by omega
        have HBB : Hid _ := hb
        clear hb
        go_wp2_with fail
        refine bodyPost_ret (v := stV ⟨1, x1, numL x2, numL x4, 0, true⟩) (by simp [results, Try.results60, go_sem, stV]) rfl ⟨by first | rw [HR.out] | rfl | (rw [if_pos HBB.out]) | (rw [if_neg HBB.out]), ?_⟩
        repeat (first | exact Below.refl _ _ | with_reducible refine Below.drew ?_ | with_reducible refine Below.setCell ?_ (by first | omega | (simp <;> omega)) _ | with_reducible refine Below.alloc ?_ (by first | omega | (simp <;> omega)) _)
end Go.Proofs.Ytnmhkgmmpkjjeaa
