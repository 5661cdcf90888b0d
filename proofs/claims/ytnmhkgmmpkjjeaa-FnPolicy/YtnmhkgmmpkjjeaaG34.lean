import Derived.Test.YtnmhkgmmpkjjeaaG33
namespace Go.Proofs.Ytnmhkgmmpkjjeaa
open Go.ChangeShapes Go.WideShapes Go.ChangeAt Go.RowKit
set_option linter.unusedVariables false
set_option linter.unusedSimpArgs false
set_option maxRecDepth 100000
attribute [local go_sem ↓] Go.wp_at_zero Go.wp_at_succ
attribute [local go_sem] bs_size bs_cAt bs_app bs_mk bs_cut bs_list

/-! A statement. -/
theorem readObj_any (b mb B at_ : Nat) (v : PV) (all : List St) (ws : List Txt) (w0 : World) (hg : Good all) (hl : all.length ≤ 999) (hw : ∀ x ∈ ws, 0 < x.length ∧ x.length ≤ 20000) (h : PS w0 b mb B at_ v (paOf all) ws) :
    Calls Try.prog 172 #[.pointer (some ⟨b, 0, none⟩)] w0 fun e w' => Touch (PT b mb B) w0 w' ∧ Ends (codeL all (prObj ws)) at_ e (∃ v', PI w' b mb B at_ v' (paOf (all ++ [prObj ws]))) := by
  rcases objBad (ws := ws) with hb | ⟨n, c, f, sh, h1, h2, h3, rfl, e⟩
  · exact readObj_bad b mb B at_ v all ws w0 hg hl hw h hb
  · rw [e]
    exact readObj_ok b mb B at_ v all n c f sh w0 hg hl h1 h2 h3 hw h
theorem readReg_any (b mb B at_ : Nat) (v : PV) (all : List St) (ws : List Txt) (w0 : World) (hg : Good all) (hl : all.length ≤ 999) (hw : ∀ x ∈ ws, 0 < x.length ∧ x.length ≤ 20000) (h : PS w0 b mb B at_ v (paOf all) ws) :
    Calls Try.prog 173 #[.pointer (some ⟨b, 0, none⟩)] w0 fun e w' => Touch (PT b mb B) w0 w' ∧ Ends (codeL all (prReg ws)) at_ e (∃ v', PI w' b mb B at_ v' (paOf (all ++ [prReg ws]))) := by
  rcases regBad (ws := ws) with hb | ⟨p, n, q, sh, h1, h2, h3, rfl, e⟩
  · exact readReg_bad b mb B at_ v all ws w0 hg hl hw h hb
  · rw [e]
    exact readReg_ok b mb B at_ v all p n q sh w0 hg hl h1 h2 h3 hw h
set_option maxHeartbeats 1000000 in
theorem readStmt_any (b mb B at_ : Nat) (v : PV) (all : List St) (ws : List Txt) (w0 : World) (hg : Good all) (hl : all.length ≤ 999) (hw : ∀ x ∈ ws, 0 < x.length ∧ x.length ≤ 20000) (h : PS w0 b mb B at_ v (paOf all) ws) :
    Calls Try.prog 157 #[.pointer (some ⟨b, 0, none⟩)] w0 fun e w' => Touch (PT b mb B) w0 w' ∧ Ends (codeL all (prSt ws)) at_ e (∃ v', PI w' b mb B at_ v' (paOf (all ++ [prSt ws]))) := by
  have HP0 : Hid (PS w0 b mb B at_ v (paOf all) ws) := h
  have HT0 : Hid (Touch (PT b mb B) w0 w0) := hidP (Touch.of_below (Below.refl _ _))
  have HW : Hid (∀ x ∈ ws, 0 < x.length ∧ x.length ≤ 20000) := hw
  clear h hw
  go_enter Try.func157, Try.ntmps157
  cases ws with
  | nil =>
    have HNO : Hid (codeL all (prSt []) = 4) := hidP rfl
    obtain ⟨sx, hx⟩ := HP0.out.p
    have t1 := hidP (next_no b at_ sx w0 hx)
    clear hx
    go_wp2_with fail
    refine t1.out.mono ?_
    rintro e wz ⟨rfl, ew⟩
    obtain rfl : w0 = wz := ew.symm
    exact ⟨rfl, HT0.out, Ends.no HNO.out (by decide)⟩
  | cons h t =>
    obtain ⟨sx, hx⟩ := HP0.out.p
    have t1 := hidP (next_yes b at_ sx h t w0 hx)
    clear hx
    go_wp2_with fail
    refine t1.out.mono ?_
    rintro e w1 ⟨rfl, tb⟩
    have HP1 := hidP (HP0.out.took tb).1
    have HT1 := hidP (HT0.out.trans (HP0.out.took tb).2)
    clear tb t1 sx
    by_cases h1 : h = kObj
    · subst h1
      have hb1 : (kObj == [111, 98, 106, 101, 99, 116]) = true := rfl
      have HE : Hid (prSt (kObj :: t) = prObj t) := hidP rfl
      have t1 := hidP (readObj_any b mb B at_ v all t w1 hg hl (fun x hx => HW.out x (List.mem_cons_of_mem _ hx)) HP1.out)
      go_wp2_with fail
      refine t1.out.mono ?_
      rintro e w2 ⟨ht, he⟩
      by_cases hz : codeL all (prObj t) = 0
      · obtain ⟨rfl, hv⟩ := he.1 hz
        have HV := hidP hv
        have HT := hidP (HT1.out.trans ht)
        clear hv ht he t1
        go_wp2_with fail
        refine bodyPost_end (v := .tuple #[]) (by simp [results, Try.results157, go_sem]) rfl ⟨HT.out, ?_⟩
        rw [HE.out]
        exact Ends.yes hz HV.out
      · obtain rfl := he.2 hz
        refine ⟨rfl, HT1.out.trans ht, ?_⟩
        rw [HE.out]
        exact Ends.no rfl hz
    have hb1 : (h == [111, 98, 106, 101, 99, 116]) = false := beq_eq_false_iff_ne.2 h1
    by_cases h2 : h = kReg
    · subst h2
      have hb2 : (kReg == [114, 101, 103, 105, 111, 110]) = true := rfl
      have HE : Hid (prSt (kReg :: t) = prReg t) := hidP rfl
      have t1 := hidP (readReg_any b mb B at_ v all t w1 hg hl (fun x hx => HW.out x (List.mem_cons_of_mem _ hx)) HP1.out)
      go_wp2_with fail
      refine t1.out.mono ?_
      rintro e w2 ⟨ht, he⟩
      by_cases hz : codeL all (prReg t) = 0
      · obtain ⟨rfl, hv⟩ := he.1 hz
        have HV := hidP hv
        have HT := hidP (HT1.out.trans ht)
        clear hv ht he t1
        go_wp2_with fail
        refine bodyPost_end (v := .tuple #[]) (by simp [results, Try.results157, go_sem]) rfl ⟨HT.out, ?_⟩
        rw [HE.out]
        exact Ends.yes hz HV.out
      · obtain rfl := he.2 hz
        refine ⟨rfl, HT1.out.trans ht, ?_⟩
        rw [HE.out]
        exact Ends.no rfl hz
    have hb2 : (h == [114, 101, 103, 105, 111, 110]) = false := beq_eq_false_iff_ne.2 h2
    by_cases h3 : h = kGrd
    · subst h3
      have hb3 : (kGrd == [103, 117, 97, 114, 100]) = true := rfl
      have HE : Hid (prSt (kGrd :: t) = prGrd t) := hidP rfl
      have t1 := hidP (readGuard_any b mb B at_ v all t w1 hg hl (fun x hx => HW.out x (List.mem_cons_of_mem _ hx)) HP1.out)
      go_wp2_with fail
      refine t1.out.mono ?_
      rintro e w2 ⟨ht, he⟩
      by_cases hz : codeL all (prGrd t) = 0
      · obtain ⟨rfl, hv⟩ := he.1 hz
        have HV := hidP hv
        have HT := hidP (HT1.out.trans ht)
        clear hv ht he t1
        go_wp2_with fail
        refine bodyPost_end (v := .tuple #[]) (by simp [results, Try.results157, go_sem]) rfl ⟨HT.out, ?_⟩
        rw [HE.out]
        exact Ends.yes hz HV.out
      · obtain rfl := he.2 hz
        refine ⟨rfl, HT1.out.trans ht, ?_⟩
        rw [HE.out]
        exact Ends.no rfl hz
    have hb3 : (h == [103, 117, 97, 114, 100]) = false := beq_eq_false_iff_ne.2 h3
    have HNO : Hid (codeL all (prSt (h :: t)) = 4) := hidP (by
      have : prSt (h :: t) = noSt := by show (if h = kObj then _ else if h = kReg then _ else if h = kGrd then _ else noSt) = noSt; rw [if_neg h1, if_neg h2, if_neg h3]
      rw [this]; rfl)
    clear h1 h2 h3
    have t1 := hidP (refuse_yes b 4 at_ w1 HP1.out.i.c4)
    go_wp2_with fail
    refine t1.out.mono ?_
    rintro e wz ⟨rfl, ew⟩
    obtain rfl : w1 = wz := ew.symm
    exact ⟨rfl, HT1.out, Ends.no HNO.out (by decide)⟩
end Go.Proofs.Ytnmhkgmmpkjjeaa
