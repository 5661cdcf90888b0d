import Derived.Test.YtnmhkgmmpkjjeaaG31
namespace Go.Proofs.Ytnmhkgmmpkjjeaa
open Go.ChangeShapes Go.WideShapes Go.ChangeAt Go.RowKit
set_option linter.unusedVariables false
set_option linter.unusedSimpArgs false
set_option maxRecDepth 100000
attribute [local go_sem ↓] Go.wp_at_zero Go.wp_at_succ
attribute [local go_sem] bs_size bs_cAt bs_app bs_mk bs_cut bs_list

/-! readRegion: no form of a region. -/
theorem regBad : ∀ {ws : List Txt}, prReg ws = noSt ∨ ∃ p n q : Txt, ∃ sh : Bool, numOk p = true ∧ nameL n = true ∧ ¬ permL q = 0 ∧ ws = p :: n :: q :: (if sh = true then [kHug] else []) ∧ prReg ws = ⟨2, n, valL p, 0, permL q, sh⟩ := by
  intro ws
  match ws with
  | [] => exact .inl rfl
  | [_] => exact .inl rfl
  | [_, _] => exact .inl rfl
  | [p, n, q] =>
    by_cases h : numOk p = true ∧ nameL n = true ∧ ¬ permL q = 0
    · obtain ⟨h1, h2, h3⟩ := h
      exact .inr ⟨p, n, q, false, h1, h2, h3, rfl, by simp [prReg, h1, h2, h3]⟩
    · exact .inl (by show (if numOk p = true ∧ nameL n = true ∧ ¬ permL q = 0 then _ else noSt) = noSt; rw [if_neg h])
  | [p, n, q, s] =>
    by_cases h : numOk p = true ∧ nameL n = true ∧ ¬ permL q = 0 ∧ s = kHug
    · obtain ⟨h1, h2, h3, rfl⟩ := h
      exact .inr ⟨p, n, q, true, h1, h2, h3, rfl, by simp [prReg, h1, h2, h3]⟩
    · exact .inl (by show (if numOk p = true ∧ nameL n = true ∧ ¬ permL q = 0 ∧ s = kHug then _ else noSt) = noSt; rw [if_neg h])
  | _ :: _ :: _ :: _ :: _ :: _ => exact .inl rfl
set_option maxHeartbeats 2000000 in
theorem readReg_bad (b mb B at_ : Nat) (v : PV) (all : List St) (ws : List Txt) (w0 : World) (hg : Good all) (hl : all.length ≤ 999) (hw : ∀ x ∈ ws, 0 < x.length ∧ x.length ≤ 20000) (h : PS w0 b mb B at_ v (paOf all) ws) (hno : prReg ws = noSt) :
    Calls Try.prog 173 #[.pointer (some ⟨b, 0, none⟩)] w0 fun e w' => Touch (PT b mb B) w0 w' ∧ Ends (codeL all (prReg ws)) at_ e (∃ v', PI w' b mb B at_ v' (paOf (all ++ [prReg ws]))) := by
  have HNO : Hid (codeL all (prReg ws) = 4) := hidP (by rw [hno]; rfl)
  have HN : Hid (prReg ws = noSt) := hno
  clear hno
  have HP0 : Hid (PS w0 b mb B at_ v (paOf all) ws) := h
  have HT0 : Hid (Touch (PT b mb B) w0 w0) := hidP (Touch.of_below (Below.refl _ _))
  have HW : Hid (∀ x ∈ ws, 0 < x.length ∧ x.length ≤ 20000) := hw
  clear h hw
  go_enter Try.func173, Try.ntmps173
  cases ws with
  | nil =>
    obtain ⟨sx, hx⟩ := HP0.out.p
    have t1 := hidP (number_none b at_ sx w0 hx)
    clear hx
    go_wp2_with fail
    refine t1.out.mono ?_
    rintro e wz ⟨rfl, ew⟩
    obtain rfl : w0 = wz := ew.symm
    exact ⟨rfl, HT0.out, Ends.no HNO.out (by decide)⟩
  | cons p t =>
    cases hp : numOk p with
    | false =>
      obtain ⟨sx, hx⟩ := HP0.out.p
      have t1 := hidP (number_no b at_ sx p t w0 hx (HW.out p (by simp)).2 hp)
      clear hx
      go_wp2_with fail
      refine t1.out.mono ?_
      rintro e wz ⟨rfl, tb⟩
      exact ⟨rfl, HT0.out.trans (HP0.out.tookB tb).2, Ends.no HNO.out (by decide)⟩
    | true =>
      obtain ⟨sx, hx⟩ := HP0.out.p
      have t1 := hidP (number_yes b at_ sx p t w0 hx (HW.out p (by simp)).2 hp)
      clear hx
      go_wp2_with fail
      refine t1.out.mono ?_
      rintro e w1 ⟨rfl, tb⟩
      have HP1 := hidP (HP0.out.tookB tb).1
      have HT1 := hidP (HT0.out.trans (HP0.out.tookB tb).2)
      clear tb t1 sx
      cases t with
      | nil =>
        obtain ⟨sx, hx⟩ := HP1.out.p
        have t1 := hidP (name_none b at_ sx w1 hx)
        clear hx
        go_wp2_with fail
        refine t1.out.mono ?_
        rintro e wz ⟨rfl, ew⟩
        obtain rfl : w1 = wz := ew.symm
        exact ⟨rfl, HT1.out, Ends.no HNO.out (by decide)⟩
      | cons n t =>
        cases hn : nameL n with
        | false =>
          obtain ⟨sx, hx⟩ := HP1.out.p
          have t1 := hidP (name_no b at_ sx n t w1 hx (HW.out n (by simp)).1 (HW.out n (by simp)).2 hn)
          clear hx
          go_wp2_with fail
          refine t1.out.mono ?_
          rintro e wz ⟨rfl, tb⟩
          exact ⟨rfl, HT1.out.trans (HP1.out.took tb).2, Ends.no HNO.out (by decide)⟩
        | true =>
          obtain ⟨sx, hx⟩ := HP1.out.p
          have t1 := hidP (name_yes b at_ sx n t w1 hx (HW.out n (by simp)).1 (HW.out n (by simp)).2 hn)
          clear hx
          go_wp2_with fail
          refine t1.out.mono ?_
          rintro e w2 ⟨rfl, tb⟩
          have HP2 := hidP (HP1.out.took tb).1
          have HT2 := hidP (HT1.out.trans (HP1.out.took tb).2)
          clear tb t1 sx
          cases t with
          | nil =>
            obtain ⟨sx, hx⟩ := HP2.out.p
            have t1 := hidP (next_no b at_ sx w2 hx)
            clear hx
            go_wp2_with fail
            refine t1.out.mono ?_
            rintro e wz ⟨rfl, ew⟩
            obtain rfl : w2 = wz := ew.symm
            exact ⟨rfl, HT2.out, Ends.no HNO.out (by decide)⟩
          | cons q t =>
            obtain ⟨sx, hx⟩ := HP2.out.p
            have t1 := hidP (next_yes b at_ sx q t w2 hx)
            clear hx
            go_wp2_with fail
            refine t1.out.mono ?_
            rintro e w3 ⟨rfl, tb⟩
            have HP3 := hidP (HP2.out.took tb).1
            have HT3 := hidP (HT2.out.trans (HP2.out.took tb).2)
            clear tb t1 sx
            have t1 := hidP (permW_any q w3)
            go_wp2_with fail
            refine t1.out.mono ?_
            rintro e wz ⟨rfl, ew⟩
            obtain rfl : w3 = wz := ew.symm
            clear t1
            by_cases hq : permL q = 0
            · have hqb : (permL q == 0) = true := by simpa using hq
              clear hq
              have t1 := hidP (refuse_yes b 4 at_ w3 HP3.out.i.c4)
              go_wp2_with fail
              refine t1.out.mono ?_
              rintro e wz ⟨rfl, ew⟩
              obtain rfl : w3 = wz := ew.symm
              exact ⟨rfl, HT3.out, Ends.no HNO.out (by decide)⟩
            · have hqb : (permL q == 0) = false := by simpa using hq
              have t1 := hidP (refuse_no b 4 w3)
              go_wp2_with fail
              refine t1.out.mono ?_
              rintro e wz ⟨rfl, ew⟩
              obtain rfl : w3 = wz := ew.symm
              clear t1
              cases t with
              | nil => exact absurd HN.out (by simp [prReg, hp, hn, hq, noSt])
              | cons s t =>
                by_cases hso : s = kHug
                · subst hso
                  obtain ⟨sx, hx⟩ := HP3.out.p
                  have t1 := hidP (option_yes b at_ sx kHug t w3 hx)
                  clear hx
                  go_wp2_with fail
                  refine t1.out.mono ?_
                  rintro e w4 ⟨rfl, tb⟩
                  have HP4 := hidP (HP3.out.took tb).1
                  have HT4 := hidP (HT3.out.trans (HP3.out.took tb).2)
                  clear tb t1 sx
                  cases t with
                  | nil => exact absurd HN.out (by simp [prReg, hp, hn, hq, noSt])
                  | cons y t =>
                    obtain ⟨sx, hx⟩ := HP4.out.p
                    have t1 := hidP (end_no b at_ sx (y :: t) w4 hx (by simp))
                    clear hx
                    go_wp2_with fail
                    refine t1.out.mono ?_
                    rintro e wz ⟨rfl, ew⟩
                    obtain rfl : w4 = wz := ew.symm
                    exact ⟨rfl, HT4.out, Ends.no HNO.out (by decide)⟩
                · obtain ⟨sx, hx⟩ := HP3.out.p
                  have t1 := hidP (option_no b at_ sx kHug s t w3 hx hso)
                  clear hx
                  go_wp2_with fail
                  refine t1.out.mono ?_
                  rintro e wz ⟨rfl, ew⟩
                  obtain rfl : w3 = wz := ew.symm
                  clear t1 sx
                  obtain ⟨sx, hx⟩ := HP3.out.p
                  have t1 := hidP (end_no b at_ sx (s :: t) w3 hx (by simp))
                  clear hx
                  go_wp2_with fail
                  refine t1.out.mono ?_
                  rintro e wz ⟨rfl, ew⟩
                  obtain rfl : w3 = wz := ew.symm
                  exact ⟨rfl, HT3.out, Ends.no HNO.out (by decide)⟩
end Go.Proofs.Ytnmhkgmmpkjjeaa
