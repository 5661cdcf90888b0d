import Derived.Test.YtnmhkgmmpkjjeaaG29
namespace Go.Proofs.Ytnmhkgmmpkjjeaa
open Go.ChangeShapes Go.WideShapes Go.ChangeAt Go.RowKit
set_option linter.unusedVariables false
set_option linter.unusedSimpArgs false
set_option maxRecDepth 100000
attribute [local go_sem ↓] Go.wp_at_zero Go.wp_at_succ
attribute [local go_sem] bs_size bs_cAt bs_app bs_mk bs_cut bs_list

/-! readObject: no form of an object. -/
theorem objBad : ∀ {ws : List Txt}, prObj ws = noSt ∨ ∃ n c f : Txt, ∃ sh : Bool, nameL n = true ∧ numOk c = true ∧ numOk f = true ∧ ws = n :: c :: kAtR :: f :: (if sh = true then [kSha] else []) ∧ prObj ws = ⟨1, n, valL c, valL f, 0, sh⟩ := by
  intro ws
  match ws with
  | [] => exact .inl rfl
  | [_] => exact .inl rfl
  | [_, _] => exact .inl rfl
  | [_, _, _] => exact .inl rfl
  | [n, c, a, f] =>
    by_cases h : nameL n = true ∧ numOk c = true ∧ a = kAtR ∧ numOk f = true
    · obtain ⟨h1, h2, rfl, h4⟩ := h
      exact .inr ⟨n, c, f, false, h1, h2, h4, rfl, by simp [prObj, h1, h2, h4]⟩
    · exact .inl (by show (if nameL n = true ∧ numOk c = true ∧ a = kAtR ∧ numOk f = true then _ else noSt) = noSt; rw [if_neg h])
  | [n, c, a, f, s] =>
    by_cases h : nameL n = true ∧ numOk c = true ∧ a = kAtR ∧ numOk f = true ∧ s = kSha
    · obtain ⟨h1, h2, rfl, h4, rfl⟩ := h
      exact .inr ⟨n, c, f, true, h1, h2, h4, rfl, by simp [prObj, h1, h2, h4]⟩
    · exact .inl (by show (if nameL n = true ∧ numOk c = true ∧ a = kAtR ∧ numOk f = true ∧ s = kSha then _ else noSt) = noSt; rw [if_neg h])
  | _ :: _ :: _ :: _ :: _ :: _ :: _ => exact .inl rfl
set_option maxHeartbeats 2000000 in
theorem readObj_bad (b mb B at_ : Nat) (v : PV) (all : List St) (ws : List Txt) (w0 : World) (hg : Good all) (hl : all.length ≤ 999) (hw : ∀ x ∈ ws, 0 < x.length ∧ x.length ≤ 20000) (h : PS w0 b mb B at_ v (paOf all) ws) (hno : prObj ws = noSt) :
    Calls Try.prog 172 #[.pointer (some ⟨b, 0, none⟩)] w0 fun e w' => Touch (PT b mb B) w0 w' ∧ Ends (codeL all (prObj ws)) at_ e (∃ v', PI w' b mb B at_ v' (paOf (all ++ [prObj ws]))) := by
  have HNO : Hid (codeL all (prObj ws) = 4) := hidP (by rw [hno]; rfl)
  have HN : Hid (prObj ws = noSt) := hno
  clear hno
  have HP0 : Hid (PS w0 b mb B at_ v (paOf all) ws) := h
  have HT0 : Hid (Touch (PT b mb B) w0 w0) := hidP (Touch.of_below (Below.refl _ _))
  have HW : Hid (∀ x ∈ ws, 0 < x.length ∧ x.length ≤ 20000) := hw
  clear h hw
  go_enter Try.func172, Try.ntmps172
  cases ws with
  | nil =>
    obtain ⟨sx, hx⟩ := HP0.out.p
    have t1 := hidP (name_none b at_ sx w0 hx)
    clear hx
    go_wp2_with fail
    refine t1.out.mono ?_
    rintro e wz ⟨rfl, ew⟩
    obtain rfl : w0 = wz := ew.symm
    exact ⟨rfl, HT0.out, Ends.no HNO.out (by decide)⟩
  | cons n t =>
    cases hn : nameL n with
    | false =>
      obtain ⟨sx, hx⟩ := HP0.out.p
      have t1 := hidP (name_no b at_ sx n t w0 hx (HW.out n (by simp)).1 (HW.out n (by simp)).2 hn)
      clear hx
      go_wp2_with fail
      refine t1.out.mono ?_
      rintro e wz ⟨rfl, tb⟩
      exact ⟨rfl, HT0.out.trans (HP0.out.took tb).2, Ends.no HNO.out (by decide)⟩
    | true =>
      obtain ⟨sx, hx⟩ := HP0.out.p
      have t1 := hidP (name_yes b at_ sx n t w0 hx (HW.out n (by simp)).1 (HW.out n (by simp)).2 hn)
      clear hx
      go_wp2_with fail
      refine t1.out.mono ?_
      rintro e w1 ⟨rfl, tb⟩
      have HP1 := hidP (HP0.out.took tb).1
      have HT1 := hidP (HT0.out.trans (HP0.out.took tb).2)
      clear tb t1 sx
      cases t with
      | nil =>
        obtain ⟨sx, hx⟩ := HP1.out.p
        have t1 := hidP (number_none b at_ sx w1 hx)
        clear hx
        go_wp2_with fail
        refine t1.out.mono ?_
        rintro e wz ⟨rfl, ew⟩
        obtain rfl : w1 = wz := ew.symm
        exact ⟨rfl, HT1.out, Ends.no HNO.out (by decide)⟩
      | cons c t =>
        cases hc : numOk c with
        | false =>
          obtain ⟨sx, hx⟩ := HP1.out.p
          have t1 := hidP (number_no b at_ sx c t w1 hx (HW.out c (by simp)).2 hc)
          clear hx
          go_wp2_with fail
          refine t1.out.mono ?_
          rintro e wz ⟨rfl, tb⟩
          exact ⟨rfl, HT1.out.trans (HP1.out.tookB tb).2, Ends.no HNO.out (by decide)⟩
        | true =>
          obtain ⟨sx, hx⟩ := HP1.out.p
          have t1 := hidP (number_yes b at_ sx c t w1 hx (HW.out c (by simp)).2 hc)
          clear hx
          go_wp2_with fail
          refine t1.out.mono ?_
          rintro e w2 ⟨rfl, tb⟩
          have HP2 := hidP (HP1.out.tookB tb).1
          have HT2 := hidP (HT1.out.trans (HP1.out.tookB tb).2)
          clear tb t1 sx
          cases t with
          | nil =>
            obtain ⟨sx, hx⟩ := HP2.out.p
            have t1 := hidP (next_no b at_ sx w2 hx)
            clear hx
            go_wp2_with fail
            refine t1.out.mono ?_
            rintro e wz ⟨rfl, ew⟩
            obtain rfl : w2 = wz := ew.symm
            exact ⟨rfl, HT2.out, Ends.no HNO.out (by decide)⟩
          | cons a t =>
            obtain ⟨sx, hx⟩ := HP2.out.p
            have t1 := hidP (next_yes b at_ sx a t w2 hx)
            clear hx
            go_wp2_with fail
            refine t1.out.mono ?_
            rintro e w3 ⟨rfl, tb⟩
            have HP3 := hidP (HP2.out.took tb).1
            have HT3 := hidP (HT2.out.trans (HP2.out.took tb).2)
            clear tb t1 sx
            by_cases ha : a = kAtR
            · subst ha
              have hab : (kAtR == [97, 116]) = true := rfl
              have t1 := hidP (refuse_no b 4 w3)
              go_wp2_with fail
              refine t1.out.mono ?_
              rintro e wz ⟨rfl, ew⟩
              obtain rfl : w3 = wz := ew.symm
              clear t1
              cases t with
              | nil =>
                obtain ⟨sx, hx⟩ := HP3.out.p
                have t1 := hidP (number_none b at_ sx w3 hx)
                clear hx
                go_wp2_with fail
                refine t1.out.mono ?_
                rintro e wz ⟨rfl, ew⟩
                obtain rfl : w3 = wz := ew.symm
                exact ⟨rfl, HT3.out, Ends.no HNO.out (by decide)⟩
              | cons f t =>
                cases hf : numOk f with
                | false =>
                  obtain ⟨sx, hx⟩ := HP3.out.p
                  have t1 := hidP (number_no b at_ sx f t w3 hx (HW.out f (by simp)).2 hf)
                  clear hx
                  go_wp2_with fail
                  refine t1.out.mono ?_
                  rintro e wz ⟨rfl, tb⟩
                  exact ⟨rfl, HT3.out.trans (HP3.out.tookB tb).2, Ends.no HNO.out (by decide)⟩
                | true =>
                  obtain ⟨sx, hx⟩ := HP3.out.p
                  have t1 := hidP (number_yes b at_ sx f t w3 hx (HW.out f (by simp)).2 hf)
                  clear hx
                  go_wp2_with fail
                  refine t1.out.mono ?_
                  rintro e w4 ⟨rfl, tb⟩
                  have HP4 := hidP (HP3.out.tookB tb).1
                  have HT4 := hidP (HT3.out.trans (HP3.out.tookB tb).2)
                  clear tb t1 sx
                  cases t with
                  | nil => exact absurd HN.out (by simp [prObj, hn, hc, hf, noSt])
                  | cons s t =>
                    obtain ⟨w5, hw5⟩ : ∃ w5, w5 = w4.alloc (.cells #[.int .i64 (valL f : Int), .int .i64 (valL c : Int)] 255) := ⟨_, rfl⟩
                    have HW5 : Hid (w5 = _) := hw5
                    have HP5 := hidP (HP4.out.below (w' := w5) (by rw [hw5]; exact bal))
                    have HT5 := hidP (HT4.out.trans (Touch.of_below (b := w5) (by rw [hw5]; exact bal)))
                    clear hw5
                    by_cases hso : s = kSha
                    · subst hso
                      obtain ⟨sx, hx⟩ := HP5.out.p
                      have t1 := hidP (option_yes b at_ sx kSha t w5 hx)
                      clear hx
                      go_wp2_with fail
                      rw [← HW5.out]
                      refine t1.out.mono ?_
                      rintro e w6 ⟨rfl, tb⟩
                      have HP6 := hidP (HP5.out.took tb).1
                      have HT6 := hidP (HT5.out.trans (HP5.out.took tb).2)
                      clear tb t1 sx
                      cases t with
                      | nil => exact absurd HN.out (by simp [prObj, hn, hc, hf, noSt])
                      | cons y t =>
                        obtain ⟨sx, hx⟩ := HP6.out.p
                        have t1 := hidP (end_no b at_ sx (y :: t) w6 hx (by simp))
                        clear hx
                        go_wp2_with fail
                        refine t1.out.mono ?_
                        rintro e wz ⟨rfl, ew⟩
                        obtain rfl : w6 = wz := ew.symm
                        exact ⟨rfl, HT6.out, Ends.no HNO.out (by decide)⟩
                    · obtain ⟨sx, hx⟩ := HP5.out.p
                      have t1 := hidP (option_no b at_ sx kSha s t w5 hx hso)
                      clear hx
                      go_wp2_with fail
                      rw [← HW5.out]
                      refine t1.out.mono ?_
                      rintro e wz ⟨rfl, ew⟩
                      obtain rfl : w5 = wz := ew.symm
                      clear t1 sx
                      obtain ⟨sx, hx⟩ := HP5.out.p
                      have t1 := hidP (end_no b at_ sx (s :: t) w5 hx (by simp))
                      clear hx
                      go_wp2_with fail
                      refine t1.out.mono ?_
                      rintro e wz ⟨rfl, ew⟩
                      obtain rfl : w5 = wz := ew.symm
                      exact ⟨rfl, HT5.out, Ends.no HNO.out (by decide)⟩
            · have hab : (a == [97, 116]) = false := beq_eq_false_iff_ne.2 ha
              have t1 := hidP (refuse_yes b 4 at_ w3 HP3.out.i.c4)
              go_wp2_with fail
              refine t1.out.mono ?_
              rintro e wz ⟨rfl, ew⟩
              obtain rfl : w3 = wz := ew.symm
              exact ⟨rfl, HT3.out, Ends.no HNO.out (by decide)⟩
end Go.Proofs.Ytnmhkgmmpkjjeaa
