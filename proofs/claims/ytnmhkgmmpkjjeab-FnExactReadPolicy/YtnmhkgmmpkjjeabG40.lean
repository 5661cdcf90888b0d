import Derived.Test.YtnmhkgmmpkjjeabG39
namespace Go.Proofs.Ytnmhkgmmpkjjeab
open Go.ChangeShapes Go.WideShapes Go.ChangeAt Go.RowKit
set_option linter.unusedVariables false
set_option linter.unusedSimpArgs false
set_option maxRecDepth 100000
attribute [local go_sem ↓] Go.wp_at_zero Go.wp_at_succ
attribute [local go_sem] bs_size bs_cAt bs_app bs_mk bs_cut bs_list

/-! Forms that are none. -/
theorem code_no (all : List St) : codeL all noSt = 4 := rfl
theorem prGrd_1 {p : Txt} {t : List Txt} (h : numOk p = false) : prGrd (p :: t) = noSt := by
  match t with
  | [] => rfl
  | [c] => simp [prGrd, h]
  | _ :: _ :: _ => rfl
theorem prGrd_2 {p c : Txt} {t : List Txt} (h : numOk c = false) : prGrd (p :: c :: t) = noSt := by
  match t with
  | [] => simp [prGrd, h]
  | _ :: _ => rfl
theorem prObj_n {n : Txt} {t : List Txt} (h : nameL n = false) : prObj (n :: t) = noSt := by
  match t with
  | [] => rfl
  | [_] => rfl
  | [_, _] => rfl
  | [_, _, _] => simp [prObj, h]
  | [_, _, _, _] => simp [prObj, h]
  | _ :: _ :: _ :: _ :: _ :: _ => rfl
theorem prObj_c {n c : Txt} {t : List Txt} (h : numOk c = false) : prObj (n :: c :: t) = noSt := by
  match t with
  | [] => rfl
  | [_] => rfl
  | [_, _] => simp [prObj, h]
  | [_, _, _] => simp [prObj, h]
  | _ :: _ :: _ :: _ :: _ => rfl
theorem prObj_a {n c a : Txt} {t : List Txt} (h : a ≠ kAtR) : prObj (n :: c :: a :: t) = noSt := by
  match t with
  | [] => rfl
  | [_] => simp [prObj, h]
  | [_, _] => simp [prObj, h]
  | _ :: _ :: _ :: _ => rfl
theorem prObj_f {n c a f : Txt} {t : List Txt} (h : numOk f = false) : prObj (n :: c :: a :: f :: t) = noSt := by
  match t with
  | [] => simp [prObj, h]
  | [_] => simp [prObj, h]
  | _ :: _ :: _ => rfl
theorem prObj_s {n c a f s : Txt} {t : List Txt} (h : s ≠ kSha) : prObj (n :: c :: a :: f :: s :: t) = noSt := by
  match t with
  | [] => simp [prObj, h]
  | _ :: _ => rfl
theorem prReg_p {p : Txt} {t : List Txt} (h : numOk p = false) : prReg (p :: t) = noSt := by
  match t with
  | [] => rfl
  | [_] => rfl
  | [_, _] => simp [prReg, h]
  | [_, _, _] => simp [prReg, h]
  | _ :: _ :: _ :: _ :: _ => rfl
theorem prReg_n {p n : Txt} {t : List Txt} (h : nameL n = false) : prReg (p :: n :: t) = noSt := by
  match t with
  | [] => rfl
  | [_] => simp [prReg, h]
  | [_, _] => simp [prReg, h]
  | _ :: _ :: _ :: _ => rfl
theorem prReg_q {p n q : Txt} {t : List Txt} (h : permL q = 0) : prReg (p :: n :: q :: t) = noSt := by
  match t with
  | [] => simp [prReg, h]
  | [_] => simp [prReg, h]
  | _ :: _ :: _ => rfl
theorem prReg_s {p n q s : Txt} {t : List Txt} (h : s ≠ kHug) : prReg (p :: n :: q :: s :: t) = noSt := by
  match t with
  | [] => simp [prReg, h]
  | _ :: _ => rfl
theorem valL_bd {x : Txt} (h : numOk x = true) : 0 ≤ (valL x : Int) ∧ (valL x : Int) < 1000000 := by
  have := numL_lt x
  rw [(numL_ok h).1] at this
  omega

set_option maxHeartbeats 1000000 in
theorem readGuard_any (b mb B at_ : Nat) (v : PV) (all : List St) (ws : List Txt) (w0 : World) (hg : Good all) (hl : all.length ≤ 999) (hw : ∀ x ∈ ws, 0 < x.length ∧ x.length ≤ 20000) (h : PS w0 b mb B at_ v (paOf all) ws) :
    Calls Try.prog 203 #[.pointer (some ⟨b, 0, none⟩)] w0 fun e w' => Touch (PT b mb B) w0 w' ∧ Ends (codeL all (prGrd ws)) at_ e (∃ v', PI w' b mb B at_ v' (paOf (all ++ [prGrd ws]))) := by
  have HP0 : Hid (PS w0 b mb B at_ v (paOf all) ws) := h
  have HT0 : Hid (Touch (PT b mb B) w0 w0) := hidP (Touch.of_below (Below.refl _ _))
  have HW : Hid (∀ x ∈ ws, 0 < x.length ∧ x.length ≤ 20000) := hw
  clear h hw
  go_enter Try.func203, Try.ntmps203
  cases ws with
  | nil =>
    have HNO : Hid (codeL all (prGrd []) = 4) := hidP rfl
    obtain ⟨sx, hx⟩ := HP0.out.p
    have t1 := hidP (number_none b at_ sx w0 hx)
    clear hx
    go_wp2_with fail
    refine t1.out.mono ?_
    rintro e wz ⟨rfl, ew⟩
    obtain rfl : w0 = wz := ew.symm
    exact ⟨rfl, HT0.out, Ends.no HNO.out (by decide)⟩
  | cons p t =>
    cases hp : numOk p with
    | false =>
      have HNO : Hid (codeL all (prGrd (p :: t)) = 4) := hidP (by rw [prGrd_1 hp]; rfl)
      obtain ⟨sx, hx⟩ := HP0.out.p
      have t1 := hidP (number_no b at_ sx p t w0 hx (HW.out p (by simp)).2 hp)
      clear hx
      go_wp2_with fail
      refine t1.out.mono ?_
      rintro e wz ⟨rfl, tb⟩
      exact ⟨rfl, HT0.out.trans (HP0.out.tookB tb).2, Ends.no HNO.out (by decide)⟩
    | true =>
      obtain ⟨sx, hx⟩ := HP0.out.p
      have t1 := hidP (number_yes b at_ sx p t w0 hx (HW.out p (by simp)).2 hp)
      clear hx
      go_wp2_with fail
      refine t1.out.mono ?_
      rintro e w1 ⟨rfl, tb⟩
      have HP1 := hidP (HP0.out.tookB tb).1
      have HT1 := hidP (HT0.out.trans (HP0.out.tookB tb).2)
      clear tb t1 sx
      cases t with
      | nil =>
        have HNO : Hid (codeL all (prGrd [p]) = 4) := hidP rfl
        obtain ⟨sx, hx⟩ := HP1.out.p
        have t1 := hidP (number_none b at_ sx w1 hx)
        clear hx
        go_wp2_with fail
        refine t1.out.mono ?_
        rintro e wz ⟨rfl, ew⟩
        obtain rfl : w1 = wz := ew.symm
        exact ⟨rfl, HT1.out, Ends.no HNO.out (by decide)⟩
      | cons c t =>
        cases hc : numOk c with
        | false =>
          have HNO : Hid (codeL all (prGrd (p :: c :: t)) = 4) := hidP (by rw [prGrd_2 hc]; rfl)
          obtain ⟨sx, hx⟩ := HP1.out.p
          have t1 := hidP (number_no b at_ sx c t w1 hx (HW.out c (by simp)).2 hc)
          clear hx
          go_wp2_with fail
          refine t1.out.mono ?_
          rintro e wz ⟨rfl, tb⟩
          exact ⟨rfl, HT1.out.trans (HP1.out.tookB tb).2, Ends.no HNO.out (by decide)⟩
        | true =>
          obtain ⟨sx, hx⟩ := HP1.out.p
          have t1 := hidP (number_yes b at_ sx c t w1 hx (HW.out c (by simp)).2 hc)
          clear hx
          go_wp2_with fail
          refine t1.out.mono ?_
          rintro e w2 ⟨rfl, tb⟩
          have HP2 := hidP (HP1.out.tookB tb).1
          have HT2 := hidP (HT1.out.trans (HP1.out.tookB tb).2)
          clear tb t1 sx
          cases t with
          | cons y t =>
            have HNO : Hid (codeL all (prGrd (p :: c :: y :: t)) = 4) := hidP rfl
            obtain ⟨sx, hx⟩ := HP2.out.p
            have t1 := hidP (end_no b at_ sx (y :: t) w2 hx (by simp))
            clear hx
            go_wp2_with fail
            refine t1.out.mono ?_
            rintro e wz ⟨rfl, ew⟩
            obtain rfl : w2 = wz := ew.symm
            exact ⟨rfl, HT2.out, Ends.no HNO.out (by decide)⟩
          | nil =>
            obtain ⟨sx, hx⟩ := HP2.out.p
            have t1 := hidP (end_yes b at_ sx w2 hx)
            clear hx
            go_wp2_with fail
            refine t1.out.mono ?_
            rintro e wz ⟨rfl, ew⟩
            obtain rfl : w2 = wz := ew.symm
            clear t1 sx
            have hP := valL_bd hp
            have hC := valL_bd hc
            have e1 : prGrd [p, c] = ⟨3, [], valL p, valL c, 0, false⟩ := by simp [prGrd, hp, hc]
            have HE : Hid (codeL all (prGrd [p, c]) = tkCode ⟨valL p, valL c⟩ (pagesOf all) ∧ paOf (all ++ [prGrd [p, c]]) = ⟨seeAll all, framesOf all, pagesOf all ++ [⟨valL p, valL c⟩], regsOf all⟩) := hidP (by
              rw [e1]
              exact ⟨code_grd all _ rfl ⟨hP.1, hP.2, hC.1, hC.2, by show (0 : Int) ≤ 0; omega, by show (0 : Int) ≤ 7; omega⟩, pa_grd hg _ rfl⟩)
            have t1 := hidP (takePages_any ⟨valL p, valL c⟩ b mb B at_ v (paOf all) w2 ⟨by dsimp only; omega, by dsimp only; omega⟩ HP2.out.i (pages_rn hg) (by have := (lens_le all).1; show (pagesOf all).length ≤ 1000; omega))
            clear e1 hP hC
            go_wp2_with fail
            refine t1.out.mono ?_
            rintro e w3 ⟨ht', he⟩
            have ht : Touch (PT b mb B) w2 w3 := ⟨ht'.os, ht'.tape, ht'.output, ht'.size, fun k hk hn => ht'.block k hk (fun e => hn (e.elim .inl (fun e => .inr (.inr (HP2.out.i.of.2.1 k e).1))))⟩
            clear ht'
            by_cases hz : tkCode ⟨valL p, valL c⟩ (pagesOf all) = 0
            · obtain ⟨rfl, v', -, hv⟩ := he.1 hz
              have HV := hidP hv
              have HT := hidP (HT2.out.trans ht)
              clear hv ht he t1
              go_wp2_with fail
              refine bodyPost_end (v := .tuple #[]) (by simp [results, Try.results203, go_sem]) rfl ⟨HT.out, Ends.yes (HE.out.1.trans hz) ⟨v', ?_⟩⟩
              rw [HE.out.2]
              exact HV.out
            · obtain rfl := he.2 hz
              exact ⟨rfl, HT2.out.trans ht, Ends.no HE.out.1 hz⟩

end Go.Proofs.Ytnmhkgmmpkjjeab
