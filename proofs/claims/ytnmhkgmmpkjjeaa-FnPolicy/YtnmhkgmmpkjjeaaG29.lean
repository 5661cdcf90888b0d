import Derived.Test.YtnmhkgmmpkjjeaaG28
namespace Go.Proofs.Ytnmhkgmmpkjjeaa
set_option linter.unusedVariables false
set_option linter.unusedSimpArgs false
set_option maxRecDepth 100000

/-! Regions in order, joined: the same spans as page by page. -/
def addTo (l r : SpanE) : SpanE := ⟨l.page, l.count + r.count, l.out, l.perm, l.huge⟩
def joinStep (out : List SpanE) (r : SpanE) : List SpanE := if 0 < out.length ∧ joinsB (lastS out) r = true then out.set (out.length - 1) (addTo (lastS out) r) else out ++ [r]
def joinL (rs : List SpanE) : List SpanE := rs.foldl joinStep []
/-- The first k pages of a region, as one span; its page k. -/
def headOf (r : SpanE) (k : Nat) : SpanE := ⟨r.page, (k : Nat), r.out, r.perm, r.huge⟩
def unitAt (r : SpanE) (k : Nat) : SpanE := ⟨r.page + (k : Nat), 1, r.out + (k : Nat), r.perm, r.huge⟩
theorem lastS_snoc (out : List SpanE) (x : SpanE) : lastS (out ++ [x]) = x := by
  unfold lastS eAt
  rw [List.getD_eq_getElem?_getD]
  simp
theorem set_snoc (out : List SpanE) (x y : SpanE) : (out ++ [x]).set ((out ++ [x]).length - 1) y = out ++ [y] := by
  simp
theorem lastS_set (out : List SpanE) (y : SpanE) (h : 0 < out.length) : lastS (out.set (out.length - 1) y) = y := by
  unfold lastS eAt
  rw [List.length_set, List.getD_eq_getElem?_getD, List.getElem?_set_self (by omega)]
  rfl
theorem set_set (out : List SpanE) (x y : SpanE) : (out.set (out.length - 1) x).set ((out.set (out.length - 1) x).length - 1) y = out.set (out.length - 1) y := by
  rw [List.length_set, List.set_set]
theorem join_head (out : List SpanE) (r : SpanE) (k : Nat) : spanStep (joinStep out (headOf r (k + 1))) (unitAt r (k + 1)) = joinStep out (headOf r (k + 2)) := by
  have hj : ∀ n, joinsB (lastS out) (headOf r n) = joinsB (lastS out) r := fun n => by unfold joinsB headOf; rfl
  unfold joinStep
  rw [hj, hj]
  by_cases h : 0 < out.length ∧ joinsB (lastS out) r = true
  · rw [if_pos h, if_pos h]
    unfold spanStep
    have hjj := h.2
    unfold joinsB at hjj
    simp at hjj
    have hlen : 0 < (out.set (out.length - 1) (addTo (lastS out) (headOf r (k + 1)))).length := by rw [List.length_set]; exact h.1
    have hl := lastS_set out (addTo (lastS out) (headOf r (k + 1))) h.1
    have hjoin : joinsB (lastS (out.set (out.length - 1) (addTo (lastS out) (headOf r (k + 1))))) (unitAt r (k + 1)) = true := by
      rw [hl]
      unfold joinsB addTo headOf unitAt
      simp
      exact ⟨by omega, by omega, hjj.2.2.1, hjj.2.2.2⟩
    rw [if_pos (show (unitAt r (k + 1)).count = 1 from rfl), if_pos ⟨hlen, hjoin⟩, hl, set_set]
    congr 1
    unfold more addTo headOf
    simp
    omega
  · rw [if_neg h, if_neg h]
    unfold spanStep
    have hl := lastS_snoc out (headOf r (k + 1))
    have hjoin : joinsB (lastS (out ++ [headOf r (k + 1)])) (unitAt r (k + 1)) = true := by
      rw [hl]
      unfold joinsB headOf unitAt
      simp
    rw [if_pos (show (unitAt r (k + 1)).count = 1 from rfl), if_pos ⟨by simp, hjoin⟩, hl, set_snoc]
    congr 2
/-- Over a function that says what lies at a page. -/
def foldP (pc : Nat → SpanE) (out : List SpanE) : Nat → Nat → List SpanE
  | _, 0 => out
  | p, n + 1 => foldP pc (spanStep out (pc p)) (p + 1) n
theorem foldP_add (pc : Nat → SpanE) : ∀ (a b p : Nat) (out : List SpanE), foldP pc out p (a + b) = foldP pc (foldP pc out p a) (p + a) b
  | 0, b, p, out => by rw [Nat.zero_add]; rfl
  | a + 1, b, p, out => by
    rw [show a + 1 + b = (a + b) + 1 by omega]
    show foldP pc (spanStep out (pc p)) (p + 1) (a + b) = foldP pc (foldP pc (spanStep out (pc p)) (p + 1) a) (p + (a + 1)) b
    rw [foldP_add pc a b, show p + 1 + a = p + (a + 1) by omega]
theorem foldP_gap (pc : Nat → SpanE) : ∀ (n p : Nat) (out : List SpanE), (∀ q, p ≤ q → q < p + n → pc q = noSpan) → foldP pc out p n = out
  | 0, p, out, _ => rfl
  | n + 1, p, out, h => by
    show foldP pc (spanStep out (pc p)) (p + 1) n = out
    rw [h p (by omega) (by omega)]
    have : spanStep out noSpan = out := by unfold spanStep; rw [if_neg (by decide)]
    rw [this]
    exact foldP_gap pc n (p + 1) out (fun q h1 h2 => h q (by omega) (by omega))
theorem foldP_reg (pc : Nat → SpanE) (r : SpanE) (P : Nat) (hP : r.page = (P : Nat)) (out : List SpanE) : ∀ n : Nat, (∀ k, k < n + 1 → pc (P + k) = unitAt r k) → foldP pc out P (n + 1) = joinStep out (headOf r (n + 1))
  | 0, h => by
    show spanStep out (pc P) = _
    have h0 := h 0 (by omega)
    rw [Nat.add_zero] at h0
    rw [h0]
    unfold spanStep joinStep
    rw [if_pos (show (unitAt r 0).count = 1 from rfl)]
    have e1 : joinsB (lastS out) (unitAt r 0) = joinsB (lastS out) (headOf r (0 + 1)) := by unfold joinsB unitAt headOf; simp
    rw [e1]
    have e2 : unitAt r 0 = headOf r (0 + 1) := by unfold unitAt headOf; simp
    rw [e2]
    rfl
  | n + 1, h => by
    rw [foldP_add pc (n + 1) 1, foldP_reg pc r P hP out n (fun k hk => h k (by omega))]
    show spanStep _ (pc (P + (n + 1))) = _
    rw [h (n + 1) (by omega)]
    exact join_head out r n
theorem foldP_all (pc : Nat → SpanE) : ∀ (rs : List SpanE) (lo : Nat) (out : List SpanE), lo ≤ 4096 → (∀ r ∈ rs, 1 ≤ r.count ∧ (lo : Int) ≤ r.page ∧ r.page + r.count ≤ 4096) → rs.Pairwise (fun x y => x.page + x.count ≤ y.page) →
    (∀ q : Nat, lo ≤ q → q < 4096 → (∀ r ∈ rs, r.page ≤ (q : Int) → (q : Int) < r.page + r.count → pc q = unitAt r (q - r.page.toNat)) ∧ ((∀ r ∈ rs, ¬ (r.page ≤ (q : Int) ∧ (q : Int) < r.page + r.count)) → pc q = noSpan)) →
    foldP pc out lo (4096 - lo) = rs.foldl joinStep out
  | [], lo, out, hlo, _, _, hpc => by
    rw [foldP_gap pc _ _ _ (fun q h1 h2 => (hpc q h1 (by omega)).2 (fun r hr => by cases hr))]
    rfl
  | r :: rs, lo, out, hlo, hr, hp, hpc => by
    obtain ⟨r1, r2, r3⟩ := hr r List.mem_cons_self
    obtain ⟨p1, p2⟩ := List.pairwise_cons.1 hp
    obtain ⟨P, hP⟩ : ∃ P : Nat, r.page = (P : Nat) := ⟨r.page.toNat, by omega⟩
    obtain ⟨C, hC⟩ : ∃ C : Nat, r.count = ((C + 1 : Nat) : Int) := ⟨r.count.toNat - 1, by omega⟩
    have ht : r.page.toNat = P := by omega
    have e : 4096 - lo = (P - lo) + ((C + 1) + (4096 - (P + (C + 1)))) := by omega
    rw [e, foldP_add, foldP_gap pc _ _ out, show lo + (P - lo) = P by omega, foldP_add, foldP_reg pc r P hP out C]
    · have hh : headOf r (C + 1) = r := by unfold headOf; rw [← hC]
      rw [hh, List.foldl_cons]
      refine foldP_all pc rs (P + (C + 1)) _ (by omega) (fun s hs => ?_) p2 (fun q h1 h2 => ⟨fun s hs => (hpc q (by omega) h2).1 s (List.mem_cons_of_mem _ hs), fun hn => (hpc q (by omega) h2).2 (fun s hs => ?_)⟩)
      · have a := hr s (List.mem_cons_of_mem _ hs)
        have b := p1 s hs
        omega
      · rcases List.mem_cons.1 hs with rfl | hs
        · omega
        · exact hn s hs
    · intro k hk
      have := (hpc (P + k) (by omega) (by omega)).1 r List.mem_cons_self (by omega) (by omega)
      rw [this, ht, Nat.add_sub_cancel_left]
    · intro q h1 h2
      refine (hpc q (by omega) (by omega)).2 (fun s hs hc => ?_)
      rcases List.mem_cons.1 hs with rfl | hs
      · omega
      · have := p1 s hs
        have := (hr s (List.mem_cons_of_mem _ hs)).1
        omega
theorem spansTo_fold (all : List St) : ∀ n, spansTo all n = foldP (fun p => pieceL all (p : Nat)) [] 0 n
  | 0 => rfl
  | n + 1 => by
    rw [foldP_add _ n 1, ← spansTo_fold all n, Nat.zero_add]
    rfl
/-- What the sorted regions give. -/
theorem join_sorted {all : List St} {rs : List SpanE} (hp : rs.Perm (regsOf all)) (hs : rs.Pairwise (fun x y => x.page + x.count ≤ y.page)) (hb : ∀ r ∈ regsOf all, 1 ≤ r.count ∧ 0 ≤ r.page ∧ r.page + r.count ≤ 4096) : joinL rs = spansTo all 4096 := by
  rw [spansTo_fold]
  refine (foldP_all _ rs 0 [] (by omega) (fun r hr => by have := hb r (hp.mem_iff.1 hr); omega) hs (fun q _ hq => ⟨fun r hr h1 h2 => ?_, fun hn => ?_⟩)).symm
  · -- the statement that covers the page
    have uniq : ∀ r' ∈ rs, r'.page ≤ (q : Int) → (q : Int) < r'.page + r'.count → r' = r := by
      intro r' hr' h3 h4
      rcases List.pairwise_iff_getElem.1 hs with hh
      obtain ⟨i, hi, ei⟩ := List.mem_iff_getElem.1 hr
      obtain ⟨j, hj, ej⟩ := List.mem_iff_getElem.1 hr'
      rcases Nat.lt_trichotomy i j with hij | hij | hij
      · have := hh i j hi hj hij; rw [ei, ej] at this; omega
      · subst hij; rw [← ei, ← ej]
      · have := hh j i hj hi hij; rw [ei, ej] at this; omega
    unfold pieceL
    have hmem : r ∈ regsOf all := hp.mem_iff.1 hr
    unfold regsOf at hmem
    obtain ⟨e, he, e2⟩ := List.mem_map.1 hmem
    obtain ⟨m1, m2⟩ := List.mem_filter.1 he
    have hin : inR all (q : Nat) e = true := by
      unfold inR
      rw [m2]
      unfold regOf at e2
      rw [← e2] at h1 h2
      simp at h1 h2 ⊢
      omega
    cases hf : all.find? (inR all (q : Nat)) with
    | none => exact absurd hin (by have := List.find?_eq_none.1 hf e m1; simpa using this)
    | some f =>
      have fm := List.mem_of_find?_eq_some hf
      have ft := List.find?_some hf
      have hfr : regOf all f ∈ regsOf all := by
        unfold regsOf
        refine List.mem_map.2 ⟨f, List.mem_filter.2 ⟨fm, ?_⟩, rfl⟩
        unfold inR at ft
        simp at ft
        simpa using ft.1
      have hu := uniq (regOf all f) (hp.mem_iff.2 hfr) (by unfold inR at ft; simp at ft; exact ft.2.1) (by unfold inR at ft; simp at ft; exact ft.2.2)
      have hb0 := (hb r (hp.mem_iff.1 hr)).2.1
      show pieceOf all (q : Nat) f = _
      rw [← hu] at hb0 h1 ⊢
      unfold pieceOf unitAt regOf
      unfold regOf at hb0 h1
      simp at hb0 h1 ⊢
      omega
  · unfold pieceL
    have : all.find? (inR all (q : Nat)) = none := by
      rw [List.find?_eq_none]
      intro f fm ft
      unfold inR at ft
      simp at ft
      refine hn (regOf all f) (hp.mem_iff.2 ?_) ⟨ft.2.1, ft.2.2⟩
      unfold regsOf
      exact List.mem_map.2 ⟨f, List.mem_filter.2 ⟨fm, by simpa using ft.1⟩, rfl⟩
    rw [this]
end Go.Proofs.Ytnmhkgmmpkjjeaa
namespace Go.Proofs.Ytnmhkgmmpkjjeaa
open Go.ChangeShapes Go.WideShapes Go.ChangeAt Go.RowKit
set_option linter.unusedVariables false
set_option linter.unusedSimpArgs false
set_option maxRecDepth 100000
attribute [local go_sem ↓] Go.wp_at_zero Go.wp_at_succ
attribute [local go_sem] bs_size bs_cAt bs_app bs_mk bs_cut bs_list

/-! Forms that are none. -/
theorem code_no (all : List St) : codeL all noSt = 4 := rfl
theorem prGrd_1 {p : Txt} {t : List Txt} (h : numOk p = false) : prGrd (p :: t) = noSt := by
  match t with
  | [] => rfl
  | [c] => simp [prGrd, h]
  | _ :: _ :: _ => rfl
theorem prGrd_2 {p c : Txt} {t : List Txt} (h : numOk c = false) : prGrd (p :: c :: t) = noSt := by
  match t with
  | [] => simp [prGrd, h]
  | _ :: _ => rfl
theorem prObj_n {n : Txt} {t : List Txt} (h : nameL n = false) : prObj (n :: t) = noSt := by
  match t with
  | [] => rfl
  | [_] => rfl
  | [_, _] => rfl
  | [_, _, _] => simp [prObj, h]
  | [_, _, _, _] => simp [prObj, h]
  | _ :: _ :: _ :: _ :: _ :: _ => rfl
theorem prObj_c {n c : Txt} {t : List Txt} (h : numOk c = false) : prObj (n :: c :: t) = noSt := by
  match t with
  | [] => rfl
  | [_] => rfl
  | [_, _] => simp [prObj, h]
  | [_, _, _] => simp [prObj, h]
  | _ :: _ :: _ :: _ :: _ => rfl
theorem prObj_a {n c a : Txt} {t : List Txt} (h : a ≠ kAtR) : prObj (n :: c :: a :: t) = noSt := by
  match t with
  | [] => rfl
  | [_] => simp [prObj, h]
  | [_, _] => simp [prObj, h]
  | _ :: _ :: _ :: _ => rfl
theorem prObj_f {n c a f : Txt} {t : List Txt} (h : numOk f = false) : prObj (n :: c :: a :: f :: t) = noSt := by
  match t with
  | [] => simp [prObj, h]
  | [_] => simp [prObj, h]
  | _ :: _ :: _ => rfl
theorem prObj_s {n c a f s : Txt} {t : List Txt} (h : s ≠ kSha) : prObj (n :: c :: a :: f :: s :: t) = noSt := by
  match t with
  | [] => simp [prObj, h]
  | _ :: _ => rfl
theorem prReg_p {p : Txt} {t : List Txt} (h : numOk p = false) : prReg (p :: t) = noSt := by
  match t with
  | [] => rfl
  | [_] => rfl
  | [_, _] => simp [prReg, h]
  | [_, _, _] => simp [prReg, h]
  | _ :: _ :: _ :: _ :: _ => rfl
theorem prReg_n {p n : Txt} {t : List Txt} (h : nameL n = false) : prReg (p :: n :: t) = noSt := by
  match t with
  | [] => rfl
  | [_] => simp [prReg, h]
  | [_, _] => simp [prReg, h]
  | _ :: _ :: _ :: _ => rfl
theorem prReg_q {p n q : Txt} {t : List Txt} (h : permL q = 0) : prReg (p :: n :: q :: t) = noSt := by
  match t with
  | [] => simp [prReg, h]
  | [_] => simp [prReg, h]
  | _ :: _ :: _ => rfl
theorem prReg_s {p n q s : Txt} {t : List Txt} (h : s ≠ kHug) : prReg (p :: n :: q :: s :: t) = noSt := by
  match t with
  | [] => simp [prReg, h]
  | _ :: _ => rfl
theorem valL_bd {x : Txt} (h : numOk x = true) : 0 ≤ (valL x : Int) ∧ (valL x : Int) < 1000000 := by
  have := numL_lt x
  rw [(numL_ok h).1] at this
  omega

set_option maxHeartbeats 1000000 in
theorem readGuard_any (b mb B at_ : Nat) (v : PV) (all : List St) (ws : List Txt) (w0 : World) (hg : Good all) (hl : all.length ≤ 999) (hw : ∀ x ∈ ws, 0 < x.length ∧ x.length ≤ 20000) (h : PS w0 b mb B at_ v (paOf all) ws) :
    Calls Try.prog 174 #[.pointer (some ⟨b, 0, none⟩)] w0 fun e w' => Touch (PT b mb B) w0 w' ∧ Ends (codeL all (prGrd ws)) at_ e (∃ v', PI w' b mb B at_ v' (paOf (all ++ [prGrd ws]))) := by
  have HP0 : Hid (PS w0 b mb B at_ v (paOf all) ws) := h
  have HT0 : Hid (Touch (PT b mb B) w0 w0) := hidP (Touch.of_below (Below.refl _ _))
  have HW : Hid (∀ x ∈ ws, 0 < x.length ∧ x.length ≤ 20000) := hw
  clear h hw
  go_enter Try.func174, Try.ntmps174
  cases ws with
  | nil =>
    have HNO : Hid (codeL all (prGrd []) = 4) := hidP rfl
    obtain ⟨sx, hx⟩ := HP0.out.p
    have t1 := hidP (number_none b at_ sx w0 hx)
    clear hx
    go_wp2_with fail
    refine t1.out.mono ?_
    rintro e wz ⟨rfl, ew⟩
    obtain rfl : w0 = wz := ew.symm
    exact ⟨rfl, HT0.out, Ends.no HNO.out (by decide)⟩
  | cons p t =>
    cases hp : numOk p with
    | false =>
      have HNO : Hid (codeL all (prGrd (p :: t)) = 4) := hidP (by rw [prGrd_1 hp]; rfl)
      obtain ⟨sx, hx⟩ := HP0.out.p
      have t1 := hidP (number_no b at_ sx p t w0 hx (HW.out p (by simp)).2 hp)
      clear hx
      go_wp2_with fail
      refine t1.out.mono ?_
      rintro e wz ⟨rfl, tb⟩
      exact ⟨rfl, HT0.out.trans (HP0.out.tookB tb).2, Ends.no HNO.out (by decide)⟩
    | true =>
      obtain ⟨sx, hx⟩ := HP0.out.p
      have t1 := hidP (number_yes b at_ sx p t w0 hx (HW.out p (by simp)).2 hp)
      clear hx
      go_wp2_with fail
      refine t1.out.mono ?_
      rintro e w1 ⟨rfl, tb⟩
      have HP1 := hidP (HP0.out.tookB tb).1
      have HT1 := hidP (HT0.out.trans (HP0.out.tookB tb).2)
      clear tb t1 sx
      cases t with
      | nil =>
        have HNO : Hid (codeL all (prGrd [p]) = 4) := hidP rfl
        obtain ⟨sx, hx⟩ := HP1.out.p
        have t1 := hidP (number_none b at_ sx w1 hx)
        clear hx
        go_wp2_with fail
        refine t1.out.mono ?_
        rintro e wz ⟨rfl, ew⟩
        obtain rfl : w1 = wz := ew.symm
        exact ⟨rfl, HT1.out, Ends.no HNO.out (by decide)⟩
      | cons c t =>
        cases hc : numOk c with
        | false =>
          have HNO : Hid (codeL all (prGrd (p :: c :: t)) = 4) := hidP (by rw [prGrd_2 hc]; rfl)
          obtain ⟨sx, hx⟩ := HP1.out.p
          have t1 := hidP (number_no b at_ sx c t w1 hx (HW.out c (by simp)).2 hc)
          clear hx
          go_wp2_with fail
          refine t1.out.mono ?_
          rintro e wz ⟨rfl, tb⟩
          exact ⟨rfl, HT1.out.trans (HP1.out.tookB tb).2, Ends.no HNO.out (by decide)⟩
        | true =>
          obtain ⟨sx, hx⟩ := HP1.out.p
          have t1 := hidP (number_yes b at_ sx c t w1 hx (HW.out c (by simp)).2 hc)
          clear hx
          go_wp2_with fail
          refine t1.out.mono ?_
          rintro e w2 ⟨rfl, tb⟩
          have HP2 := hidP (HP1.out.tookB tb).1
          have HT2 := hidP (HT1.out.trans (HP1.out.tookB tb).2)
          clear tb t1 sx
          cases t with
          | cons y t =>
            have HNO : Hid (codeL all (prGrd (p :: c :: y :: t)) = 4) := hidP rfl
            obtain ⟨sx, hx⟩ := HP2.out.p
            have t1 := hidP (end_no b at_ sx (y :: t) w2 hx (by simp))
            clear hx
            go_wp2_with fail
            refine t1.out.mono ?_
            rintro e wz ⟨rfl, ew⟩
            obtain rfl : w2 = wz := ew.symm
            exact ⟨rfl, HT2.out, Ends.no HNO.out (by decide)⟩
          | nil =>
            obtain ⟨sx, hx⟩ := HP2.out.p
            have t1 := hidP (end_yes b at_ sx w2 hx)
            clear hx
            go_wp2_with fail
            refine t1.out.mono ?_
            rintro e wz ⟨rfl, ew⟩
            obtain rfl : w2 = wz := ew.symm
            clear t1 sx
            have hP := valL_bd hp
            have hC := valL_bd hc
            have e1 : prGrd [p, c] = ⟨3, [], valL p, valL c, 0, false⟩ := by simp [prGrd, hp, hc]
            have HE : Hid (codeL all (prGrd [p, c]) = tkCode ⟨valL p, valL c⟩ (pagesOf all) ∧ paOf (all ++ [prGrd [p, c]]) = ⟨seeAll all, framesOf all, pagesOf all ++ [⟨valL p, valL c⟩], regsOf all⟩) := hidP (by
              rw [e1]
              exact ⟨code_grd all _ rfl ⟨hP.1, hP.2, hC.1, hC.2, by show (0 : Int) ≤ 0; omega, by show (0 : Int) ≤ 7; omega⟩, pa_grd hg _ rfl⟩)
            have t1 := hidP (takePages_any ⟨valL p, valL c⟩ b mb B at_ v (paOf all) w2 ⟨by dsimp only; omega, by dsimp only; omega⟩ HP2.out.i (pages_rn hg) (by have := (lens_le all).1; show (pagesOf all).length ≤ 1000; omega))
            clear e1 hP hC
            go_wp2_with fail
            refine t1.out.mono ?_
            rintro e w3 ⟨ht', he⟩
            have ht : Touch (PT b mb B) w2 w3 := ⟨ht'.os, ht'.tape, ht'.output, ht'.size, fun k hk hn => ht'.block k hk (fun e => hn (e.elim .inl (fun e => .inr (.inr (HP2.out.i.of.2.1 k e).1))))⟩
            clear ht'
            by_cases hz : tkCode ⟨valL p, valL c⟩ (pagesOf all) = 0
            · obtain ⟨rfl, v', -, hv⟩ := he.1 hz
              have HV := hidP hv
              have HT := hidP (HT2.out.trans ht)
              clear hv ht he t1
              go_wp2_with fail
              refine bodyPost_end (v := .tuple #[]) (by simp [results, Try.results174, go_sem]) rfl ⟨HT.out, Ends.yes (HE.out.1.trans hz) ⟨v', ?_⟩⟩
              rw [HE.out.2]
              exact HV.out
            · obtain rfl := he.2 hz
              exact ⟨rfl, HT2.out.trans ht, Ends.no HE.out.1 hz⟩

end Go.Proofs.Ytnmhkgmmpkjjeaa
