import Derived.Test.YtnmhkgmmpkjjeaaG17
namespace Go.Proofs.Ytnmhkgmmpkjjeaa
set_option linter.unusedVariables false
set_option maxRecDepth 100000

/-! How the program cuts a text: its statements, and what is left behind them; or the place of a bad byte. -/
abbrev Cut : Type := Nat ⊕ (List (List Txt) × List Txt)
def sc : Txt → Bool → Nat → List (List Txt) → List Txt → Txt → Cut
  | w, _, _, st, re, [] => .inr (st, re ++ flush w)
  | w, cm, i, st, re, c :: r =>
    if cm = true then (if c.toNat = 10 then sc [] false (i + 1) st re r else sc [] true (i + 1) st re r)
    else if isWd c = true then sc (w ++ [c]) false (i + 1) st re r
    else if c.toNat = 32 ∨ c.toNat = 10 then sc [] false (i + 1) st (re ++ flush w) r
    else if c.toNat = 59 then sc [] false (i + 1) (st ++ [re ++ flush w]) [] r
    else if c.toNat = 35 then sc [] true (i + 1) st (re ++ flush w) r
    else .inl i
def flatS (st : List (List Txt)) (re : List Txt) : List Txt := (st.map fun s => s ++ [[59]]).flatten ++ re
theorem flatS_snoc (st : List (List Txt)) (s re : List Txt) : flatS (st ++ [s]) re = flatS st s ++ [[59]] ++ re := by
  unfold flatS
  simp
theorem flatS_re (st : List (List Txt)) (a b : List Txt) : flatS st (a ++ b) = flatS st a ++ b := by
  unfold flatS
  simp
theorem u8_of {c : UInt8} {n : Nat} (hn : n < 256) (h : c.toNat = n) : c = UInt8.ofNat n := by
  subst h
  exact (UInt8.ofNat_toNat).symm
theorem wd_not {c : UInt8} (h : isWd c = true) : c.toNat ≠ 32 ∧ c.toNat ≠ 10 ∧ c.toNat ≠ 59 ∧ c.toNat ≠ 35 := by
  unfold isWd isLow isDig at h
  simp at h
  omega
theorem flush_ne {w : Txt} (h : w ≠ []) : flush w = [w] := by unfold flush; rw [if_neg h]
theorem flush_nil : flush [] = [] := rfl
theorem sc_spec : ∀ (r : Txt) (w : Txt) (cm : Bool) (i : Nat) (st : List (List Txt)) (re : List Txt), (cm = true → w = []) →
    match sc w cm i st re r with
    | .inl k => badL i (blankL cm r) = (k : Nat)
    | .inr (st', re') => badL i (blankL cm r) = -1 ∧ flatS st' re' = flatS st re ++ tokL w (blankL cm r)
  | [], w, cm, i, st, re, _ => by
    unfold sc
    refine ⟨rfl, ?_⟩
    rw [flatS_re]
    rfl
  | c :: r, w, cm, i, st, re, hw => by
    unfold sc
    by_cases hcm : cm = true
    · obtain rfl := hw hcm
      subst hcm
      rw [if_pos rfl]
      by_cases h10 : c.toNat = 10
      · rw [if_pos h10]
        have e : insN true c = false := by unfold insN; simp [h10]
        have ih := sc_spec r [] false (i + 1) st re (fun h => by cases h)
        have ok : okB c = true := by unfold okB; simp [h10]
        have nw : isWd c = false := by
          cases hh : isWd c
          · rfl
          · exact absurd h10 (wd_not hh).2.1
        unfold blankL
        rw [e]
        simp only [Bool.false_eq_true, if_false]
        unfold badL tokL
        rw [ok, nw]
        simp only [if_true, Bool.false_eq_true, if_false]
        have n59 : ¬ c.toNat = 59 := by omega
        simpa [n59, flush] using ih
      · rw [if_neg h10]
        have e : insN true c = true := by unfold insN; simp [h10]
        have ih := sc_spec r [] true (i + 1) st re (fun _ => rfl)
        unfold blankL
        rw [e]
        simp only [if_true]
        unfold badL tokL
        have ok : okB 32 = true := by decide
        have nw : isWd 32 = false := by decide
        rw [ok, nw]
        simp only [if_true, Bool.false_eq_true, if_false]
        have n59 : ¬ (32 : UInt8).toNat = 59 := by decide
        simpa [n59, flush] using ih
    · have hcm' : cm = false := by simpa using hcm
      subst hcm'
      rw [if_neg (by decide)]
      by_cases h35 : c.toNat = 35
      · have e : insN false c = true := by unfold insN; simp [h35]
        have nw : isWd c = false := by
          cases hh : isWd c
          · rfl
          · exact absurd h35 (wd_not hh).2.2.2
        rw [nw, if_neg (by decide), if_neg (by omega), if_neg (by omega), if_pos h35]
        have ih := sc_spec r [] true (i + 1) st (re ++ flush w) (fun _ => rfl)
        unfold blankL
        rw [e]
        simp only [if_true]
        unfold badL tokL
        have ok : okB 32 = true := by decide
        have nw : isWd 32 = false := by decide
        rw [ok, nw]
        simp only [if_true, Bool.false_eq_true, if_false]
        have n59 : ¬ (32 : UInt8).toNat = 59 := by decide
        rw [flatS_re] at ih
        simpa [n59] using ih
      · have e : insN false c = false := by unfold insN; simp [h35]
        unfold blankL
        rw [e]
        simp only [Bool.false_eq_true, if_false]
        unfold badL tokL
        by_cases hwd : isWd c = true
        · have ok : okB c = true := by unfold okB; simp [hwd]
          rw [if_pos hwd, if_pos ok, if_pos hwd]
          exact sc_spec r (w ++ [c]) false (i + 1) st re (fun h => by cases h)
        · rw [if_neg hwd, if_neg hwd]
          by_cases hb : c.toNat = 32 ∨ c.toNat = 10
          · have ok : okB c = true := by unfold okB; rcases hb with h | h <;> simp [h]
            rw [if_pos hb, if_pos ok]
            have ih := sc_spec r [] false (i + 1) st (re ++ flush w) (fun h => by cases h)
            have n59 : ¬ c.toNat = 59 := by omega
            rw [flatS_re] at ih
            simpa [n59] using ih
          · rw [if_neg hb]
            by_cases h59 : c.toNat = 59
            · have ok : okB c = true := by unfold okB; simp [h59]
              rw [if_pos h59, if_pos ok]
              have ih := sc_spec r [] false (i + 1) (st ++ [re ++ flush w]) [] (fun h => by cases h)
              rw [flatS_snoc, flatS_re] at ih
              simpa [h59] using ih
            · have ok : ¬ okB c = true := by
                unfold okB
                have : isWd c = false := by simpa using hwd
                simp [this, h59]
                omega
              rw [if_neg h59, if_neg h35, if_neg ok]
/-- Words are no semicolons. -/
def WdL (l : List Txt) : Prop := ∀ x ∈ l, x ≠ [59]
theorem sc_wd : ∀ (r : Txt) (w : Txt) (cm : Bool) (i : Nat) (st : List (List Txt)) (re : List Txt) (st' : List (List Txt)) (re' : List Txt), (∀ c ∈ w, isWd c = true) → (∀ s ∈ st, WdL s) → WdL re → sc w cm i st re r = .inr (st', re') → (∀ s ∈ st', WdL s) ∧ WdL re'
  | [], w, cm, i, st, re, st', re', hw, hs, hr, h => by
    unfold sc at h
    cases h
    refine ⟨hs, fun x hx => ?_⟩
    rcases List.mem_append.1 hx with h | h
    · exact hr x h
    · unfold flush at h
      split at h
      · cases h
      · rw [List.mem_singleton.1 h]
        intro e
        have := hw 59 (by rw [e]; simp)
        revert this; decide
  | c :: r, w, cm, i, st, re, st', re', hw, hs, hr, h => by
    have hrf : WdL (re ++ flush w) := by
      intro x hx
      rcases List.mem_append.1 hx with h | h
      · exact hr x h
      · unfold flush at h
        split at h
        · cases h
        · rw [List.mem_singleton.1 h]
          intro e
          have := hw 59 (by rw [e]; simp)
          revert this; decide
    have nl : ∀ c ∈ ([] : Txt), isWd c = true := fun c hc => by cases hc
    unfold sc at h
    split at h
    · split at h
      · exact sc_wd r _ _ _ _ _ _ _ nl hs hr h
      · exact sc_wd r _ _ _ _ _ _ _ nl hs hr h
    · split at h
      · rename_i hc
        refine sc_wd r _ _ _ _ _ _ _ (fun x hx => ?_) hs hr h
        rcases List.mem_append.1 hx with h' | h'
        · exact hw x h'
        · rw [List.mem_singleton.1 h']; exact hc
      · split at h
        · exact sc_wd r _ _ _ _ _ _ _ nl hs hrf h
        · split at h
          · refine sc_wd r _ _ _ _ _ _ _ nl (fun s hs' => ?_) (fun x hx => by cases hx) h
            rcases List.mem_append.1 hs' with h' | h'
            · exact hs s h'
            · rw [List.mem_singleton.1 h']; exact hrf
          · split at h
            · exact sc_wd r _ _ _ _ _ _ _ nl hs hrf h
            · cases h
/-! The statements' ends. -/
theorem tAt_app_l {A B : List Txt} {i : Nat} (h : i < A.length) : tAt (A ++ B) i = tAt A i := by
  unfold tAt
  rw [List.getD_eq_getElem?_getD, List.getD_eq_getElem?_getD, List.getElem?_append_left h]
theorem tAt_app_r {A B : List Txt} (i : Nat) : tAt (A ++ B) (A.length + i) = tAt B i := by
  unfold tAt
  rw [List.getD_eq_getElem?_getD, List.getD_eq_getElem?_getD, List.getElem?_append_right (by omega), Nat.add_sub_cancel_left]
theorem ends_none {s : List Txt} (h : WdL s) : endsTo s s.length = [] := by
  unfold endsTo
  rw [List.filter_eq_nil_iff]
  intro i hi
  have hi := List.mem_range.1 hi
  have : tAt s i ∈ s := by
    unfold tAt
    rw [List.getD_eq_getElem?_getD, List.getElem?_eq_getElem hi]
    exact List.getElem_mem _
  simpa using h _ this
theorem ends_app (A B : List Txt) : endsTo (A ++ B) (A ++ B).length = endsTo A A.length ++ (endsTo B B.length).map (· + A.length) := by
  unfold endsTo
  rw [List.length_append, List.range_add, List.filter_append]
  congr 1
  · refine List.filter_congr (fun i hi => ?_)
    rw [tAt_app_l (List.mem_range.1 hi)]
  · rw [List.filter_map, List.map_congr_left (fun a _ => Nat.add_comm _ _)]
    congr 1
    refine List.filter_congr (fun i hi => ?_)
    simp only [Function.comp]
    rw [tAt_app_r]
theorem ends_one : endsTo [[59]] 1 = [0] := by decide
theorem subL_app (A B : List Txt) (i j : Nat) : subL (A ++ B) (i + A.length) (j + A.length) = subL B i j := by
  unfold subL
  rw [List.drop_append, List.drop_eq_nil_of_le (by omega), List.nil_append, show i + A.length - A.length = i by omega, show j + A.length - (i + A.length) = j - i by omega]
theorem ends_flat : ∀ (st : List (List Txt)) (re : List Txt), (∀ s ∈ st, WdL s) → WdL re →
    (endsTo (flatS st re) (flatS st re).length).length = st.length ∧ (∀ k, k < st.length → subL (flatS st re) (fromAt (endsTo (flatS st re) (flatS st re).length) k) (enAt (endsTo (flatS st re) (flatS st re).length) k) = st.getD k []) ∧ fromAt (endsTo (flatS st re) (flatS st re).length) st.length + re.length = (flatS st re).length
  | [], re, _, hr => by
    have e : flatS [] re = re := rfl
    rw [e, ends_none hr]
    exact ⟨rfl, fun k hk => absurd hk (Nat.not_lt_zero _), by simp [fromAt]⟩
  | s :: st, re, hs, hr => by
    obtain ⟨i1, i2, i3⟩ := ends_flat st re (fun x hx => hs x (List.mem_cons_of_mem _ hx)) hr
    have hsw := hs s List.mem_cons_self
    have e : flatS (s :: st) re = (s ++ [[59]]) ++ flatS st re := by unfold flatS; simp
    have e1 : endsTo (s ++ [[59]]) (s ++ [[59]]).length = [s.length] := by
      rw [ends_app, ends_none hsw, List.nil_append]
      have : endsTo [[59]] [([59] : Txt)].length = [0] := ends_one
      rw [this]
      simp
    have hl : (s ++ [[59]]).length = s.length + 1 := by simp
    have e2 : endsTo (flatS (s :: st) re) (flatS (s :: st) re).length = s.length :: (endsTo (flatS st re) (flatS st re).length).map (· + (s.length + 1)) := by
      rw [e, ends_app, e1, hl]
      rfl
    rw [e2]
    have len2 : (flatS (s :: st) re).length = s.length + 1 + (flatS st re).length := by rw [e, List.length_append, hl]
    generalize endsTo (flatS st re) (flatS st re).length = es at *
    have en : ∀ k, k < es.length → enAt (s.length :: es.map (· + (s.length + 1))) (k + 1) = enAt es k + (s.length + 1) := by
      intro k hk
      unfold enAt
      rw [List.getD_eq_getElem?_getD, List.getD_eq_getElem?_getD, List.getElem?_cons_succ, List.getElem?_map, List.getElem?_eq_getElem hk]
      rfl
    have fr : ∀ k, k ≤ es.length → fromAt (s.length :: es.map (· + (s.length + 1))) (k + 1) = fromAt es k + (s.length + 1) := by
      intro k hk
      cases k with
      | zero =>
        show enAt _ 0 + 1 = _
        unfold enAt fromAt
        simp
      | succ k =>
        show enAt _ (k + 1) + 1 = (enAt es k + 1) + (s.length + 1)
        rw [en k (by omega)]
        omega
    refine ⟨by simp [i1], fun k hk => ?_, ?_⟩
    · cases k with
      | zero =>
        show subL _ 0 (enAt _ 0) = s
        have : enAt (s.length :: es.map (· + (s.length + 1))) 0 = s.length := rfl
        rw [this, e]
        unfold subL
        simp
      | succ k =>
        have hk' : k < st.length := by simpa using hk
        rw [en k (by omega), fr k (by omega), e]
        have := subL_app (s ++ [[59]]) (flatS st re) (fromAt es k) (enAt es k)
        rw [hl] at this
        rw [this, i2 k hk']
        rfl
    · show fromAt _ (st.length + 1) + re.length = _
      rw [fr st.length (by omega), len2]
      omega
/-- What the program's statements say. -/
def stOf (st : List (List Txt)) (k : Nat) : St := stmtL (st.getD k [])
def allOf (st : List (List Txt)) (k : Nat) : List St := (List.range k).map (stOf st)
def codeOf (st : List (List Txt)) (k : Nat) : Int := codeL (allOf st k) (stOf st k)
def polS (st : List (List Txt)) (re : List Txt) : List SpanE × Int × Int :=
  if 1000 < st.length then ([], 3, 1000)
  else match (List.range st.length).find? (fun k => !(codeOf st k == 0)) with
  | some k => ([], codeOf st k, (k : Nat))
  | none => if re ≠ [] then ([], 4, (st.length : Nat)) else (spansTo (allOf st st.length) 4096, 0, 0)
theorem polT_flat {st : List (List Txt)} {re : List Txt} (hs : ∀ s ∈ st, WdL s) (hr : WdL re) : polT (flatS st re) = polS st re := by
  obtain ⟨h1, h2, h3⟩ := ends_flat st re hs hr
  unfold polT polS
  generalize hes : endsTo (flatS st re) (flatS st re).length = es at *
  rw [h1]
  split
  · rfl
  · have e1 : ∀ k, k < st.length → stK (flatS st re) es k = stOf st k := fun k hk => by unfold stK stOf; rw [h2 k hk]
    have e2 : ∀ k, k ≤ st.length → allTo (flatS st re) es k = allOf st k := fun k hk => by
      unfold allTo allOf
      exact List.map_congr_left (fun i hi => e1 i (by have := List.mem_range.1 hi; omega))
    have e3 : ∀ k, k < st.length → codeK (flatS st re) es k = codeOf st k := fun k hk => by unfold codeK codeOf; rw [e1 k hk, e2 k (by omega)]
    unfold polE
    rw [h1]
    have ef : (List.range st.length).find? (fun k => !(codeK (flatS st re) es k == 0)) = (List.range st.length).find? (fun k => !(codeOf st k == 0)) := by
      rw [← List.head?_filter, ← List.head?_filter]
      congr 1
      exact List.filter_congr (fun k hk => by rw [e3 k (List.mem_range.1 hk)])
    rw [ef]
    cases hf : (List.range st.length).find? (fun k => !(codeOf st k == 0)) with
    | some k =>
      have hk := List.mem_range.1 (List.mem_of_find?_eq_some hf)
      dsimp only
      rw [e3 k hk]
    | none =>
      dsimp only
      rw [e2 _ (Nat.le_refl _)]
      by_cases hre : re = []
      · subst hre
        rw [if_neg (by simp at h3; omega), if_neg (by simp)]
      · have : 0 < re.length := List.length_pos_iff.2 hre
        rw [if_pos (by omega), if_pos hre]
theorem polL_cut {text : Txt} (hl : ¬ 20000 < text.length) : polL text = match sc [] false 0 [] [] text with
    | .inl k => ([], 2, (k : Nat))
    | .inr (st, re) => polS st re := by
  have h := sc_spec text [] false 0 [] [] (fun h => by cases h)
  have hwd := sc_wd text [] false 0 [] []
  unfold polL
  rw [if_neg hl]
  cases hc : sc [] false 0 [] [] text with
  | inl k =>
    rw [hc] at h
    dsimp only at h ⊢
    rw [if_pos (by rw [h]; omega), h]
  | inr zz =>
    obtain ⟨st, re⟩ := zz
    rw [hc] at h
    dsimp only at h ⊢
    obtain ⟨w1, w2⟩ := hwd st re (fun c hc => by cases hc) (fun s hs => by cases hs) (fun x hx => by cases hx) hc
    rw [if_neg (by rw [h.1]; decide), ← polT_flat w1 w2, h.2]
    rfl
end Go.Proofs.Ytnmhkgmmpkjjeaa
