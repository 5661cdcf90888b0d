import Derived.Test.YtnmhkgmmpkjjeaaG18
import Derived.Test.YtnmhkgmmpkjjeaaG39
namespace Go.Proofs.Ytnmhkgmmpkjjeaa
set_option linter.unusedVariables false
set_option maxRecDepth 100000

/-! A comment before every newline changes nothing. -/
def pad : Txt := [32, 35, 32, 103, 117, 97, 114, 100, 32, 48, 32, 52, 48, 57, 54, 59, 32, 65, 45, 90, 10]
def insT : Txt → Txt
  | [] => []
  | c :: r => if c.toNat = 10 then pad ++ insT r else c :: insT r
theorem sc_skip : ∀ (m r : Txt) (i : Nat) (st : List (List Txt)) (re : List Txt), (∀ c ∈ m, c.toNat ≠ 10) → sc [] true i st re (m ++ r) = sc [] true (i + m.length) st re r
  | [], r, i, st, re, _ => rfl
  | c :: m, r, i, st, re, h => by
    have hc := h c List.mem_cons_self
    rw [List.cons_append]
    conv => lhs; unfold sc
    rw [if_pos rfl, if_neg hc, sc_skip m r (i + 1) st re (fun d hd => h d (List.mem_cons_of_mem _ hd)), List.length_cons]
    congr 1
    omega
theorem sc_pad (w : Txt) (cm : Bool) (i : Nat) (st : List (List Txt)) (re : List Txt) (r : Txt) (hw : cm = true → w = []) : ∃ j, sc w cm i st re (pad ++ r) = sc [] false j st (re ++ flush w) r := by
  have tail : ∀ i st re, ∃ j, sc [] true i st re ([32, 103, 117, 97, 114, 100, 32, 48, 32, 52, 48, 57, 54, 59, 32, 65, 45, 90] ++ (10 :: r)) = sc [] false j st re r := by
    intro i st re
    rw [sc_skip _ _ _ _ _ (by intro c hc; simp at hc; rcases hc with rfl | rfl | rfl | rfl | rfl | rfl | rfl | rfl | rfl | rfl | rfl | rfl | rfl | rfl | rfl | rfl | rfl | rfl <;> decide)]
    refine ⟨i + 18 + 1, ?_⟩
    conv => lhs; unfold sc
    rw [if_pos rfl, if_pos (by decide)]
    rfl
  cases cm with
  | true =>
    obtain rfl := hw rfl
    have e : pad ++ r = [32, 35] ++ ([32, 103, 117, 97, 114, 100, 32, 48, 32, 52, 48, 57, 54, 59, 32, 65, 45, 90] ++ (10 :: r)) := rfl
    rw [e, sc_skip [32, 35] _ _ _ _ (by intro c hc; simp at hc; rcases hc with rfl | rfl <;> decide)]
    obtain ⟨j, hj⟩ := tail (i + 2) st re
    refine ⟨j, ?_⟩
    rw [flush_nil, List.append_nil]
    exact hj
  | false =>
    have e : pad ++ r = 32 :: 35 :: ([32, 103, 117, 97, 114, 100, 32, 48, 32, 52, 48, 57, 54, 59, 32, 65, 45, 90] ++ (10 :: r)) := rfl
    rw [e]
    conv => enter [1, j]; lhs; unfold sc
    rw [if_neg (by decide), if_neg (by decide), if_pos (by decide)]
    conv => enter [1, j]; lhs; unfold sc
    rw [if_neg (by decide), if_neg (by decide), if_neg (by decide), if_neg (by decide), if_pos (by decide), flush_nil, List.append_nil]
    exact tail _ _ _
theorem sc_ins : ∀ (r w : Txt) (cm : Bool) (i k : Nat) (st : List (List Txt)) (re : List Txt) (st' : List (List Txt)) (re' : List Txt), (cm = true → w = []) → sc w cm i st re r = .inr (st', re') → sc w cm k st re (insT r) = .inr (st', re')
  | [], w, cm, i, k, st, re, st', re', _, h => h
  | c :: r, w, cm, i, k, st, re, st', re', hw, h => by
    unfold insT
    by_cases h10 : c.toNat = 10
    · rw [if_pos h10]
      obtain ⟨j, hj⟩ := sc_pad w cm k st re (insT r) hw
      rw [hj]
      have e : sc w cm i st re (c :: r) = sc [] false (i + 1) st (re ++ flush w) r := by
        conv => lhs; unfold sc
        cases cm with
        | true =>
          obtain rfl := hw rfl
          rw [if_pos rfl, if_pos h10, flush_nil, List.append_nil]
        | false =>
          have nw : isWd c = false := by
            cases hh : isWd c
            · rfl
            · exact absurd h10 (wd_not hh).2.1
          rw [if_neg (by decide), if_neg (by rw [nw]; decide), if_pos (.inr h10)]
      rw [e] at h
      exact sc_ins r [] false (i + 1) j st (re ++ flush w) st' re' (fun h => by cases h) h
    · rw [if_neg h10]
      unfold sc at h ⊢
      by_cases hcm : cm = true
      · rw [if_pos hcm, if_neg h10] at h ⊢
        exact sc_ins r [] true (i + 1) (k + 1) st re st' re' (fun _ => rfl) h
      · rw [if_neg hcm] at h ⊢
        by_cases h1 : isWd c = true
        · rw [if_pos h1] at h ⊢
          exact sc_ins r _ false (i + 1) (k + 1) st re st' re' (fun h => by cases h) h
        · rw [if_neg h1] at h ⊢
          by_cases h2 : c.toNat = 32 ∨ c.toNat = 10
          · rw [if_pos h2] at h ⊢
            exact sc_ins r [] false (i + 1) (k + 1) st _ st' re' (fun h => by cases h) h
          · rw [if_neg h2] at h ⊢
            by_cases h3 : c.toNat = 59
            · rw [if_pos h3] at h ⊢
              exact sc_ins r [] false (i + 1) (k + 1) _ [] st' re' (fun h => by cases h) h
            · rw [if_neg h3] at h ⊢
              by_cases h4 : c.toNat = 35
              · rw [if_pos h4] at h ⊢
                exact sc_ins r [] true (i + 1) (k + 1) st _ st' re' (fun _ => rfl) h
              · rw [if_neg h4] at h
                cases h
theorem polL_ins {l : Txt} (hl : ¬ 20000 < (insT l).length) (hlen : l.length ≤ (insT l).length) (hc : (polL l).2.1 = 0 ∨ 4 ≤ (polL l).2.1) : polL (insT l) = polL l := by
  have hl0 : ¬ 20000 < l.length := by omega
  rw [polL_cut hl0] at hc ⊢
  rw [polL_cut hl]
  cases hs : sc [] false 0 [] [] l with
  | inl k =>
    rw [hs] at hc
    dsimp only at hc
    omega
  | inr zz =>
    obtain ⟨st, re⟩ := zz
    rw [sc_ins l [] false 0 0 [] [] st re (fun h => by cases h) hs]
theorem insT_len : ∀ l : Txt, l.length ≤ (insT l).length ∧ (insT l).length ≤ l.length * 21
  | [] => ⟨Nat.le_refl _, Nat.le_refl _⟩
  | c :: r => by
    obtain ⟨h1, h2⟩ := insT_len r
    unfold insT
    split
    · rw [List.length_append]
      have : pad.length = 21 := rfl
      rw [this, List.length_cons]
      omega
    · rw [List.length_cons, List.length_cons]
      omega
/-- As the loop makes it: what is done, from where the rest begins. -/
theorem insT_app : ∀ a b : Txt, insT (a ++ b) = insT a ++ insT b
  | [], b => rfl
  | c :: a, b => by
    have e : ∀ r, insT (c :: r) = if c.toNat = 10 then pad ++ insT r else c :: insT r := fun r => rfl
    rw [List.cons_append, e, e]
    split
    · rw [insT_app a b, List.append_assoc]
    · rw [insT_app a b, List.cons_append]
theorem insT_none : ∀ a : Txt, (∀ c ∈ a, c.toNat ≠ 10) → insT a = a
  | [], _ => rfl
  | c :: a, h => by
    unfold insT
    rw [if_neg (h c List.mem_cons_self), insT_none a (fun d hd => h d (List.mem_cons_of_mem _ hd))]
end Go.Proofs.Ytnmhkgmmpkjjeaa
namespace Go.Proofs.Ytnmhkgmmpkjjeaa
set_option linter.unusedVariables false
set_option linter.unusedSimpArgs false
set_option maxRecDepth 100000

/-! What is read of an accepted policy is a valid list. -/
def endL (out : List SpanE) : Int := (lastS out).page + (lastS out).count
theorem vs_nil : VS [] := ⟨fun i hi => absurd hi (Nat.not_lt_zero _), fun i hi => absurd hi (Nat.not_lt_zero _)⟩
theorem eAt_appB (out : List SpanE) (r : SpanE) (i : Nat) (h : i < out.length) : eAt eSpan (out ++ [r]) i = eAt eSpan out i := by
  unfold eAt
  rw [List.getD_eq_getElem?_getD, List.getD_eq_getElem?_getD, List.getElem?_append_left h]
theorem eAt_endB (out : List SpanE) (r : SpanE) : eAt eSpan (out ++ [r]) out.length = r := by
  unfold eAt
  rw [List.getD_eq_getElem?_getD]
  simp
theorem step_vs {out : List SpanE} {r : SpanE} (ho : VS out) (hr : spanOk r = true) (hg : out ≠ [] → endL out ≤ r.page) : VS (joinStep out r) ∧ joinStep out r ≠ [] ∧ endL (joinStep out r) = r.page + r.count := by
  unfold joinStep
  by_cases hj : 0 < out.length ∧ joinsB (lastS out) r = true
  · rw [if_pos hj]
    have hl := lastS_set out (addTo (lastS out) r) hj.1
    have hj2 := hj.2
    unfold joinsB at hj2
    simp at hj2
    refine ⟨⟨fun i hi => ?_, fun i hi => ?_⟩, ?_, ?_⟩
    · rw [List.length_set] at hi
      rw [eat_set hi]
      split
      · have h1 := ho.1 (out.length - 1) (by omega)
        have e : eAt eSpan out (out.length - 1) = lastS out := rfl
        rw [e, spanOk_iff] at h1
        rw [spanOk_iff] at hr ⊢
        unfold addTo
        dsimp only
        omega
      · exact ho.1 i hi
    · rw [List.length_set] at hi
      rw [eat_set (by omega), eat_set hi, if_neg (by omega)]
      have hp := ho.2 i hi
      split
      · rename_i e
        have e2 : eAt eSpan out (i + 1) = lastS out := by unfold lastS; rw [← e]
        rw [e2] at hp
        unfold pairOk joinsB at hp ⊢
        unfold addTo
        exact hp
      · exact hp
    · intro e
      have := congrArg List.length e
      rw [List.length_set] at this
      simp at this
      rw [this] at hj
      exact absurd hj.1 (by simp)
    · unfold endL
      rw [hl]
      unfold addTo
      dsimp only
      omega
  · rw [if_neg hj]
    refine ⟨⟨fun i hi => ?_, fun i hi => ?_⟩, by simp, ?_⟩
    · rw [List.length_append, List.length_singleton] at hi
      by_cases h : i < out.length
      · rw [eAt_appB out r i h]; exact ho.1 i h
      · obtain rfl : i = out.length := by omega
        rw [eAt_endB]; exact hr
    · rw [List.length_append, List.length_singleton] at hi
      by_cases h : i + 1 < out.length
      · rw [eAt_appB out r i (by omega), eAt_appB out r (i + 1) h]; exact ho.2 i h
      · have e : i + 1 = out.length := by omega
        rw [e, eAt_endB, eAt_appB out r i (by omega)]
        have e2 : eAt eSpan out i = lastS out := by unfold lastS; rw [← e]; rfl
        rw [e2]
        have hne : out ≠ [] := fun h0 => by rw [h0] at e; simp at e
        have h1 := hg hne
        have h2 : joinsB (lastS out) r = false := by
          cases hc : joinsB (lastS out) r
          · rfl
          · exact absurd ⟨by omega, hc⟩ hj
        unfold endL at h1
        unfold pairOk
        rw [h2]
        simpa using h1
    · unfold endL
      rw [lastS_snoc]
theorem join_vs : ∀ (rs out : List SpanE), VS out → (∀ r ∈ rs, spanOk r = true) → rs.Pairwise (fun x y => x.page + x.count ≤ y.page) → (out ≠ [] → ∀ r ∈ rs, endL out ≤ r.page) → VS (rs.foldl joinStep out)
  | [], out, ho, _, _, _ => ho
  | r :: rs, out, ho, hr, hp, hg => by
    obtain ⟨p1, p2⟩ := List.pairwise_cons.1 hp
    obtain ⟨s1, s2, s3⟩ := step_vs ho (hr r List.mem_cons_self) (fun h => hg h r List.mem_cons_self)
    exact join_vs rs _ s1 (fun x hx => hr x (List.mem_cons_of_mem _ hx)) p2 (fun _ x hx => by rw [s3]; exact p1 x hx)
theorem good_codes (st : List (List Txt)) : ∀ k, (∀ j, j < k → codeOf st j = 0) → Good (allOf st k)
  | 0, _ => Good.nil
  | k + 1, h => by
    rw [allOf_succ]
    exact (good_codes st k (fun j hj => h j (by omega))).snoc _ (stmtL_ok _) (stmtL_perm _) (stmtL_kind _) (h k (by omega))
theorem good_vs {all : List St} (h : Good all) : VS (spansTo all 4096) := by
  obtain ⟨h1, h2⟩ := good_regs h
  have hp : ((regsOf all).mergeSort (fun x y => decide (x.page ≤ y.page))).Perm (regsOf all) := List.mergeSort_perm _ _
  have hs : ((regsOf all).mergeSort (fun x y => decide (x.page ≤ y.page))).Pairwise (fun x y => x.page ≤ y.page) := by
    have := List.pairwise_mergeSort (le := fun x y : SpanE => decide (x.page ≤ y.page)) (fun a b c h1 h2 => by simp at *; omega) (fun a b => by simp; omega) (regsOf all)
    exact this.imp (fun h => by simpa using h)
  have hg := sorted_gap hp hs h2 h1
  rw [← join_sorted hp hg (fun r hr => by have := h1 r hr; rw [spanOk_iff] at this; omega)]
  exact join_vs _ [] vs_nil (fun r hr => h1 r (hp.mem_iff.1 hr)) hg (fun h => absurd rfl h)
theorem polL_good {l : Txt} (h : (polL l).2.1 = 0) : ∃ all, Good all ∧ polL l = (spansTo all 4096, 0, 0) := by
  by_cases h1 : 20000 < l.length
  · unfold polL at h
    rw [if_pos h1] at h
    cases h
  · rw [polL_cut h1] at h ⊢
    cases hs : sc [] false 0 [] [] l with
    | inl k => rw [hs] at h; cases h
    | inr zz =>
      obtain ⟨st, re⟩ := zz
      rw [hs] at h
      dsimp only at h ⊢
      unfold polS at h
      by_cases h2 : 1000 < st.length
      · rw [if_pos h2] at h; cases h
      · rw [if_neg h2] at h
        cases hf : (List.range st.length).find? (fun k => !(codeOf st k == 0)) with
        | some k =>
          rw [hf] at h
          have := List.find?_some hf
          dsimp only at h
          rw [h] at this
          cases this
        | none =>
          have hz : ∀ j, j < st.length → codeOf st j = 0 := fun j hj => by
            have := List.find?_eq_none.1 hf j (List.mem_range.2 hj)
            simpa using this
          rw [hf] at h
          dsimp only at h
          by_cases h3 : re ≠ []
          · rw [if_pos h3] at h; cases h
          · refine ⟨allOf st st.length, good_codes st _ hz, ?_⟩
            rw [polS_good h2 hz, if_neg h3]
theorem vsB_of {xs : List SpanE} (h : VS xs) : vsB xs = true := by
  unfold vsB
  rw [Bool.and_eq_true, List.all_eq_true, List.all_eq_true]
  exact ⟨fun i hi => h.1 i (List.mem_range.1 hi), fun i hi => h.2 i (by have := List.mem_range.1 hi; omega)⟩
end Go.Proofs.Ytnmhkgmmpkjjeaa
