import Derived.Test.YtnmhkgmmpkjjeaaG27
namespace Go.Proofs.Ytnmhkgmmpkjjeaa
set_option linter.unusedVariables false
set_option linter.unusedSimpArgs false
set_option maxRecDepth 100000

/-! What the program keeps, as a function of the statements read. -/
def pOr (a b : Int) : Int := ((a.toNat ||| b.toNat : Nat) : Int)
theorem pOr_all (P : Nat → Nat → Prop) (h : ∀ a : Fin 8, ∀ b : Fin 8, P a.1 b.1) {a b : Int} (ha : 0 ≤ a ∧ a ≤ 7) (hb : 0 ≤ b ∧ b ≤ 7) : P a.toNat b.toNat := h ⟨a.toNat, by omega⟩ ⟨b.toNat, by omega⟩
theorem pOr_bd {a b : Int} (ha : 0 ≤ a ∧ a ≤ 7) (hb : 0 ≤ b ∧ b ≤ 7) : 0 ≤ pOr a b ∧ pOr a b ≤ 7 := by
  unfold pOr
  have : a.toNat ||| b.toNat ≤ 7 := pOr_all (fun a b => a ||| b ≤ 7) (by decide) ha hb
  omega
theorem pOr_alw {a b : Int} (ha : 0 ≤ a ∧ a ≤ 7) (hb : 0 ≤ b ∧ b ≤ 7) (k : Int) (hk : k = 2 ∨ k = 4) : alw (pOr a b) k = (alw a k || alw b k) := by
  have e1 : a = (a.toNat : Int) := by omega
  have e2 : b = (b.toNat : Int) := by omega
  have := pOr_all (fun a b => ∀ k : Int, k = 2 ∨ k = 4 → alw (pOr (a : Int) (b : Int)) k = (alw (a : Int) k || alw (b : Int) k)) (by intro a b k hk; rcases hk with rfl | rfl <;> revert a b <;> decide) ha hb k hk
  rw [← e1, ← e2] at this
  exact this
theorem pOr_pos {a b : Int} (hb : 1 ≤ b) : pOr a b ≠ 0 := by
  unfold pOr
  intro h
  have h' : a.toNat ||| b.toNat = 0 := by omega
  have := (Nat.or_eq_zero_iff.1 h').2
  omega
def orAll (l : List St) : Int := l.foldl (fun a s => pOr a s.perm) 0
theorem orAll_snoc (l : List St) (s : St) : orAll (l ++ [s]) = pOr (orAll l) s.perm := by
  unfold orAll
  rw [List.foldl_append]
  rfl
theorem orAll_bd (l : List St) (h : ∀ s ∈ l, 0 ≤ s.perm ∧ s.perm ≤ 7) : 0 ≤ orAll l ∧ orAll l ≤ 7 := by
  suffices ∀ (l : List St) (a : Int), (∀ s ∈ l, 0 ≤ s.perm ∧ s.perm ≤ 7) → 0 ≤ a ∧ a ≤ 7 → 0 ≤ l.foldl (fun a s => pOr a s.perm) a ∧ l.foldl (fun a s => pOr a s.perm) a ≤ 7 from this l 0 h (by omega)
  intro l
  induction l with
  | nil => intro a _ ha; exact ha
  | cons s r ih => intro a h ha; exact ih _ (fun t ht => h t (by simp [ht])) (pOr_bd ha (h s (by simp)))
theorem orAll_alw (l : List St) (h : ∀ s ∈ l, 0 ≤ s.perm ∧ s.perm ≤ 7) (k : Int) (hk : k = 2 ∨ k = 4) : alw (orAll l) k = l.any (fun e => alw e.perm k) := by
  suffices ∀ (l : List St) (a : Int), (∀ s ∈ l, 0 ≤ s.perm ∧ s.perm ≤ 7) → 0 ≤ a ∧ a ≤ 7 → alw (l.foldl (fun a s => pOr a s.perm) a) k = (alw a k || l.any (fun e => alw e.perm k)) by
    have h0 : alw 0 k = false := by rcases hk with rfl | rfl <;> decide
    have := this l 0 h (by omega)
    rw [h0, Bool.false_or] at this
    exact this
  intro l
  induction l with
  | nil => intro a _ ha; simp
  | cons s r ih =>
    intro a h ha
    rw [List.foldl_cons, ih _ (fun t ht => h t (by simp [ht])) (pOr_bd ha (h s (by simp))), pOr_alw ha (h s (by simp)) k hk, List.any_cons, Bool.or_assoc]
theorem orAll_zero (l : List St) (h : ∀ s ∈ l, 1 ≤ s.perm ∧ s.perm ≤ 7) : orAll l = 0 ↔ l = [] := by
  constructor
  · intro h0
    rcases List.eq_nil_or_concat l with e | ⟨r, s, e⟩
    · exact e
    · subst e
      rw [List.concat_eq_append, orAll_snoc] at h0
      exact absurd h0 (pOr_pos (h s (by simp)).1)
  · rintro rfl; rfl
def seeAll (all : List St) (n : Txt) : Option OV := if (objOf all n).kind == 1 then some ⟨(objOf all n).b, (objOf all n).a, (objOf all n).extra, orAll (sameOf all n)⟩ else none
def pagesOf (all : List St) : List RunE := (all.filter fun e => !(e.kind == 1)).map fun e => ⟨e.a, szOf all e⟩
def regOf (all : List St) (e : St) : SpanE := ⟨e.a, (objOf all e.name).a, (objOf all e.name).b, e.perm, e.extra⟩
def regsOf (all : List St) : List SpanE := (all.filter fun e => e.kind == 2).map (regOf all)
def paOf (all : List St) : PA := ⟨seeAll all, framesOf all, pagesOf all, regsOf all⟩
theorem objOf_kind (all : List St) (n : Txt) : (objOf all n).kind = 1 ∨ objOf all n = noSt := by
  induction all with
  | nil => exact .inr rfl
  | cons e r ih =>
    unfold objOf
    split
    · rename_i h
      unfold isObj at h
      simp at h
      exact .inl h.1
    · exact ih
/-- Statements that were all accepted. -/
structure Good (all : List St) : Prop where
  k : ∀ e ∈ all, e.kind = 1 ∨ e.kind = 2 ∨ e.kind = 3
  o : ∀ e ∈ all, e.kind = 2 → (objOf all e.name).kind = 1
  s : ∀ e ∈ all, StOk e
  p : ∀ e ∈ all, e.kind = 2 → 1 ≤ e.perm
  f : ∀ e ∈ all, e.kind ≠ 1 → 1 ≤ szOf all e ∧ e.a + szOf all e ≤ 4096
  g : ∀ e ∈ all, e.kind = 1 → e.b + e.a ≤ 65536
  d : all.Pairwise (fun x y => x.kind ≠ 1 → y.kind ≠ 1 → meetB x.a (szOf all x) y.a (szOf all y) = false)
theorem Good.nil : Good [] := ⟨fun e h => (by cases h), fun e h => (by cases h), fun e h => (by cases h), fun e h => (by cases h), fun e h => (by cases h), fun e h => (by cases h), List.Pairwise.nil⟩
theorem objOf_keep {all : List St} {n : Txt} (s : St) (h : (objOf all n).kind = 1) : objOf (all ++ [s]) n = objOf all n := by
  rw [objOf_snoc, if_pos (by simpa using h)]
theorem Good.obj_keep {all : List St} (h : Good all) {e : St} (he : e ∈ all) (hk : e.kind = 2) (s : St) : objOf (all ++ [s]) e.name = objOf all e.name := objOf_keep s (h.o e he hk)
theorem Good.sz_keep {all : List St} (h : Good all) {e : St} (he : e ∈ all) (hk : e.kind ≠ 1) (s : St) : szOf (all ++ [s]) e = szOf all e := by
  unfold szOf
  by_cases h3 : e.kind = 3
  · simp [h3]
  · have h2 : e.kind = 2 := by rcases h.k e he with h' | h' | h' <;> omega
    simp [h2, h.obj_keep he h2 s]
theorem Good.same_perm {all : List St} (h : Good all) (n : Txt) : ∀ s ∈ sameOf all n, 1 ≤ s.perm ∧ s.perm ≤ 7 := by
  intro s hs
  unfold sameOf at hs
  obtain ⟨h1, h2⟩ := List.mem_filter.1 hs
  simp at h2
  exact ⟨h.p s h1 h2.1, (h.s s h1).p1⟩
theorem Good.same_none {all : List St} (h : Good all) {n : Txt} (hn : (objOf all n).kind ≠ 1) : sameOf all n = [] := by
  unfold sameOf
  rw [List.filter_eq_nil_iff]
  intro e he hc
  simp at hc
  have := h.o e he hc.1
  rw [hc.2] at this
  exact hn this
theorem pagesOf_any (all : List St) (a n : Int) : (pagesOf all).any (meetR ⟨a, n⟩) = all.any (hitPg all a n) := by
  unfold pagesOf
  rw [List.any_map, List.any_filter]
  congr 1
theorem sameOf_snoc (all : List St) (s : St) (n : Txt) : sameOf (all ++ [s]) n = if s.kind == 2 && s.name == n then sameOf all n ++ [s] else sameOf all n := by
  unfold sameOf
  rw [List.filter_append, List.filter_cons]
  split <;> simp
theorem pagesOf_snoc {all : List St} (h : Good all) (s : St) : pagesOf (all ++ [s]) = if s.kind == 1 then pagesOf all else pagesOf all ++ [⟨s.a, szOf (all ++ [s]) s⟩] := by
  have e : (all.filter fun e => !(e.kind == 1)).map (fun e => (⟨e.a, szOf (all ++ [s]) e⟩ : RunE)) = pagesOf all := by
    unfold pagesOf
    refine List.map_congr_left (fun e he => ?_)
    obtain ⟨h1, h2⟩ := List.mem_filter.1 he
    simp at h2
    rw [h.sz_keep h1 h2 s]
  show ((all ++ [s]).filter fun e => !(e.kind == 1)).map (fun e => (⟨e.a, szOf (all ++ [s]) e⟩ : RunE)) = _
  rw [List.filter_append, List.map_append, e, List.filter_cons]
  by_cases hs : s.kind = 1 <;> simp [hs]
theorem regsOf_snoc {all : List St} (h : Good all) (s : St) : regsOf (all ++ [s]) = if s.kind == 2 then regsOf all ++ [regOf (all ++ [s]) s] else regsOf all := by
  have e : (all.filter fun e => e.kind == 2).map (regOf (all ++ [s])) = regsOf all := by
    unfold regsOf
    refine List.map_congr_left (fun e he => ?_)
    obtain ⟨h1, h2⟩ := List.mem_filter.1 he
    simp at h2
    unfold regOf
    rw [h.obj_keep h1 h2 s]
  show ((all ++ [s]).filter fun e => e.kind == 2).map (regOf (all ++ [s])) = _
  rw [List.filter_append, List.map_append, e, List.filter_cons]
  by_cases hs : s.kind = 2 <;> simp [hs]
/-! The three kinds of statement: the code, and what is kept behind it. -/
theorem code_obj (all : List St) (s : St) (hk : s.kind = 1) (hs : StOk s) : codeL all s = if (seeAll all s.name).isSome = true then 5 else if fitsB ⟨s.b, s.a⟩ 65536 = true then (if (framesOf all).any (meetR ⟨s.b, s.a⟩) = true then 8 else 0) else 7 := by
  unfold codeL seeAll
  rw [framesOf_any, hk]
  have a0 := hs.a0
  by_cases h5 : (objOf all s.name).kind = 1
  · simp [h5]
  · have e5 : ((objOf all s.name).kind == 1) = false := by simpa using h5
    have hfit : (s.a == 0 || decide (65536 < s.b + s.a)) = !(fitsB ⟨s.b, s.a⟩ 65536) := by
      unfold fitsB
      dsimp only
      by_cases h1 : s.a = 0
      · simp [h1]
      · by_cases h2 : 65536 < s.b + s.a
        · have : ¬ (s.b + s.a ≤ 65536) := by omega
          simp [h2, this]
        · have h3 : 1 ≤ s.a := by omega
          have h4 : s.b + s.a ≤ 65536 := by omega
          simp [h1, h2, h3, h4]
    rw [hfit]
    cases hf : fitsB ⟨s.b, s.a⟩ 65536 <;> simp [h5, e5]
theorem tk_code (all : List St) (a n : Int) (hn : 0 ≤ n) : tkCode ⟨a, n⟩ (pagesOf all) = if (n == 0 || decide (4096 < a + n)) = true then 7 else if all.any (hitPg all a n) = true then 8 else 0 := by
  unfold tkCode
  rw [pagesOf_any]
  have hfit : (n == 0 || decide (4096 < a + n)) = !(fitsB ⟨a, n⟩ 4096) := by
    unfold fitsB
    dsimp only
    by_cases h1 : n = 0
    · simp [h1]
    · by_cases h2 : 4096 < a + n
      · have : ¬ (a + n ≤ 4096) := by omega
        simp [h2, this]
      · have h3 : 1 ≤ n := by omega
        have h4 : a + n ≤ 4096 := by omega
        simp [h1, h2, h3, h4]
  rw [hfit]
  cases hf : fitsB ⟨a, n⟩ 4096 <;> simp
theorem code_grd (all : List St) (s : St) (hk : s.kind = 3) (hs : StOk s) : codeL all s = tkCode ⟨s.a, s.b⟩ (pagesOf all) := by
  have hz : szOf all s = s.b := by unfold szOf; simp [hk]
  rw [tk_code all s.a s.b hs.b0]
  unfold codeL
  rw [hz]
  simp [hk]
def regCode (o : OV) (s : St) (pg : List RunE) : Int :=
  if tkCode ⟨s.a, o.c⟩ pg ≠ 0 then tkCode ⟨s.a, o.c⟩ pg
  else if o.sh = false ∧ o.pm ≠ 0 then 9
  else if o.sh = true ∧ alw (pOr o.pm s.perm) 2 = true ∧ alw (pOr o.pm s.perm) 4 = true then 10 else 0
theorem code_reg {all : List St} (h : Good all) (s : St) (hk : s.kind = 2) (hs : StOk s) : codeL all s = match seeAll all s.name with
    | none => 6
    | some o => regCode o s (pagesOf all) := by
  have hz : szOf all s = (objOf all s.name).a := by unfold szOf; simp [hk]
  rcases objOf_kind all s.name with h1 | h1
  · have e : seeAll all s.name = some ⟨(objOf all s.name).b, (objOf all s.name).a, (objOf all s.name).extra, orAll (sameOf all s.name)⟩ := by unfold seeAll; simp [h1]
    rw [e]
    dsimp only
    unfold regCode
    dsimp only
    have hp := h.same_perm s.name
    have hp' : ∀ e ∈ sameOf all s.name, 0 ≤ e.perm ∧ e.perm ≤ 7 := fun e he => by have := hp e he; omega
    have hq := orAll_bd _ hp'
    have hw := hs.p0
    have hw1 := hs.p1
    rw [tk_code all s.a _ (objOf_ok h.s s.name).a0, pOr_alw hq ⟨hw, hw1⟩ 2 (.inl rfl), pOr_alw hq ⟨hw, hw1⟩ 4 (.inr rfl), orAll_alw _ hp' 2 (.inl rfl), orAll_alw _ hp' 4 (.inr rfl)]
    unfold codeL
    rw [hz]
    have h9 : (decide (1 < (s :: sameOf all s.name).length)) = decide (orAll (sameOf all s.name) ≠ 0) := by
      have := orAll_zero _ hp
      cases hl : sameOf all s.name with
      | nil => rw [hl] at this; simp [orAll]
      | cons a r => rw [hl] at this; simp at this; simp [this]
    rw [h9]
    simp only [hk, h1, List.any_cons]
    by_cases c1 : ((objOf all s.name).a == 0 || decide (4096 < s.a + (objOf all s.name).a)) = true
    · simp [c1]
    · have c1' : ((objOf all s.name).a == 0 || decide (4096 < s.a + (objOf all s.name).a)) = false := by simpa using c1
      rw [c1']
      by_cases c2 : all.any (hitPg all s.a (objOf all s.name).a) = true
      · simp [c2]
      · have c2' : all.any (hitPg all s.a (objOf all s.name).a) = false := by simpa using c2
        rw [c2']
        cases hx : (objOf all s.name).extra
        · by_cases c3 : orAll (sameOf all s.name) = 0 <;> simp [c3]
        · simp [Bool.or_comm]
  · have e : seeAll all s.name = none := by unfold seeAll; rw [h1]; rfl
    rw [e]
    unfold codeL
    simp [hk, h1, noSt]
theorem pa_obj {all : List St} (h : Good all) (s : St) (hk : s.kind = 1) (hn : seeAll all s.name = none) : paOf (all ++ [s]) = ⟨setG (seeAll all) s.name ⟨s.b, s.a, s.extra, 0⟩, framesOf all ++ [⟨s.b, s.a⟩], pagesOf all, regsOf all⟩ := by
  have hno : (objOf all s.name).kind ≠ 1 := by
    intro hc
    unfold seeAll at hn
    simp [hc] at hn
  unfold paOf
  rw [framesOf_snoc, pagesOf_snoc h, regsOf_snoc h]
  simp only [hk]
  refine congrArg (fun g => (⟨g, framesOf all ++ [⟨s.b, s.a⟩], pagesOf all, regsOf all⟩ : PA)) ?_
  funext n
  unfold seeAll setG
  rw [objOf_snoc, sameOf_snoc]
  simp only [hk]
  by_cases hkn : (objOf all n).kind = 1
  · have hne : n ≠ s.name := fun e => hno (by rw [← e]; exact hkn)
    simp [hkn, hne]
  · have hkb : ((objOf all n).kind == 1) = false := by simpa using hkn
    rw [hkb]
    by_cases hne : n = s.name
    · subst hne
      have hi : isObj s.name s = true := by unfold isObj; simp [hk]
      simp [hi, hk, h.same_none hno, orAll]
    · have hi : isObj n s = false := by unfold isObj; simp [hk]; exact fun e => hne e.symm
      simp [hi, hne, noSt]
theorem pa_grd {all : List St} (h : Good all) (s : St) (hk : s.kind = 3) : paOf (all ++ [s]) = ⟨seeAll all, framesOf all, pagesOf all ++ [⟨s.a, s.b⟩], regsOf all⟩ := by
  have hz : szOf (all ++ [s]) s = s.b := by unfold szOf; simp [hk]
  unfold paOf
  rw [framesOf_snoc, pagesOf_snoc h, regsOf_snoc h, hz]
  simp only [hk]
  refine congrArg (fun g => (⟨g, framesOf all, pagesOf all ++ [⟨s.a, s.b⟩], regsOf all⟩ : PA)) ?_
  funext n
  unfold seeAll
  rw [objOf_snoc, sameOf_snoc]
  have hi : isObj n s = false := by unfold isObj; simp [hk]
  simp only [hk, hi]
  by_cases hkn : (objOf all n).kind = 1
  · simp [hkn]
  · simp [hkn, noSt]
theorem pa_reg {all : List St} (h : Good all) (s : St) (o : OV) (hk : s.kind = 2) (hn : seeAll all s.name = some o) : paOf (all ++ [s]) = ⟨setG (seeAll all) s.name ⟨o.f, o.c, o.sh, pOr o.pm s.perm⟩, framesOf all, pagesOf all ++ [⟨s.a, o.c⟩], regsOf all ++ [⟨s.a, o.c, o.f, s.perm, s.extra⟩]⟩ := by
  have hyes : (objOf all s.name).kind = 1 := by
    unfold seeAll at hn
    by_cases hc : (objOf all s.name).kind = 1
    · exact hc
    · simp [hc] at hn
  have ho : o = ⟨(objOf all s.name).b, (objOf all s.name).a, (objOf all s.name).extra, orAll (sameOf all s.name)⟩ := by
    unfold seeAll at hn
    simp [hyes] at hn
    exact hn.symm
  subst ho
  have hkp := objOf_keep s hyes
  have hz : szOf (all ++ [s]) s = (objOf all s.name).a := by unfold szOf; simp [hk, hkp]
  unfold paOf
  rw [framesOf_snoc, pagesOf_snoc h, regsOf_snoc h, hz]
  simp only [hk]
  have hr : regOf (all ++ [s]) s = ⟨s.a, (objOf all s.name).a, (objOf all s.name).b, s.perm, s.extra⟩ := by unfold regOf; rw [hkp]
  rw [hr]
  refine congrArg (fun g => (⟨g, framesOf all, pagesOf all ++ [⟨s.a, (objOf all s.name).a⟩], regsOf all ++ [⟨s.a, (objOf all s.name).a, (objOf all s.name).b, s.perm, s.extra⟩]⟩ : PA)) ?_
  funext n
  unfold seeAll setG
  rw [objOf_snoc, sameOf_snoc]
  have hi : isObj n s = false := by unfold isObj; simp [hk]
  simp only [hk, hi]
  by_cases hne : n = s.name
  · subst hne
    simp [hyes, orAll_snoc]
  · have hne' : (s.name == n) = false := by simpa using fun e => hne e.symm
    by_cases hkn : (objOf all n).kind = 1
    · simp [hkn, hne, hne']
    · simp [hkn, noSt, hne]
theorem Good.snoc {all : List St} (h : Good all) (s : St) (hs : StOk s) (hp : s.kind = 2 → 1 ≤ s.perm) (hk : s.kind = 0 ∨ s.kind = 1 ∨ s.kind = 2 ∨ s.kind = 3) (hc : codeL all s = 0) : Good (all ++ [s]) := by
  have hk0 : s.kind ≠ 0 := by
    intro h0
    unfold codeL at hc
    simp [h0] at hc
  have hkn : s.kind = 2 → (objOf all s.name).kind = 1 := by
    intro h2
    rcases objOf_kind all s.name with h1 | h1
    · exact h1
    · unfold codeL at hc
      simp [h2, h1, noSt] at hc
  have hsz : s.kind ≠ 1 → szOf (all ++ [s]) s = szOf all s := by
    intro h1
    unfold szOf
    by_cases h3 : s.kind = 3
    · simp [h3]
    · have h2 : s.kind = 2 := by omega
      simp [h2, objOf_keep s (hkn h2)]
  have hzp : s.kind ≠ 1 → (szOf all s == 0 || decide (4096 < s.a + szOf all s)) = false ∧ all.any (hitPg all s.a (szOf all s)) = false := by
    intro h1
    have e0 : (s.kind == 0) = false := by simpa using hk0
    have e1 : (s.kind == 1) = false := by simpa using h1
    have e2 : (s.kind == 2 && (objOf all s.name).kind == 0) = false := by
      by_cases h2 : s.kind = 2
      · simp [h2, hkn h2]
      · simp [h2]
    unfold codeL at hc
    rw [e0, e1, e2] at hc
    simp only [Bool.false_eq_true, if_false] at hc
    cases c1 : (szOf all s == 0 || decide (4096 < s.a + szOf all s))
    · rw [c1] at hc
      simp only [Bool.false_eq_true, if_false] at hc
      cases c2 : all.any (hitPg all s.a (szOf all s))
      · exact ⟨rfl, rfl⟩
      · rw [c2] at hc
        simp at hc
    · rw [c1] at hc
      simp at hc
  refine ⟨fun e he => ?_, fun e he h2 => ?_, fun e he => ?_, fun e he h2 => ?_, fun e he h1 => ?_, fun e he h1 => ?_, ?_⟩
  · rcases List.mem_append.1 he with he | he
    · exact h.k e he
    · rw [List.mem_singleton.1 he]; omega
  · rcases List.mem_append.1 he with he | he
    · rw [h.obj_keep he h2 s]; exact h.o e he h2
    · rw [List.mem_singleton.1 he] at h2 ⊢
      rw [objOf_keep s (hkn h2)]; exact hkn h2
  · rcases List.mem_append.1 he with he | he
    · exact h.s e he
    · rw [List.mem_singleton.1 he]; exact hs
  · rcases List.mem_append.1 he with he | he
    · exact h.p e he h2
    · rw [List.mem_singleton.1 he] at h2 ⊢; exact hp h2
  · rcases List.mem_append.1 he with he | he
    · rw [h.sz_keep he h1 s]; exact h.f e he h1
    · rw [List.mem_singleton.1 he] at h1 ⊢
      rw [hsz h1]
      have := (hzp h1).1
      simp at this
      have := (szOf_ok h.s hs).1
      omega
  · rcases List.mem_append.1 he with he | he
    · exact h.g e he h1
    · rw [List.mem_singleton.1 he] at h1 ⊢
      rw [code_obj all s h1 hs] at hc
      cases hf : fitsB ⟨s.b, s.a⟩ 65536
      · rw [hf] at hc
        split at hc <;> simp at hc
      · unfold fitsB at hf
        simp at hf
        exact hf.2
  · rw [List.pairwise_append]
    refine ⟨?_, List.pairwise_singleton _ _, fun x hx y hy h1 h2 => ?_⟩
    · refine h.d.imp_of_mem (fun {x y} hx hy hxy h1 h2 => ?_)
      rw [h.sz_keep hx h1 s, h.sz_keep hy h2 s]
      exact hxy h1 h2
    · rw [List.mem_singleton.1 hy] at h2 ⊢
      rw [h.sz_keep hx h1 s, hsz h2]
      have := (hzp h2).2
      rw [List.any_eq_false] at this
      have := this x hx
      unfold hitPg meetB at this
      have e1 : (x.kind == 1) = false := by simpa using h1
      rw [e1] at this
      unfold meetB
      simp at this ⊢
      omega
theorem pages_rn {all : List St} (h : Good all) : ∀ i, i < (pagesOf all).length → RnB (eAt eRunR (pagesOf all) i) := by
  intro i hi
  unfold eAt
  rw [List.getD_eq_getElem?_getD, List.getElem?_eq_getElem hi]
  have hm := List.getElem_mem hi
  unfold pagesOf at hm
  obtain ⟨e, he, e2⟩ := List.mem_map.1 hm
  obtain ⟨h1, h2⟩ := List.mem_filter.1 he
  simp at h2
  obtain ⟨f1, f2⟩ := h.f e h1 h2
  have := (h.s e h1).a0
  show RnB ((pagesOf all)[i])
  have e3 : (pagesOf all)[i] = ⟨e.a, szOf all e⟩ := e2.symm
  rw [e3]
  exact ⟨by dsimp only; omega, by dsimp only; omega⟩
theorem frames_rn {all : List St} (h : Good all) : ∀ i, i < (framesOf all).length → RnB (eAt eRunR (framesOf all) i) := by
  intro i hi
  unfold eAt
  rw [List.getD_eq_getElem?_getD, List.getElem?_eq_getElem hi]
  have hm := List.getElem_mem hi
  unfold framesOf at hm
  obtain ⟨e, he, e2⟩ := List.mem_map.1 hm
  obtain ⟨h1, h2⟩ := List.mem_filter.1 he
  have := h.s e h1
  show RnB ((framesOf all)[i])
  have e3 : (framesOf all)[i] = ⟨e.b, e.a⟩ := e2.symm
  rw [e3]
  have a0 := this.a0; have a1 := this.a1; have b0 := this.b0; have b1 := this.b1
  exact ⟨by dsimp only; omega, by dsimp only; omega⟩
theorem lens_le (all : List St) : (pagesOf all).length ≤ all.length ∧ (framesOf all).length ≤ all.length ∧ (regsOf all).length ≤ all.length := by
  unfold pagesOf framesOf regsOf
  refine ⟨?_, ?_, ?_⟩ <;> (rw [List.length_map]; exact List.length_filter_le _ _)
end Go.Proofs.Ytnmhkgmmpkjjeaa
