import Derived.Test.YtnmhkgmmpkjjeaaG28
import Derived.Test.YtnmhkgmmpkjjeaaG14
namespace Go.Proofs.Ytnmhkgmmpkjjeaa
open Go.ChangeShapes Go.WideShapes Go.ChangeAt Go.RowKit
set_option linter.unusedVariables false

/-! Places, walks and counts, in plain words. -/
def badW (n l x : Int) : Bool := decide (dKind l x = 4) || (decide (dKind l x = 1) && decide (n ≤ dOut l x))
def leadW (n l x : Int) : Bool := decide (dKind l x = 1) && decide (dOut l x < n)
theorem dKind_rng (l x : Int) : 0 ≤ dKind l x ∧ dKind l x ≤ 4 ∧ dKind 3 x ≠ 1 := by
  unfold dKind
  refine ⟨?_, ?_, ?_⟩ <;> (repeat' split) <;> omega
def w1z (zs : List Int) (pg : Nat) : Int := wordAt zs 0 (pg / 256)
def w2z (zs : List Int) (pg : Nat) : Int := wordAt zs (dOut 1 (w1z zs pg)) (pg / 16 % 16)
def w3z (zs : List Int) (pg : Nat) : Int := wordAt zs (dOut 2 (w2z zs pg)) (pg % 16)
theorem fromR_bad (n page l x : Int) (R : HitR) (h : l < 3) : (fromR n page l x R).kind = 3 ↔ badW n l x = true ∨ (leadW n l x = true ∧ R.kind = 3) := by
  have hk := dKind_rng l x
  unfold fromR badW leadW
  by_cases h0 : dKind l x = 0
  · simp [h0]
  · rw [if_neg h0]
    by_cases h1 : dKind l x = 1
    · by_cases h2 : dOut l x < n
      · rw [if_pos ⟨h1, h2, h⟩]
        have h3 : ¬ n ≤ dOut l x := by omega
        simp [h1, h2, h3]
      · rw [if_neg (by simp [h2]), if_neg (by omega), if_neg (by omega)]
        have h3 : n ≤ dOut l x := by omega
        simp [h1, h3]
    · rw [if_neg (by simp [h1])]
      by_cases h2 : dKind l x = 2
      · simp [h2]
      · by_cases h3 : dKind l x = 3
        · simp [h3]
        · have h4 : dKind l x = 4 := by omega
          simp [h4]
theorem fromR_bad3 (n page x : Int) (R : HitR) : (fromR n page 3 x R).kind = 3 ↔ badW n 3 x = true := by
  have hk := dKind_rng 3 x
  unfold fromR badW
  by_cases h0 : dKind 3 x = 0
  · simp [h0]
  · rw [if_neg h0, if_neg (by omega)]
    by_cases h2 : dKind 3 x = 2
    · simp [h2]
    · by_cases h3 : dKind 3 x = 3
      · simp [h3]
      · have h4 : dKind 3 x = 4 := by have := hk.2.2; omega
        simp [h4]
theorem word_at (zs : List Int) (f : Int) (i : Nat) (j : Int) (hf : 0 ≤ f) (hj : j = i) : zs.getD (f * 16 + j).toNat 0 = wordAt zs f i := by
  unfold wordAt
  congr 1
  omega
theorem walk_bad (zs : List Int) (pg : Nat) (hn : nfr zs.length ≠ 0) (hp : pg < 4096) : (walkZ zs pg).kind = 3 ↔ badW (nfr zs.length) 1 (w1z zs pg) = true ∨ (leadW (nfr zs.length) 1 (w1z zs pg) = true ∧ (badW (nfr zs.length) 2 (w2z zs pg) = true ∨ (leadW (nfr zs.length) 2 (w2z zs pg) = true ∧ badW (nfr zs.length) 3 (w3z zs pg) = true))) := by
  have hpo : pageOk (pg : Int) = true := by simp [pageOk]; omega
  have e1 : wordM (bare zs) (pg : Int) 0 1 0 = w1z zs pg := by
    rw [wordM_bare]
    exact word_at zs 0 (pg / 256) _ (by omega) (by simp [idx])
  have e2 : wordM (bare zs) (pg : Int) 0 2 (dOut 1 (w1z zs pg)) = w2z zs pg := by
    rw [wordM_bare]
    exact word_at zs _ (pg / 16 % 16) _ (dOut_lo _ _).1 (by simp [idx])
  have e3 : wordM (bare zs) (pg : Int) 0 3 (dOut 2 (w2z zs pg)) = w3z zs pg := by
    rw [wordM_bare]
    exact word_at zs _ (pg % 16) _ (dOut_lo _ _).1 (by simp [idx])
  unfold walkZ
  rw [if_neg (by simp [hn, hpo])]
  rw [← from_step zs pg 1 0 1 (by omega), e1, ← from_step zs pg (1 + 1) _ 0 (by omega)]
  rw [show (1 : Int) + 1 = 2 from rfl, e2, ← from_end zs pg (2 + 1) _ ⟨0, 0, 0, 0⟩ rfl, show (2 : Int) + 1 = 3 from rfl, e3]
  rw [fromR_bad _ _ _ _ _ (by omega), fromR_bad _ _ _ _ _ (by omega), fromR_bad3]

/-! The list of places. -/
def root : P3 := ⟨0, 1, 0⟩
theorem under1 (zs : List Int) (i : Nat) : under zs root i = ⟨dOut 1 (wordAt zs 0 i), 2, (i : Int) * 256⟩ := by
  unfold under root cov
  simp
theorem under2 (zs : List Int) (i j : Nat) : under zs (under zs root i) j = ⟨dOut 2 (wordAt zs (dOut 1 (wordAt zs 0 i)) j), 3, (i : Int) * 256 + (j : Int) * 16⟩ := by
  rw [under1]
  unfold under cov
  simp
theorem mem_plist (zs : List Int) (hn : nfr zs.length ≠ 0) (p : P3) : p ∈ plist zs ↔ p = root ∨ ∃ i, i < 16 ∧ leadW (nfr zs.length) 1 (wordAt zs 0 i) = true ∧ (p = under zs root i ∨ ∃ j, j < 16 ∧ leadW (nfr zs.length) 2 (wordAt zs (dOut 1 (wordAt zs 0 i)) j) = true ∧ p = under zs (under zs root i) j) := by
  have hl1 : ∀ i, leads zs (nfr zs.length) root i = leadW (nfr zs.length) 1 (wordAt zs 0 i) := fun i => rfl
  have hl2 : ∀ i j, leads zs (nfr zs.length) (under zs root i) j = leadW (nfr zs.length) 2 (wordAt zs (dOut 1 (wordAt zs 0 i)) j) := fun i j => by rw [under1]; rfl
  have e : plist zs = downs zs (nfr zs.length) (fun q => downs zs (nfr zs.length) (fun r => [r]) q 16) root 16 := by
    unfold plist; rw [if_neg hn]; rfl
  rw [e]
  unfold downs
  constructor
  · intro h
    rcases List.mem_cons.1 h with h | h
    · exact .inl h
    · obtain ⟨i, hi, hm⟩ := List.mem_flatMap.1 h
      rw [List.mem_range] at hi
      rw [hl1] at hm
      by_cases hw : leadW (nfr zs.length) 1 (wordAt zs 0 i) = true
      · rw [if_pos hw] at hm
        refine .inr ⟨i, hi, hw, ?_⟩
        rcases List.mem_cons.1 hm with h2 | h2
        · exact .inl h2
        · obtain ⟨j, hj, hm2⟩ := List.mem_flatMap.1 h2
          rw [List.mem_range] at hj
          rw [hl2] at hm2
          by_cases hw2 : leadW (nfr zs.length) 2 (wordAt zs (dOut 1 (wordAt zs 0 i)) j) = true
          · rw [if_pos hw2] at hm2
            exact .inr ⟨j, hj, hw2, by simpa using hm2⟩
          · rw [if_neg hw2] at hm2; simp at hm2
      · rw [if_neg hw] at hm; simp at hm
  · intro h
    rcases h with h | ⟨i, hi, hw, h⟩
    · exact List.mem_cons.2 (.inl h)
    · refine List.mem_cons.2 (.inr (List.mem_flatMap.2 ⟨i, List.mem_range.2 hi, ?_⟩))
      rw [hl1, if_pos hw]
      rcases h with h | ⟨j, hj, hw2, h⟩
      · exact List.mem_cons.2 (.inl h)
      · refine List.mem_cons.2 (.inr (List.mem_flatMap.2 ⟨j, List.mem_range.2 hj, ?_⟩))
        rw [hl2, if_pos hw2]
        simpa using h

theorem soundP_iff (zs : List Int) (n : Int) (p : P3) : soundP zs n p = true ↔ ∀ k, k < 16 → badW n p.lv (wordAt zs p.fr k) = false := by
  unfold soundP
  rw [List.all_eq_true]
  constructor
  · intro h k hk
    have := h k (List.mem_range.2 hk)
    have e : soundW zs n p k = !badW n p.lv (wordAt zs p.fr k) := rfl
    rw [e] at this
    simpa using this
  · intro h k hk
    have := h k (List.mem_range.1 hk)
    have e : soundW zs n p k = !badW n p.lv (wordAt zs p.fr k) := rfl
    rw [e, this]; rfl
theorem sound_walks (zs : List Int) (hn : nfr zs.length ≠ 0) : (∀ p, p ∈ plist zs → soundP zs (nfr zs.length) p = true) ↔ ∀ pg, pg < 4096 → (walkZ zs (pg : Nat)).kind ≠ 3 := by
  constructor
  · intro h pg hp hk
    have hb : ∀ (b : Bool), b = true → b = false → False := fun b h1 h2 => by rw [h1] at h2; cases h2
    rcases (walk_bad zs pg hn hp).1 hk with h1 | ⟨l1, h2 | ⟨l2, h3⟩⟩
    · have := (soundP_iff _ _ _).1 (h root ((mem_plist zs hn _).2 (.inl rfl))) (pg / 256) (by omega)
      exact hb _ h1 this
    · have := (soundP_iff _ _ _).1 (h (under zs root (pg / 256)) ((mem_plist zs hn _).2 (.inr ⟨pg / 256, by omega, l1, .inl rfl⟩))) (pg / 16 % 16) (by omega)
      rw [under1] at this
      exact hb _ h2 this
    · have := (soundP_iff _ _ _).1 (h (under zs (under zs root (pg / 256)) (pg / 16 % 16)) ((mem_plist zs hn _).2 (.inr ⟨pg / 256, by omega, l1, .inr ⟨pg / 16 % 16, by omega, l2, rfl⟩⟩))) (pg % 16) (by omega)
      rw [under2] at this
      exact hb _ h3 this
  · intro h p hp
    rw [soundP_iff]
    intro k hk
    cases hb : badW (nfr zs.length) p.lv (wordAt zs p.fr k)
    · rfl
    · exfalso
      rcases (mem_plist zs hn p).1 hp with rfl | ⟨i, hi, l1, rfl | ⟨j, hj, l2, rfl⟩⟩
      · refine h (k * 256) (by omega) ((walk_bad zs _ hn (by omega)).2 (.inl ?_))
        unfold w1z
        rw [show k * 256 / 256 = k by omega]
        exact hb
      · rw [under1] at hb
        have e1 : w1z zs (i * 256 + k * 16) = wordAt zs 0 i := by unfold w1z; rw [show (i * 256 + k * 16) / 256 = i by omega]
        have e2 : w2z zs (i * 256 + k * 16) = wordAt zs (dOut 1 (wordAt zs 0 i)) k := by unfold w2z; rw [e1, show (i * 256 + k * 16) / 16 % 16 = k by omega]
        exact h (i * 256 + k * 16) (by omega) ((walk_bad zs _ hn (by omega)).2 (.inr ⟨by rw [e1]; exact l1, .inl (by rw [e2]; exact hb)⟩))
      · rw [under2] at hb
        have e1 : w1z zs (i * 256 + j * 16 + k) = wordAt zs 0 i := by unfold w1z; rw [show (i * 256 + j * 16 + k) / 256 = i by omega]
        have e2 : w2z zs (i * 256 + j * 16 + k) = wordAt zs (dOut 1 (wordAt zs 0 i)) j := by unfold w2z; rw [e1, show (i * 256 + j * 16 + k) / 16 % 16 = j by omega]
        have e3 : w3z zs (i * 256 + j * 16 + k) = wordAt zs (dOut 2 (wordAt zs (dOut 1 (wordAt zs 0 i)) j)) k := by unfold w3z; rw [e2, show (i * 256 + j * 16 + k) % 16 = k by omega]
        exact h (i * 256 + j * 16 + k) (by omega) ((walk_bad zs _ hn (by omega)).2 (.inr ⟨by rw [e1]; exact l1, .inr ⟨by rw [e2]; exact l2, by rw [e3]; exact hb⟩⟩))

/-- What the law finds clean: the walks, then the frames. -/
def okW (zs : List Int) (pg : Nat) : Bool := !decide ((walkZ zs (pg : Nat)).kind = 3)
def cleanW (zs : List Int) (k : Nat) : Bool := (List.range k).all (okW zs)
def cleanF (ps : List P3) (i : Nat) : Bool := (List.range i).all (freshP ps)
theorem mem_pAt (ps : List P3) (i : Nat) (h : i < ps.length) : pAt ps i ∈ ps := by
  unfold pAt
  rw [List.getD_eq_getElem?_getD, List.getElem?_eq_getElem h]
  exact List.getElem_mem h
theorem pAt_of_mem (ps : List P3) (p : P3) (h : p ∈ ps) : ∃ i, i < ps.length ∧ pAt ps i = p := by
  obtain ⟨i, hi, e⟩ := List.getElem_of_mem h
  exact ⟨i, hi, by unfold pAt; rw [List.getD_eq_getElem?_getD, List.getElem?_eq_getElem hi]; exact e⟩
theorem tree_clean (zs : List Int) (hn : nfr zs.length ≠ 0) : ptree zs = (cleanW zs 4096 && cleanF (plist zs) (plist zs).length) := by
  have e : ptree zs = treeTo zs (nfr zs.length) (plist zs) (plist zs).length := by unfold ptree; simp [hn]
  rw [e, Bool.eq_iff_iff]
  unfold treeTo cleanW cleanF
  simp only [Bool.and_eq_true, List.all_eq_true, List.mem_range]
  constructor
  · intro h
    refine ⟨fun pg hp => ?_, fun i hi => (h i hi).1⟩
    have := (sound_walks zs hn).1 (fun p hp => by
      obtain ⟨i, hi, rfl⟩ := pAt_of_mem _ _ hp
      exact (h i hi).2) pg hp
    unfold okW
    simpa using this
  · rintro ⟨h1, h2⟩ i hi
    refine ⟨h2 i hi, (sound_walks zs hn).2 (fun pg hp => ?_) _ (mem_pAt _ _ hi)⟩
    have := h1 pg hp
    unfold okW at this
    simpa using this

/-! What is in the list. -/
def hasP (ps : List P3) (f l g : Int) : Bool := ps.any fun p => decide (p.fr = f) && decide (p.lv = l) && decide (p.pg = g)
theorem hasP_of (ps : List P3) (f l g : Int) (h : (⟨f, l, g⟩ : P3) ∈ ps) : hasP ps f l g = true := by
  unfold hasP
  rw [List.any_eq_true]
  exact ⟨_, h, by simp⟩
theorem has1 (zs : List Int) (hn : nfr zs.length ≠ 0) : hasP (plist zs) 0 1 0 = true := hasP_of _ _ _ _ ((mem_plist zs hn _).2 (.inl rfl))
theorem has2 (zs : List Int) (hn : nfr zs.length ≠ 0) (pg : Nat) (hp : pg < 4096) (hm : pg % 256 = 0) (h1 : leadW (nfr zs.length) 1 (w1z zs pg) = true) : hasP (plist zs) (dOut 1 (w1z zs pg)) 2 pg = true := by
  refine hasP_of _ _ _ _ ((mem_plist zs hn _).2 (.inr ⟨pg / 256, by omega, h1, .inl ?_⟩))
  rw [under1]
  unfold w1z
  congr 1
  omega
theorem has3 (zs : List Int) (hn : nfr zs.length ≠ 0) (pg : Nat) (hp : pg < 4096) (hm : pg % 16 = 0) (h1 : leadW (nfr zs.length) 1 (w1z zs pg) = true) (h2 : leadW (nfr zs.length) 2 (w2z zs pg) = true) : hasP (plist zs) (dOut 2 (w2z zs pg)) 3 pg = true := by
  refine hasP_of _ _ _ _ ((mem_plist zs hn _).2 (.inr ⟨pg / 256, by omega, h1, .inr ⟨pg / 16 % 16, by omega, h2, ?_⟩⟩))
  rw [under2]
  unfold w2z w1z
  congr 1
  omega

/-! How many. -/
def addAt (zs : List Int) (n : Int) (pg : Nat) : Nat :=
  if pg % 16 = 0 ∧ leadW n 1 (w1z zs pg) = true then (if pg % 256 = 0 then 1 else 0) + (if leadW n 2 (w2z zs pg) = true then 1 else 0) else 0
def cntTo (zs : List Int) (n : Int) : Nat → Nat
  | 0 => 1
  | k + 1 => cntTo zs n k + addAt zs n k
theorem cnt_le (zs : List Int) (n : Int) : ∀ k, cntTo zs n k ≤ 1 + 2 * k
  | 0 => by simp [cntTo]
  | k + 1 => by
    have := cnt_le zs n k
    have h : addAt zs n k ≤ 2 := by
      unfold addAt
      split
      · split <;> split <;> omega
      · omega
    show cntTo zs n k + addAt zs n k ≤ _
    omega
theorem cnt_still (zs : List Int) (n : Int) (m : Nat) : ∀ r, r ≤ 15 → cntTo zs n (16 * m + 1 + r) = cntTo zs n (16 * m + 1)
  | 0, _ => rfl
  | r + 1, h => by
    have ih := cnt_still zs n m r (by omega)
    show cntTo zs n (16 * m + 1 + r) + addAt zs n (16 * m + 1 + r) = _
    have h0 : addAt zs n (16 * m + 1 + r) = 0 := by unfold addAt; rw [if_neg (by omega)]
    omega
theorem cnt16 (zs : List Int) (n : Int) (m : Nat) : cntTo zs n (16 * m + 16) = cntTo zs n (16 * m) + addAt zs n (16 * m) := by
  have := cnt_still zs n m 15 (by omega)
  rw [show 16 * m + 16 = 16 * m + 1 + 15 by omega, this]
  rfl
theorem cnt_in (zs : List Int) (n : Int) (i : Nat) : ∀ j, j ≤ 16 → cntTo zs n (256 * i + 16 * j) = cntTo zs n (256 * i) + (if leadW n 1 (wordAt zs 0 i) = true then (if j = 0 then 0 else (downs zs n (fun r => [r]) (under zs root i) j).length) else 0)
  | 0, _ => by simp
  | j + 1, h => by
    have ih := cnt_in zs n i j (by omega)
    have e := cnt16 zs n (16 * i + j)
    rw [show 16 * (16 * i + j) + 16 = 256 * i + 16 * (j + 1) by omega, show 16 * (16 * i + j) = 256 * i + 16 * j by omega] at e
    rw [e, ih]
    have e1 : w1z zs (256 * i + 16 * j) = wordAt zs 0 i := by unfold w1z; rw [show (256 * i + 16 * j) / 256 = i by omega]
    have e2 : w2z zs (256 * i + 16 * j) = wordAt zs (dOut 1 (wordAt zs 0 i)) j := by unfold w2z; rw [e1, show (256 * i + 16 * j) / 16 % 16 = j by omega]
    have hl : leads zs n (under zs root i) j = leadW n 2 (wordAt zs (dOut 1 (wordAt zs 0 i)) j) := by rw [under1]; rfl
    unfold addAt
    rw [e1, e2]
    have hm : (256 * i + 16 * j) % 16 = 0 := by omega
    have hm2 : ((256 * i + 16 * j) % 256 = 0) = (j = 0) := by apply propext; omega
    have hd := downs_succ zs n (fun r => [r]) (under zs root i) j
    rw [hl] at hd
    by_cases hw : leadW n 1 (wordAt zs 0 i) = true
    · simp only [hw, hm, hm2, and_self, if_true, hd, List.length_append, Nat.add_eq_zero_iff, Nat.one_ne_zero, and_false, if_false]
      by_cases hj : j = 0
      · subst hj
        simp only [if_true, downs_zero, List.length_singleton]
        split <;> simp
      · simp only [hj, if_false]
        split <;> simp <;> omega
    · simp only [hw, and_false, if_false, Nat.add_zero, Bool.false_eq_true]
theorem cnt_out (zs : List Int) (n : Int) : ∀ i, i ≤ 16 → cntTo zs n (256 * i) = (downs zs n (fun q => downs zs n (fun r => [r]) q 16) root i).length
  | 0, _ => by simp [cntTo, downs]
  | i + 1, h => by
    have ih := cnt_out zs n i (by omega)
    have e := cnt_in zs n i 16 (by omega)
    rw [show 256 * i + 16 * 16 = 256 * (i + 1) by omega, ih] at e
    have hl : leads zs n root i = leadW n 1 (wordAt zs 0 i) := rfl
    rw [e, downs_succ zs n (fun q => downs zs n (fun r => [r]) q 16) root i, List.length_append, hl]
    by_cases hw : leadW n 1 (wordAt zs 0 i) = true
    · rw [if_pos hw, if_pos hw, if_neg (by omega)]
    · rw [if_neg hw, if_neg hw]; rfl
theorem cnt_all (zs : List Int) (hn : nfr zs.length ≠ 0) : cntTo zs (nfr zs.length) 4096 = (plist zs).length := by
  have e : plist zs = downs zs (nfr zs.length) (fun q => downs zs (nfr zs.length) (fun r => [r]) q 16) root 16 := by
    unfold plist; rw [if_neg hn]; rfl
  rw [e]
  exact cnt_out zs _ 16 (by omega)
end Go.Proofs.Ytnmhkgmmpkjjeaa
