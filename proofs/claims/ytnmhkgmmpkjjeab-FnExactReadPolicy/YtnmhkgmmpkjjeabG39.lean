import Derived.Test.YtnmhkgmmpkjjeabG38
namespace Go.Proofs.Ytnmhkgmmpkjjeab
set_option linter.unusedVariables false
set_option linter.unusedSimpArgs false
set_option maxRecDepth 100000

/-! Regions in order, joined: the same spans as page by page. -/
def addTo (l r : SpanE) : SpanE := ⟨l.page, l.count + r.count, l.out, l.perm, l.huge⟩
def joinStep (out : List SpanE) (r : SpanE) : List SpanE := if 0 < out.length ∧ joinsB (lastS out) r = true then out.set (out.length - 1) (addTo (lastS out) r) else out ++ [r]
def joinL (rs : List SpanE) : List SpanE := rs.foldl joinStep []
/-- The first k pages of a region, as one span; its page k. -/
def headOf (r : SpanE) (k : Nat) : SpanE := ⟨r.page, (k : Nat), r.out, r.perm, r.huge⟩
def unitAt (r : SpanE) (k : Nat) : SpanE := ⟨r.page + (k : Nat), 1, r.out + (k : Nat), r.perm, r.huge⟩
theorem lastS_snoc (out : List SpanE) (x : SpanE) : lastS (out ++ [x]) = x := by
  unfold lastS eAt
  rw [List.getD_eq_getElem?_getD]
  simp
theorem set_snoc (out : List SpanE) (x y : SpanE) : (out ++ [x]).set ((out ++ [x]).length - 1) y = out ++ [y] := by
  simp
theorem lastS_set (out : List SpanE) (y : SpanE) (h : 0 < out.length) : lastS (out.set (out.length - 1) y) = y := by
  unfold lastS eAt
  rw [List.length_set, List.getD_eq_getElem?_getD, List.getElem?_set_self (by omega)]
  rfl
theorem set_set (out : List SpanE) (x y : SpanE) : (out.set (out.length - 1) x).set ((out.set (out.length - 1) x).length - 1) y = out.set (out.length - 1) y := by
  rw [List.length_set, List.set_set]
theorem join_head (out : List SpanE) (r : SpanE) (k : Nat) : spanStep (joinStep out (headOf r (k + 1))) (unitAt r (k + 1)) = joinStep out (headOf r (k + 2)) := by
  have hj : ∀ n, joinsB (lastS out) (headOf r n) = joinsB (lastS out) r := fun n => by unfold joinsB headOf; rfl
  unfold joinStep
  rw [hj, hj]
  by_cases h : 0 < out.length ∧ joinsB (lastS out) r = true
  · rw [if_pos h, if_pos h]
    unfold spanStep
    have hjj := h.2
    unfold joinsB at hjj
    simp at hjj
    have hlen : 0 < (out.set (out.length - 1) (addTo (lastS out) (headOf r (k + 1)))).length := by rw [List.length_set]; exact h.1
    have hl := lastS_set out (addTo (lastS out) (headOf r (k + 1))) h.1
    have hjoin : joinsB (lastS (out.set (out.length - 1) (addTo (lastS out) (headOf r (k + 1))))) (unitAt r (k + 1)) = true := by
      rw [hl]
      unfold joinsB addTo headOf unitAt
      simp
      exact ⟨by omega, by omega, hjj.2.2.1, hjj.2.2.2⟩
    rw [if_pos (show (unitAt r (k + 1)).count = 1 from rfl), if_pos ⟨hlen, hjoin⟩, hl, set_set]
    congr 1
    unfold more addTo headOf
    simp
    omega
  · rw [if_neg h, if_neg h]
    unfold spanStep
    have hl := lastS_snoc out (headOf r (k + 1))
    have hjoin : joinsB (lastS (out ++ [headOf r (k + 1)])) (unitAt r (k + 1)) = true := by
      rw [hl]
      unfold joinsB headOf unitAt
      simp
    rw [if_pos (show (unitAt r (k + 1)).count = 1 from rfl), if_pos ⟨by simp, hjoin⟩, hl, set_snoc]
    congr 2
/-- Over a function that says what lies at a page. -/
def foldP (pc : Nat → SpanE) (out : List SpanE) : Nat → Nat → List SpanE
  | _, 0 => out
  | p, n + 1 => foldP pc (spanStep out (pc p)) (p + 1) n
theorem foldP_add (pc : Nat → SpanE) : ∀ (a b p : Nat) (out : List SpanE), foldP pc out p (a + b) = foldP pc (foldP pc out p a) (p + a) b
  | 0, b, p, out => by rw [Nat.zero_add]; rfl
  | a + 1, b, p, out => by
    rw [show a + 1 + b = (a + b) + 1 by omega]
    show foldP pc (spanStep out (pc p)) (p + 1) (a + b) = foldP pc (foldP pc (spanStep out (pc p)) (p + 1) a) (p + (a + 1)) b
    rw [foldP_add pc a b, show p + 1 + a = p + (a + 1) by omega]
theorem foldP_gap (pc : Nat → SpanE) : ∀ (n p : Nat) (out : List SpanE), (∀ q, p ≤ q → q < p + n → pc q = noSpan) → foldP pc out p n = out
  | 0, p, out, _ => rfl
  | n + 1, p, out, h => by
    show foldP pc (spanStep out (pc p)) (p + 1) n = out
    rw [h p (by omega) (by omega)]
    have : spanStep out noSpan = out := by unfold spanStep; rw [if_neg (by decide)]
    rw [this]
    exact foldP_gap pc n (p + 1) out (fun q h1 h2 => h q (by omega) (by omega))
theorem foldP_reg (pc : Nat → SpanE) (r : SpanE) (P : Nat) (hP : r.page = (P : Nat)) (out : List SpanE) : ∀ n : Nat, (∀ k, k < n + 1 → pc (P + k) = unitAt r k) → foldP pc out P (n + 1) = joinStep out (headOf r (n + 1))
  | 0, h => by
    show spanStep out (pc P) = _
    have h0 := h 0 (by omega)
    rw [Nat.add_zero] at h0
    rw [h0]
    unfold spanStep joinStep
    rw [if_pos (show (unitAt r 0).count = 1 from rfl)]
    have e1 : joinsB (lastS out) (unitAt r 0) = joinsB (lastS out) (headOf r (0 + 1)) := by unfold joinsB unitAt headOf; simp
    rw [e1]
    have e2 : unitAt r 0 = headOf r (0 + 1) := by unfold unitAt headOf; simp
    rw [e2]
    rfl
  | n + 1, h => by
    rw [foldP_add pc (n + 1) 1, foldP_reg pc r P hP out n (fun k hk => h k (by omega))]
    show spanStep _ (pc (P + (n + 1))) = _
    rw [h (n + 1) (by omega)]
    exact join_head out r n
theorem foldP_all (pc : Nat → SpanE) : ∀ (rs : List SpanE) (lo : Nat) (out : List SpanE), lo ≤ 4096 → (∀ r ∈ rs, 1 ≤ r.count ∧ (lo : Int) ≤ r.page ∧ r.page + r.count ≤ 4096) → rs.Pairwise (fun x y => x.page + x.count ≤ y.page) →
    (∀ q : Nat, lo ≤ q → q < 4096 → (∀ r ∈ rs, r.page ≤ (q : Int) → (q : Int) < r.page + r.count → pc q = unitAt r (q - r.page.toNat)) ∧ ((∀ r ∈ rs, ¬ (r.page ≤ (q : Int) ∧ (q : Int) < r.page + r.count)) → pc q = noSpan)) →
    foldP pc out lo (4096 - lo) = rs.foldl joinStep out
  | [], lo, out, hlo, _, _, hpc => by
    rw [foldP_gap pc _ _ _ (fun q h1 h2 => (hpc q h1 (by omega)).2 (fun r hr => by cases hr))]
    rfl
  | r :: rs, lo, out, hlo, hr, hp, hpc => by
    obtain ⟨r1, r2, r3⟩ := hr r List.mem_cons_self
    obtain ⟨p1, p2⟩ := List.pairwise_cons.1 hp
    obtain ⟨P, hP⟩ : ∃ P : Nat, r.page = (P : Nat) := ⟨r.page.toNat, by omega⟩
    obtain ⟨C, hC⟩ : ∃ C : Nat, r.count = ((C + 1 : Nat) : Int) := ⟨r.count.toNat - 1, by omega⟩
    have ht : r.page.toNat = P := by omega
    have e : 4096 - lo = (P - lo) + ((C + 1) + (4096 - (P + (C + 1)))) := by omega
    rw [e, foldP_add, foldP_gap pc _ _ out, show lo + (P - lo) = P by omega, foldP_add, foldP_reg pc r P hP out C]
    · have hh : headOf r (C + 1) = r := by unfold headOf; rw [← hC]
      rw [hh, List.foldl_cons]
      refine foldP_all pc rs (P + (C + 1)) _ (by omega) (fun s hs => ?_) p2 (fun q h1 h2 => ⟨fun s hs => (hpc q (by omega) h2).1 s (List.mem_cons_of_mem _ hs), fun hn => (hpc q (by omega) h2).2 (fun s hs => ?_)⟩)
      · have a := hr s (List.mem_cons_of_mem _ hs)
        have b := p1 s hs
        omega
      · rcases List.mem_cons.1 hs with rfl | hs
        · omega
        · exact hn s hs
    · intro k hk
      have := (hpc (P + k) (by omega) (by omega)).1 r List.mem_cons_self (by omega) (by omega)
      rw [this, ht, Nat.add_sub_cancel_left]
    · intro q h1 h2
      refine (hpc q (by omega) (by omega)).2 (fun s hs hc => ?_)
      rcases List.mem_cons.1 hs with rfl | hs
      · omega
      · have := p1 s hs
        have := (hr s (List.mem_cons_of_mem _ hs)).1
        omega
theorem spansTo_fold (all : List St) : ∀ n, spansTo all n = foldP (fun p => pieceL all (p : Nat)) [] 0 n
  | 0 => rfl
  | n + 1 => by
    rw [foldP_add _ n 1, ← spansTo_fold all n, Nat.zero_add]
    rfl
/-- What the sorted regions give. -/
theorem join_sorted {all : List St} {rs : List SpanE} (hp : rs.Perm (regsOf all)) (hs : rs.Pairwise (fun x y => x.page + x.count ≤ y.page)) (hb : ∀ r ∈ regsOf all, 1 ≤ r.count ∧ 0 ≤ r.page ∧ r.page + r.count ≤ 4096) : joinL rs = spansTo all 4096 := by
  rw [spansTo_fold]
  refine (foldP_all _ rs 0 [] (by omega) (fun r hr => by have := hb r (hp.mem_iff.1 hr); omega) hs (fun q _ hq => ⟨fun r hr h1 h2 => ?_, fun hn => ?_⟩)).symm
  · -- the statement that covers the page
    have uniq : ∀ r' ∈ rs, r'.page ≤ (q : Int) → (q : Int) < r'.page + r'.count → r' = r := by
      intro r' hr' h3 h4
      rcases List.pairwise_iff_getElem.1 hs with hh
      obtain ⟨i, hi, ei⟩ := List.mem_iff_getElem.1 hr
      obtain ⟨j, hj, ej⟩ := List.mem_iff_getElem.1 hr'
      rcases Nat.lt_trichotomy i j with hij | hij | hij
      · have := hh i j hi hj hij; rw [ei, ej] at this; omega
      · subst hij; rw [← ei, ← ej]
      · have := hh j i hj hi hij; rw [ei, ej] at this; omega
    unfold pieceL
    have hmem : r ∈ regsOf all := hp.mem_iff.1 hr
    unfold regsOf at hmem
    obtain ⟨e, he, e2⟩ := List.mem_map.1 hmem
    obtain ⟨m1, m2⟩ := List.mem_filter.1 he
    have hin : inR all (q : Nat) e = true := by
      unfold inR
      rw [m2]
      unfold regOf at e2
      rw [← e2] at h1 h2
      simp at h1 h2 ⊢
      omega
    cases hf : all.find? (inR all (q : Nat)) with
    | none => exact absurd hin (by have := List.find?_eq_none.1 hf e m1; simpa using this)
    | some f =>
      have fm := List.mem_of_find?_eq_some hf
      have ft := List.find?_some hf
      have hfr : regOf all f ∈ regsOf all := by
        unfold regsOf
        refine List.mem_map.2 ⟨f, List.mem_filter.2 ⟨fm, ?_⟩, rfl⟩
        unfold inR at ft
        simp at ft
        simpa using ft.1
      have hu := uniq (regOf all f) (hp.mem_iff.2 hfr) (by unfold inR at ft; simp at ft; exact ft.2.1) (by unfold inR at ft; simp at ft; exact ft.2.2)
      have hb0 := (hb r (hp.mem_iff.1 hr)).2.1
      show pieceOf all (q : Nat) f = _
      rw [← hu] at hb0 h1 ⊢
      unfold pieceOf unitAt regOf
      unfold regOf at hb0 h1
      simp at hb0 h1 ⊢
      omega
  · unfold pieceL
    have : all.find? (inR all (q : Nat)) = none := by
      rw [List.find?_eq_none]
      intro f fm ft
      unfold inR at ft
      simp at ft
      refine hn (regOf all f) (hp.mem_iff.2 ?_) ⟨ft.2.1, ft.2.2⟩
      unfold regsOf
      exact List.mem_map.2 ⟨f, List.mem_filter.2 ⟨fm, by simpa using ft.1⟩, rfl⟩
    rw [this]
end Go.Proofs.Ytnmhkgmmpkjjeab
