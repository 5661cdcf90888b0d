import Derived.Test.YtnmhkgmmpkjjeacGreatG09
import Derived.Test.YtnmhkgmmpkjjeacGreatG03
namespace Go.Proofs.YtnmhkgmmpkjjeacGreat
set_option linter.unusedVariables false

/-! Plans: tables that are kept, retired and new, and their frames. -/
def ndP (H : Nat → Ht) (p : P3) : Bool := nd H p.lv.toNat p.pg.toNat
def sameS (lv pg : Int) (q : P3) : Bool := decide (q.lv = lv ∧ q.pg = pg)
def frOf (qs : List P3) (lv pg : Int) : Int := match qs.find? (sameS lv pg) with
  | some q => q.fr
  | none => -1
def hasFr (qs : List P3) (f : Int) : Bool := qs.any fun q => decide (q.fr = f)
theorem hasFr_iff {qs : List P3} {f : Int} : hasFr qs f = true ↔ ∃ q ∈ qs, q.fr = f := by
  unfold hasFr
  rw [List.any_eq_true]
  exact ⟨fun ⟨q, h, e⟩ => ⟨q, h, of_decide_eq_true e⟩, fun ⟨q, h, e⟩ => ⟨q, h, decide_eq_true e⟩⟩
theorem hasFr_append (a b : List P3) (f : Int) : hasFr (a ++ b) f = (hasFr a f || hasFr b f) := by unfold hasFr; rw [List.any_append]
/-- So many numbers in a list: it is so long. -/
theorem len_of_has : ∀ (f : Nat) (L : List Int), (∀ g : Nat, g < f → (g : Int) ∈ L) → f ≤ L.length
  | 0, L, _ => Nat.zero_le _
  | f + 1, L, h => by
    have h1 : (f : Int) ∈ L := h f (by omega)
    have := len_of_has f (L.erase (f : Int)) (fun g hg => (List.mem_erase_of_ne (by omega)).2 (h g (by omega)))
    rw [List.length_erase_of_mem h1] at this
    have hp : 0 < L.length := List.length_pos_of_mem h1
    omega
theorem low_le {qs : List P3} {f : Nat} (h : ∀ g : Nat, g < f → hasFr qs g = true) : f ≤ qs.length := by
  have := len_of_has f (qs.map (·.fr)) (fun g hg => by
    obtain ⟨q, hq, e⟩ := hasFr_iff.1 (h g hg)
    exact List.mem_map.2 ⟨q, hq, e⟩)
  rwa [List.length_map] at this
/-- The lowest frame that no place has. -/
def lowF (qs : List P3) : Nat := ((List.range (qs.length + 1)).find? (fun f => !hasFr qs (f : Nat))).getD 0
theorem find_range_first {p : Nat → Bool} : ∀ {n f : Nat}, f < n → (∀ g, g < f → p g = false) → p f = true → (List.range n).find? p = some f
  | n, f, hf, h1, h2 => by
    have e : n = f + ((n - f - 1) + 1) := by omega
    rw [e, List.range_add, List.find?_append, List.range_succ_eq_map, List.map_cons, List.find?_cons_of_pos (by simpa using h2)]
    have : (List.range f).find? p = none := by
      rw [List.find?_eq_none]
      intro x hx
      rw [h1 x (List.mem_range.1 hx)]; decide
    rw [this]
    rfl
theorem lowF_eq {qs : List P3} {f : Nat} (h1 : ∀ g : Nat, g < f → hasFr qs g = true) (h2 : hasFr qs f = false) : lowF qs = f := by
  unfold lowF
  rw [find_range_first (f := f) (by have := low_le h1; omega) (fun g hg => by rw [h1 g hg]; rfl) (by rw [h2]; rfl)]
  rfl
theorem lowF_ex (qs : List P3) : ∃ f : Nat, f ≤ qs.length ∧ (∀ g : Nat, g < f → hasFr qs g = true) ∧ hasFr qs f = false := by
  by_cases h : ∃ f : Nat, hasFr qs f = false
  · obtain ⟨f, hf⟩ := h
    have : ∀ n f : Nat, f ≤ n → hasFr qs f = false → ∃ f : Nat, (∀ g : Nat, g < f → hasFr qs g = true) ∧ hasFr qs f = false := by
      intro n
      induction n with
      | zero => intro f h0 h1; exact ⟨f, fun g hg => absurd hg (by omega), h1⟩
      | succ n ih =>
        intro f h0 h1
        by_cases hh : ∃ g : Nat, g < f ∧ hasFr qs g = false
        · obtain ⟨g, hg, hg2⟩ := hh
          exact ih g (by omega) hg2
        · refine ⟨f, fun g hg => ?_, h1⟩
          cases hc : hasFr qs g
          · exact absurd ⟨g, hg, hc⟩ hh
          · rfl
    obtain ⟨f, h1, h2⟩ := this f f (Nat.le_refl _) hf
    exact ⟨f, low_le h1, h1, h2⟩
  · have : qs.length + 1 ≤ qs.length := low_le (fun g _ => by
      cases hc : hasFr qs g
      · exact absurd ⟨g, hc⟩ h
      · rfl)
    omega
theorem lowF_spec (qs : List P3) : lowF qs ≤ qs.length ∧ (∀ g : Nat, g < lowF qs → hasFr qs g = true) ∧ hasFr qs (lowF qs : Nat) = false := by
  obtain ⟨f, h0, h1, h2⟩ := lowF_ex qs
  rw [lowF_eq h1 h2]
  exact ⟨h0, h1, h2⟩
/-- The new tables for the seats, one after the other. -/
def frStep (kept fs : List P3) (s : Nat × Nat) : List P3 := if frOf kept s.1 s.2 < 0 then fs ++ [⟨(lowF (kept ++ fs) : Nat), s.1, s.2⟩] else fs
def frTo (kept : List P3) (ws : List (Nat × Nat)) (k : Nat) : List P3 := (ws.take k).foldl (frStep kept) []
theorem frTo_zero (kept : List P3) (ws : List (Nat × Nat)) : frTo kept ws 0 = [] := by unfold frTo; simp
theorem frTo_succ (kept : List P3) (ws : List (Nat × Nat)) (k : Nat) (h : k < ws.length) : frTo kept ws (k + 1) = frStep kept (frTo kept ws k) ws[k] := by
  unfold frTo
  rw [List.take_succ_eq_append_getElem h, List.foldl_append]
  rfl
theorem frTo_len (kept : List P3) (ws : List (Nat × Nat)) : ∀ k, k ≤ ws.length → (frTo kept ws k).length ≤ k
  | 0, _ => by rw [frTo_zero]; simp
  | k + 1, h => by
    have := frTo_len kept ws k (by omega)
    rw [frTo_succ kept ws k (by omega)]
    unfold frStep
    split <;> simp <;> omega
theorem frOf_neg {qs : List P3} {lv pg : Int} (h : ∀ q ∈ qs, ¬ (q.lv = lv ∧ q.pg = pg)) : frOf qs lv pg = -1 := by
  unfold frOf
  have : qs.find? (sameS lv pg) = none := by
    rw [List.find?_eq_none]
    intro q hq
    unfold sameS
    rw [decide_eq_false (h q hq)]; decide
  rw [this]
theorem frOf_mem {qs : List P3} {lv pg : Int} (h : 0 ≤ frOf qs lv pg) : ∃ q ∈ qs, q.lv = lv ∧ q.pg = pg ∧ q.fr = frOf qs lv pg := by
  unfold frOf at h ⊢
  cases hf : qs.find? (sameS lv pg) with
  | none => rw [hf] at h; simp at h
  | some q =>
    have := List.find?_some hf
    unfold sameS at this
    have h2 := of_decide_eq_true this
    exact ⟨q, List.mem_of_find?_eq_some hf, h2.1, h2.2, rfl⟩
theorem frOf_append {a b : List P3} {lv pg : Int} : frOf (a ++ b) lv pg = if (a.find? (sameS lv pg)).isSome then frOf a lv pg else frOf b lv pg := by
  unfold frOf
  rw [List.find?_append]
  cases a.find? (sameS lv pg) <;> rfl
end Go.Proofs.YtnmhkgmmpkjjeacGreat
namespace Go.Proofs.YtnmhkgmmpkjjeacGreat
set_option linter.unusedVariables false

/-! The entries of the kept tables, in order. -/
structure En where
  lv : Int
  pg : Int
  ad : Int
def enOf (t : P3) (i : Nat) : En := ⟨t.lv, t.pg + i * cov t.lv, t.fr * 16 + i⟩
def enUnd (kept : List P3) (t : P3) (i : Nat) : P3 := ⟨frOf kept (t.lv + 1) (t.pg + i * cov t.lv), t.lv + 1, t.pg + i * cov t.lv⟩
def enV (kept : List P3) : Nat → P3 → List En
  | 0, _ => []
  | f + 1, t => (List.range 16).flatMap fun i => enOf t i :: (if 0 ≤ (enUnd kept t i).fr then enV kept f (enUnd kept t i) else [])
def eOne (kept : List P3) (page lv : Nat) : List En := if page % epg lv = 0 ∧ 0 ≤ frOf kept lv (page - page % (epg lv * 16) : Nat) then [⟨lv, page, frOf kept lv (page - page % (epg lv * 16) : Nat) * 16 + (page / epg lv % 16 : Nat)⟩] else []
def eAll (kept : List P3) (page : Nat) : List En := eOne kept page 1 ++ (eOne kept page 2 ++ eOne kept page 3)
def enTo (kept : List P3) (n : Nat) : List En := (List.range n).flatMap (eAll kept)
theorem enTo_succ (kept : List P3) (n : Nat) : enTo kept (n + 1) = enTo kept n ++ eAll kept n := by
  unfold enTo
  rw [List.range_succ, List.flatMap_append]
  simp
theorem eOne_len (kept : List P3) (page lv : Nat) : (eOne kept page lv).length ≤ 1 := by unfold eOne; split <;> simp
theorem enTo_len (kept : List P3) : ∀ n, (enTo kept n).length ≤ n * 3
  | 0 => by simp [enTo]
  | n + 1 => by
    rw [enTo_succ, List.length_append]
    have := enTo_len kept n
    have h1 := eOne_len kept n 1
    have h2 := eOne_len kept n 2
    have h3 := eOne_len kept n 3
    unfold eAll
    rw [List.length_append, List.length_append]
    omega
theorem pull {α : Type} (A : List α) (f : Nat → List α) : (List.range 16).flatMap (fun j => (if j = 0 then A else []) ++ f j) = A ++ (List.range 16).flatMap f := by
  rw [show (16 : Nat) = 15 + 1 from rfl, List.range_succ_eq_map, List.flatMap_cons, List.flatMap_cons, List.flatMap_map, List.flatMap_map]
  simp
/-- What is known of the kept tables. -/
structure KeptOk (kept : List P3) : Prop where
  root : frOf kept 1 0 = 0
  up : ∀ i j : Nat, j < 16 → 0 ≤ frOf kept 3 (i * 256 + j * 16 : Nat) → 0 ≤ frOf kept 2 (i * 256 : Nat)
  no4 : ∀ p : Int, frOf kept 4 p < 0
theorem eAll3 (kept : List P3) (i j : Nat) (hj : j < 16) : (List.range 16).flatMap (fun k => eOne kept ((i * 16 + j) * 16 + k) 3) = if 0 ≤ frOf kept 3 ((i * 16 + j) * 16 : Nat) then (List.range 16).flatMap (fun k => [(⟨3, ((i * 16 + j) * 16 + k : Nat), frOf kept 3 ((i * 16 + j) * 16 : Nat) * 16 + k⟩ : En)]) else [] := by
  have e : (List.range 16).flatMap (fun k => eOne kept ((i * 16 + j) * 16 + k) 3) = (List.range 16).flatMap (fun k => if 0 ≤ frOf kept 3 ((i * 16 + j) * 16 : Nat) then [(⟨3, ((i * 16 + j) * 16 + k : Nat), frOf kept 3 ((i * 16 + j) * 16 : Nat) * 16 + k⟩ : En)] else []) := by
    refine flat_congr (fun k hk => ?_)
    unfold eOne
    have e1 : epg 3 = 1 := rfl
    have e2 : (i * 16 + j) * 16 + k - ((i * 16 + j) * 16 + k) % (1 * 16) = (i * 16 + j) * 16 := by omega
    have e3 : ((i * 16 + j) * 16 + k) / 1 % 16 = k := by omega
    rw [e1, e2, e3]
    by_cases h : 0 ≤ frOf kept 3 ((i * 16 + j) * 16 : Nat)
    · rw [if_pos ⟨Nat.mod_one _, h⟩, if_pos h]; rfl
    · rw [if_neg (fun hh => h hh.2), if_neg h]
  rw [e]
  split
  · rfl
  · simp
theorem eAll2 (kept : List P3) (i j k : Nat) (hj : j < 16) (hk : k < 16) : eOne kept ((i * 16 + j) * 16 + k) 2 = if k = 0 then (if 0 ≤ frOf kept 2 (i * 256 : Nat) then [(⟨2, (i * 256 + j * 16 : Nat), frOf kept 2 (i * 256 : Nat) * 16 + j⟩ : En)] else []) else [] := by
  unfold eOne
  have e1 : epg 2 = 16 := rfl
  have e2 : (i * 16 + j) * 16 + k - ((i * 16 + j) * 16 + k) % (16 * 16) = i * 256 := by omega
  have e3 : ((i * 16 + j) * 16 + k) / 16 % 16 = j := by omega
  have e4 : ((i * 16 + j) * 16 + k) % 16 = k := by omega
  rw [e1, e2, e3, e4]
  by_cases h0 : k = 0
  · subst h0
    rw [if_pos rfl]
    by_cases h : 0 ≤ frOf kept 2 (i * 256 : Nat)
    · rw [if_pos ⟨rfl, h⟩, if_pos h, show (i * 16 + j) * 16 + 0 = i * 256 + j * 16 by omega]; rfl
    · rw [if_neg (fun hh => h hh.2), if_neg h]
  · rw [if_neg (fun hh => h0 hh.1), if_neg h0]
theorem eAll1 (kept : List P3) (hr : frOf kept 1 0 = 0) (i j k : Nat) (hi : i < 16) (hj : j < 16) (hk : k < 16) : eOne kept ((i * 16 + j) * 16 + k) 1 = if k = 0 then (if j = 0 then [(⟨1, (i * 256 : Nat), i⟩ : En)] else []) else [] := by
  unfold eOne
  have e1 : epg 1 = 256 := rfl
  have e2 : (i * 16 + j) * 16 + k - ((i * 16 + j) * 16 + k) % (256 * 16) = 0 := by omega
  have e3 : ((i * 16 + j) * 16 + k) / 256 % 16 = i := by omega
  have hr' : frOf kept ((1 : Nat) : Int) ((0 : Nat) : Int) = 0 := hr
  rw [e1, e2, e3, hr']
  by_cases h : k = 0 ∧ j = 0
  · obtain ⟨rfl, rfl⟩ := h
    rw [if_pos ⟨by omega, by omega⟩, if_pos rfl, if_pos rfl, show (i * 16 + 0) * 16 + 0 = i * 256 by omega]
    simp
  · rw [if_neg (fun hh => h (by omega))]
    by_cases h0 : k = 0
    · rw [if_pos h0, if_neg (fun hh => h ⟨h0, hh⟩)]
    · rw [if_neg h0]
theorem enV3 (kept : List P3) (hk : KeptOk kept) (f : Int) (p : Nat) : enV kept 1 ⟨f, 3, p⟩ = (List.range 16).flatMap (fun k => [(⟨3, (p + k : Nat), f * 16 + k⟩ : En)]) := by
  have e : enV kept 1 ⟨f, 3, p⟩ = (List.range 16).flatMap fun i => enOf ⟨f, 3, p⟩ i :: (if 0 ≤ (enUnd kept ⟨f, 3, p⟩ i).fr then enV kept 0 (enUnd kept ⟨f, 3, p⟩ i) else []) := rfl
  rw [e]
  refine flat_congr (fun i hi => ?_)
  have h4 : ¬ 0 ≤ (enUnd kept ⟨f, 3, p⟩ i).fr := by
    have := hk.no4 (p + i * cov 3)
    show ¬ 0 ≤ frOf kept (3 + 1) (p + i * cov 3)
    have e : (3 + 1 : Int) = 4 := rfl
    rw [e]
    omega
  rw [if_neg h4]
  unfold enOf
  have : cov 3 = 1 := rfl
  simp [this]
theorem enV2 (kept : List P3) (hk : KeptOk kept) (f : Int) (p : Nat) : enV kept 2 ⟨f, 2, p⟩ = (List.range 16).flatMap (fun j => ⟨2, (p + j * 16 : Nat), f * 16 + j⟩ :: (if 0 ≤ frOf kept 3 (p + j * 16 : Nat) then (List.range 16).flatMap (fun k => [(⟨3, (p + j * 16 + k : Nat), frOf kept 3 (p + j * 16 : Nat) * 16 + k⟩ : En)]) else [])) := by
  have e : enV kept 2 ⟨f, 2, p⟩ = (List.range 16).flatMap fun i => enOf ⟨f, 2, p⟩ i :: (if 0 ≤ (enUnd kept ⟨f, 2, p⟩ i).fr then enV kept 1 (enUnd kept ⟨f, 2, p⟩ i) else []) := rfl
  rw [e]
  refine flat_congr (fun j hj => ?_)
  have c2 : cov 2 = 16 := rfl
  have ep : (p : Int) + j * cov 2 = ((p + j * 16 : Nat) : Int) := by rw [c2]; omega
  have eu : enUnd kept ⟨f, 2, p⟩ j = ⟨frOf kept 3 (p + j * 16 : Nat), 3, (p + j * 16 : Nat)⟩ := by
    unfold enUnd
    dsimp only
    rw [ep]
    rfl
  have eo : enOf ⟨f, 2, p⟩ j = ⟨2, (p + j * 16 : Nat), f * 16 + j⟩ := by unfold enOf; dsimp only; rw [ep]
  rw [eu, eo, enV3 kept hk]
/-- The entries, told either way. -/
theorem entries_eq (kept : List P3) (hk : KeptOk kept) : enV kept 3 ⟨0, 1, 0⟩ = enTo kept 4096 := by
  have e : enV kept 3 ⟨0, 1, 0⟩ = (List.range 16).flatMap fun i => enOf ⟨0, 1, 0⟩ i :: (if 0 ≤ (enUnd kept ⟨0, 1, 0⟩ i).fr then enV kept 2 (enUnd kept ⟨0, 1, 0⟩ i) else []) := rfl
  rw [e]
  unfold enTo
  rw [show (4096 : Nat) = 256 * 16 from rfl, flat16, show (256 : Nat) = 16 * 16 from rfl, flat16]
  refine flat_congr (fun i hi => ?_)
  have c1 : cov 1 = 256 := rfl
  have ep : (0 : Int) + i * cov 1 = ((i * 256 : Nat) : Int) := by rw [c1]; omega
  have eu : enUnd kept ⟨0, 1, 0⟩ i = ⟨frOf kept 2 (i * 256 : Nat), 2, (i * 256 : Nat)⟩ := by
    unfold enUnd
    dsimp only
    rw [ep]
    rfl
  have eo : enOf ⟨0, 1, 0⟩ i = ⟨1, (i * 256 : Nat), i⟩ := by unfold enOf; dsimp only; rw [ep]; simp
  rw [eu, eo, enV2 kept hk]
  have hroot := hk.root
  have step : ∀ j, j < 16 → (List.range 16).flatMap (fun k => eAll kept ((i * 16 + j) * 16 + k)) = (if j = 0 then [(⟨1, (i * 256 : Nat), i⟩ : En)] else []) ++ ((if 0 ≤ frOf kept 2 (i * 256 : Nat) then [(⟨2, (i * 256 + j * 16 : Nat), frOf kept 2 (i * 256 : Nat) * 16 + j⟩ : En)] else []) ++ (List.range 16).flatMap (fun k => eOne kept ((i * 16 + j) * 16 + k) 3)) := by
    intro j hj
    rw [← pull, ← pull]
    refine flat_congr (fun k hk => ?_)
    unfold eAll
    rw [eAll1 kept hroot i j k hi hj hk, eAll2 kept i j k hj hk]
  rw [flat_congr step, pull]
  rw [List.singleton_append]
  congr 1
  by_cases h2 : 0 ≤ frOf kept 2 (i * 256 : Nat)
  · rw [if_pos h2]
    refine flat_congr (fun j hj => ?_)
    rw [if_pos h2, eAll3 kept i j hj, List.singleton_append, show (i * 16 + j) * 16 = i * 256 + j * 16 by omega]
  · rw [if_neg h2]
    have : (List.range 16).flatMap (fun j => (if 0 ≤ frOf kept 2 (i * 256 : Nat) then [(⟨2, (i * 256 + j * 16 : Nat), frOf kept 2 (i * 256 : Nat) * 16 + j⟩ : En)] else []) ++ (List.range 16).flatMap (fun k => eOne kept ((i * 16 + j) * 16 + k) 3)) = (List.range 16).flatMap (fun _ => ([] : List En)) := by
      refine flat_congr (fun j hj => ?_)
      rw [if_neg h2, eAll3 kept i j hj, if_neg (fun h3 => h2 (hk.up i j hj (by rw [show i * 256 + j * 16 = (i * 16 + j) * 16 by omega]; exact h3)))]
      rfl
    rw [this]
    simp
end Go.Proofs.YtnmhkgmmpkjjeacGreat
