import Derived.WalkKit
import Derived.ProofKit
import Derived.Below
import Derived.Test.YtnmhkgmmpkjjeacGreatG08
namespace Go.Proofs.YtnmhkgmmpkjjeacGreat
open Go.ChangeShapes Go.WideShapes Go.ChangeAt Go.RowKit
theorem hidOf {p : Prop} (h : p) : Hid p := h
end Go.Proofs.YtnmhkgmmpkjjeacGreat
namespace Go.Proofs.YtnmhkgmmpkjjeacGreat

/-! What a list of spans says of a page. -/
structure Ht where
  k : Int
  o : Int
  p : Int
  s : Int
def zHt : Ht := ⟨0, 0, 0, 0⟩
def inS (e : SpanE) (page : Int) : Bool := decide (e.page ≤ page ∧ page < e.page + e.count)
def bigB (e : SpanE) (page : Int) : Bool := e.huge && decide (e.page ≤ page - page % 16 ∧ page - page % 16 + 16 ≤ e.page + e.count ∧ (e.out + (page - page % 16) - e.page) % 16 = 0)
def hitS (e : SpanE) (page : Int) : Ht := ⟨1, e.out + page - e.page, e.perm, if bigB e page then 16 else 1⟩
def atL (xs : List SpanE) (page : Int) : Ht := match xs.find? (fun e => inS e page) with
  | some e => hitS e page
  | none => zHt
theorem find_hit (page : Int) : ∀ (xs : List SpanE) (k : Nat), k < xs.length → (∀ j, j < k → inS (eAt eSpan xs j) page = false) → inS (eAt eSpan xs k) page = true → xs.find? (fun e => inS e page) = some (eAt eSpan xs k)
  | [], k, hk, _, _ => absurd hk (by simp)
  | x :: r, 0, _, _, h => by
    have h' : inS x page = true := h
    rw [List.find?_cons_of_pos (by exact h')]
    rfl
  | x :: r, k + 1, hk, hn, h => by
    have h0 : inS x page = false := hn 0 (by omega)
    rw [List.find?_cons_of_neg (by rw [h0]; decide)]
    exact find_hit page r k (by simpa using hk) (fun j hj => hn (j + 1) (by omega)) h
theorem at_hit (page : Int) (xs : List SpanE) (k : Nat) (hk : k < xs.length) (hn : ∀ j, j < k → inS (eAt eSpan xs j) page = false) (h : inS (eAt eSpan xs k) page = true) : atL xs page = hitS (eAt eSpan xs k) page := by
  unfold atL
  rw [find_hit page xs k hk hn h]
theorem at_none (page : Int) (xs : List SpanE) (hn : ∀ j, j < xs.length → inS (eAt eSpan xs j) page = false) : atL xs page = zHt := by
  have : xs.find? (fun e => inS e page) = none := by
    rw [List.find?_eq_none]
    intro e he
    obtain ⟨i, hi, rfl⟩ := List.getElem_of_mem he
    have := hn i hi
    unfold eAt at this
    rw [List.getD_eq_getElem?_getD, List.getElem?_eq_getElem hi] at this
    have h2 : inS xs[i] page = false := this
    rw [h2]; decide
  unfold atL
  rw [this]
theorem VS.order {xs : List SpanE} (h : VS xs) (i : Nat) : ∀ d, i + d + 1 < xs.length → (eAt eSpan xs i).page + (eAt eSpan xs i).count ≤ (eAt eSpan xs (i + d + 1)).page
  | 0, hd => by
    have := h.2 i hd
    unfold pairOk at this
    simp only [Bool.and_eq_true, decide_eq_true_eq] at this
    exact this.1
  | d + 1, hd => by
    have h1 := VS.order h i d (by omega)
    have h2 := h.2 (i + d + 1) hd
    unfold pairOk at h2
    simp only [Bool.and_eq_true, decide_eq_true_eq] at h2
    have h3 := spanOk_iff.1 (h.1 (i + d + 1) (by omega))
    have h4 := h2.1
    have e : i + (d + 1) + 1 = i + d + 1 + 1 := by omega
    rw [e]
    omega
theorem VS.lt {xs : List SpanE} (h : VS xs) (i j : Nat) (hij : i < j) (hj : j < xs.length) : (eAt eSpan xs i).page + (eAt eSpan xs i).count ≤ (eAt eSpan xs j).page := by
  have := h.order i (j - i - 1) (by omega)
  rwa [show i + (j - i - 1) + 1 = j by omega] at this
/-- The page lies before the end of span i. -/
def endAft (xs : List SpanE) (page : Int) (i : Nat) : Bool := decide (page < (eAt eSpan xs i).page + (eAt eSpan xs i).count)
theorem endAft_mono {xs : List SpanE} (h : VS xs) (page : Int) (a b : Nat) (hab : a ≤ b) (hb : b < xs.length) (ha : endAft xs page a = true) : endAft xs page b = true := by
  by_cases e : a = b
  · rw [← e]; exact ha
  · have h1 := h.lt a b (by omega) hb
    have h2 := spanOk_iff.1 (h.1 b hb)
    unfold endAft at ha ⊢
    simp only [decide_eq_true_eq] at ha ⊢
    omega
theorem at_search_none {xs : List SpanE} (h : VS xs) (page : Int) (r : Nat) (h1 : ∀ t, t < r → endAft xs page t = false) (h2 : r = xs.length ∨ (r < xs.length ∧ endAft xs page r = true ∧ page < (eAt eSpan xs r).page)) : atL xs page = zHt := by
  refine at_none page xs (fun j hj => ?_)
  unfold inS
  rw [decide_eq_false_iff_not]
  by_cases hjr : j < r
  · have := h1 j hjr
    unfold endAft at this
    simp only [decide_eq_false_iff_not] at this
    omega
  · rcases h2 with e | ⟨hr, he, hp⟩
    · omega
    · by_cases e : j = r
      · rw [e]; omega
      · have h3 := h.lt r j (by omega) hj
        have h4 := spanOk_iff.1 (h.1 r hr)
        omega
theorem at_search_hit {xs : List SpanE} (page : Int) (r : Nat) (hr : r < xs.length) (h1 : ∀ t, t < r → endAft xs page t = false) (he : endAft xs page r = true) (hp : (eAt eSpan xs r).page ≤ page) : atL xs page = hitS (eAt eSpan xs r) page := by
  refine at_hit page xs r hr (fun j hj => ?_) ?_
  · have := h1 j hj
    unfold endAft at this
    simp only [decide_eq_false_iff_not] at this
    unfold inS
    rw [decide_eq_false_iff_not]
    omega
  · unfold endAft at he
    unfold inS
    simp only [decide_eq_true_eq] at he ⊢
    exact ⟨hp, he⟩
def atA (xs : List SpanE) (page : Int) : Ht := if vsB xs = true ∧ 0 ≤ page ∧ page < 4096 then atL xs page else zHt
end Go.Proofs.YtnmhkgmmpkjjeacGreat
namespace Go.Proofs.YtnmhkgmmpkjjeacGreat
set_option linter.unusedVariables false

/-! Which tables a layout needs, and in what order they are told. -/
def hB (H : Nat → Ht) (lv p : Nat) : Bool := decide ((H p).k = 1 ∧ (lv ≠ 3 ∨ (H p).s = 1))
def tpg (lv : Nat) : Nat := if lv = 1 then 4096 else if lv = 2 then 256 else 16
def epg (lv : Nat) : Nat := if lv = 1 then 256 else if lv = 2 then 16 else 1
def nd (H : Nat → Ht) (lv p : Nat) : Bool := decide (lv = 1) || (List.range (tpg lv)).any (fun k => hB H lv (p + k))
theorem nd_one (H : Nat → Ht) (p : Nat) : nd H 1 p = true := by unfold nd; rfl
theorem nd_hit {H : Nat → Ht} {lv p k : Nat} (hk : k < tpg lv) (h : hB H lv (p + k) = true) : nd H lv p = true := by
  unfold nd
  rw [Bool.or_eq_true]
  exact .inr (List.any_eq_true.2 ⟨k, List.mem_range.2 hk, h⟩)
theorem nd_none {H : Nat → Ht} {lv p : Nat} (hl : lv ≠ 1) (h : ∀ k, k < tpg lv → hB H lv (p + k) = false) : nd H lv p = false := by
  unfold nd
  rw [Bool.or_eq_false_iff]
  refine ⟨decide_eq_false hl, ?_⟩
  rw [List.any_eq_false]
  intro k hk
  rw [h k (List.mem_range.1 hk)]; decide
theorem nd_ex {H : Nat → Ht} {lv p : Nat} (hl : lv ≠ 1) (h : nd H lv p = true) : ∃ k, k < tpg lv ∧ hB H lv (p + k) = true := by
  unfold nd at h
  rw [Bool.or_eq_true] at h
  rcases h with h | h
  · exact absurd (of_decide_eq_true h) hl
  · obtain ⟨k, hk, h⟩ := List.any_eq_true.1 h
    exact ⟨k, List.mem_range.1 hk, h⟩
theorem nd_up {H : Nat → Ht} {p j : Nat} (hj : j < 16) (h : nd H 3 (p + j * 16) = true) : nd H 2 p = true := by
  obtain ⟨k, hk, hb⟩ := nd_ex (by decide) h
  have hk' : k < 16 := hk
  refine nd_hit (k := j * 16 + k) (show j * 16 + k < 256 by omega) ?_
  unfold hB at hb ⊢
  simp only [decide_eq_true_eq] at hb ⊢
  rw [← Nat.add_assoc]
  exact ⟨hb.1, .inl (by decide)⟩
/-- The seats from the one at level 3 - f and the page down. -/
def st (H : Nat → Ht) : Nat → Nat → List (Nat × Nat)
  | 0, p => if nd H 3 p then [(3, p)] else []
  | f + 1, p => if nd H (2 - f) p then (2 - f, p) :: (List.range 16).flatMap (fun i => st H f (p + i * epg (2 - f))) else []
theorem st_zero (H : Nat → Ht) (p : Nat) : st H 0 p = if nd H 3 p = true then [(3, p)] else [] := by unfold st; rfl
def wOne (H : Nat → Ht) (g : Nat) : List (Nat × Nat) := (if g % 16 = 0 ∧ nd H 2 (g * 16) = true then [(2, g * 16)] else []) ++ st H 0 (g * 16)
def wPre (H : Nat → Ht) (g : Nat) : List (Nat × Nat) := (1, 0) :: (List.range g).flatMap (wOne H)
theorem wPre_succ (H : Nat → Ht) (g : Nat) : wPre H (g + 1) = wPre H g ++ wOne H g := by
  unfold wPre
  rw [List.range_succ, List.flatMap_append]
  simp
theorem st0_len (H : Nat → Ht) (p : Nat) : (st H 0 p).length ≤ 1 := by unfold st; split <;> simp
theorem wOne_len (H : Nat → Ht) (g : Nat) : (wOne H g).length ≤ 2 := by
  unfold wOne
  rw [List.length_append]
  have := st0_len H (g * 16)
  split <;> simp <;> omega
theorem wPre_len (H : Nat → Ht) : ∀ g, (wPre H g).length ≤ 1 + g * 2
  | 0 => by simp [wPre]
  | g + 1 => by
    rw [wPre_succ, List.length_append]
    have := wPre_len H g
    have := wOne_len H g
    omega
theorem flat16 {α : Type} (f : Nat → List α) : ∀ n, (List.range (n * 16)).flatMap f = (List.range n).flatMap (fun i => (List.range 16).flatMap (fun j => f (i * 16 + j)))
  | 0 => by simp
  | n + 1 => by
    rw [Nat.add_mul, Nat.one_mul, List.range_add, List.flatMap_append, flat16 f n, @List.range_succ n, List.flatMap_append, List.flatMap_map]
    simp
theorem flat_congr {α : Type} {f g : Nat → List α} {n : Nat} (h : ∀ i, i < n → f i = g i) : (List.range n).flatMap f = (List.range n).flatMap g := by
  induction n with
  | zero => rfl
  | succ n ih => rw [List.range_succ, List.flatMap_append, List.flatMap_append, ih (fun i hi => h i (by omega))]; simp [h n (by omega)]
theorem st1_eq (H : Nat → Ht) (i : Nat) : st H 1 (i * 256) = (List.range 16).flatMap (fun j => wOne H (i * 16 + j)) := by
  have e1 : st H 1 (i * 256) = if nd H 2 (i * 256) then (2, i * 256) :: (List.range 16).flatMap (fun j => st H 0 (i * 256 + j * 16)) else [] := rfl
  rw [e1]
  cases h2 : nd H 2 (i * 256)
  · symm
    rw [if_neg (by decide)]
    have : (List.range 16).flatMap (fun j => wOne H (i * 16 + j)) = (List.range 16).flatMap (fun _ => ([] : List (Nat × Nat))) := by
      refine flat_congr (fun j hj => ?_)
      unfold wOne
      have n3 : nd H 3 ((i * 16 + j) * 16) = false := by
        cases h3 : nd H 3 ((i * 16 + j) * 16)
        · rfl
        · rw [show (i * 16 + j) * 16 = i * 256 + j * 16 by omega] at h3
          rw [nd_up hj h3] at h2
          cases h2
      rw [if_neg (by
        rintro ⟨hm, hn⟩
        have : j = 0 := by omega
        subst this
        rw [show (i * 16 + 0) * 16 = i * 256 by omega, h2] at hn
        cases hn)]
      unfold st
      rw [n3]
      rfl
    rw [this]
    simp
  · rw [if_pos (by rfl)]
    have e2 : (2, i * 256) :: (List.range 16).flatMap (fun j => st H 0 (i * 256 + j * 16)) = (List.range 16).flatMap (fun j => (if j = 0 then [(2, i * 256)] else []) ++ st H 0 (i * 256 + j * 16)) := by
      rw [show (16 : Nat) = 15 + 1 from rfl, List.range_succ_eq_map, List.flatMap_cons, List.flatMap_cons, List.flatMap_map, List.flatMap_map]
      simp
    rw [e2]
    refine flat_congr (fun j hj => ?_)
    unfold wOne
    rw [show (i * 16 + j) * 16 = i * 256 + j * 16 by omega]
    by_cases hj0 : j = 0
    · subst hj0
      rw [if_pos rfl, if_pos ⟨by omega, by simpa using h2⟩]
      simp
    · rw [if_neg hj0, if_neg (fun h => hj0 (by omega))]
/-- All seats, told either way. -/
theorem seats_eq (H : Nat → Ht) : st H 2 0 = wPre H 256 := by
  have e1 : st H 2 0 = if nd H 1 0 then (1, 0) :: (List.range 16).flatMap (fun i => st H 1 (0 + i * 256)) else [] := rfl
  rw [e1, nd_one, if_pos rfl]
  unfold wPre
  rw [show (256 : Nat) = 16 * 16 from rfl, flat16]
  congr 1
  refine flat_congr (fun i hi => ?_)
  rw [← st1_eq, Nat.zero_add]
theorem st_len (H : Nat → Ht) : (st H 2 0).length ≤ 513 := by
  rw [seats_eq]
  have := wPre_len H 256
  omega
/-- A part of the seats is no longer than all. -/
theorem st_len1 (H : Nat → Ht) (p : Nat) : (st H 1 p).length ≤ 17 := by
  have e1 : st H 1 p = if nd H 2 p then (2, p) :: (List.range 16).flatMap (fun j => st H 0 (p + j * 16)) else [] := rfl
  have hl : ∀ n, ((List.range n).flatMap (fun j => st H 0 (p + j * 16))).length ≤ n := by
    intro n
    induction n with
    | zero => simp
    | succ n ih =>
      rw [List.range_succ, List.flatMap_append, List.length_append]
      have := st0_len H (p + n * 16)
      simp at ih ⊢
      omega
  rw [e1]
  split
  · have := hl 16
    rw [List.length_cons]
    omega
  · simp
end Go.Proofs.YtnmhkgmmpkjjeacGreat
