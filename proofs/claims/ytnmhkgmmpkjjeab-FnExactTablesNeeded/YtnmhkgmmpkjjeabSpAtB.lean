import Derived.Test.YtnmhkgmmpkjjeabSpB
namespace Go.Proofs.Ytnmhkgmmpkjjeab

/-! What a list of spans says of a page. -/
structure Ht where
  k : Int
  o : Int
  p : Int
  s : Int
def zHt : Ht := ⟨0, 0, 0, 0⟩
def inS (e : SpanE) (page : Int) : Bool := decide (e.page ≤ page ∧ page < e.page + e.count)
def bigB (e : SpanE) (page : Int) : Bool := e.huge && decide (e.page ≤ page - page % 16 ∧ page - page % 16 + 16 ≤ e.page + e.count ∧ (e.out + (page - page % 16) - e.page) % 16 = 0)
def hitS (e : SpanE) (page : Int) : Ht := ⟨1, e.out + page - e.page, e.perm, if bigB e page then 16 else 1⟩
def atL (xs : List SpanE) (page : Int) : Ht := match xs.find? (fun e => inS e page) with
  | some e => hitS e page
  | none => zHt
theorem find_hit (page : Int) : ∀ (xs : List SpanE) (k : Nat), k < xs.length → (∀ j, j < k → inS (eAt eSpan xs j) page = false) → inS (eAt eSpan xs k) page = true → xs.find? (fun e => inS e page) = some (eAt eSpan xs k)
  | [], k, hk, _, _ => absurd hk (by simp)
  | x :: r, 0, _, _, h => by
    have h' : inS x page = true := h
    rw [List.find?_cons_of_pos (by exact h')]
    rfl
  | x :: r, k + 1, hk, hn, h => by
    have h0 : inS x page = false := hn 0 (by omega)
    rw [List.find?_cons_of_neg (by rw [h0]; decide)]
    exact find_hit page r k (by simpa using hk) (fun j hj => hn (j + 1) (by omega)) h
theorem at_hit (page : Int) (xs : List SpanE) (k : Nat) (hk : k < xs.length) (hn : ∀ j, j < k → inS (eAt eSpan xs j) page = false) (h : inS (eAt eSpan xs k) page = true) : atL xs page = hitS (eAt eSpan xs k) page := by
  unfold atL
  rw [find_hit page xs k hk hn h]
theorem at_none (page : Int) (xs : List SpanE) (hn : ∀ j, j < xs.length → inS (eAt eSpan xs j) page = false) : atL xs page = zHt := by
  have : xs.find? (fun e => inS e page) = none := by
    rw [List.find?_eq_none]
    intro e he
    obtain ⟨i, hi, rfl⟩ := List.getElem_of_mem he
    have := hn i hi
    unfold eAt at this
    rw [List.getD_eq_getElem?_getD, List.getElem?_eq_getElem hi] at this
    have h2 : inS xs[i] page = false := this
    rw [h2]; decide
  unfold atL
  rw [this]
theorem VS.order {xs : List SpanE} (h : VS xs) (i : Nat) : ∀ d, i + d + 1 < xs.length → (eAt eSpan xs i).page + (eAt eSpan xs i).count ≤ (eAt eSpan xs (i + d + 1)).page
  | 0, hd => by
    have := h.2 i hd
    unfold pairOk at this
    simp only [Bool.and_eq_true, decide_eq_true_eq] at this
    exact this.1
  | d + 1, hd => by
    have h1 := VS.order h i d (by omega)
    have h2 := h.2 (i + d + 1) hd
    unfold pairOk at h2
    simp only [Bool.and_eq_true, decide_eq_true_eq] at h2
    have h3 := spanOk_iff.1 (h.1 (i + d + 1) (by omega))
    have h4 := h2.1
    have e : i + (d + 1) + 1 = i + d + 1 + 1 := by omega
    rw [e]
    omega
theorem VS.lt {xs : List SpanE} (h : VS xs) (i j : Nat) (hij : i < j) (hj : j < xs.length) : (eAt eSpan xs i).page + (eAt eSpan xs i).count ≤ (eAt eSpan xs j).page := by
  have := h.order i (j - i - 1) (by omega)
  rwa [show i + (j - i - 1) + 1 = j by omega] at this
/-- The page lies before the end of span i. -/
def endAft (xs : List SpanE) (page : Int) (i : Nat) : Bool := decide (page < (eAt eSpan xs i).page + (eAt eSpan xs i).count)
theorem endAft_mono {xs : List SpanE} (h : VS xs) (page : Int) (a b : Nat) (hab : a ≤ b) (hb : b < xs.length) (ha : endAft xs page a = true) : endAft xs page b = true := by
  by_cases e : a = b
  · rw [← e]; exact ha
  · have h1 := h.lt a b (by omega) hb
    have h2 := spanOk_iff.1 (h.1 b hb)
    unfold endAft at ha ⊢
    simp only [decide_eq_true_eq] at ha ⊢
    omega
theorem at_search_none {xs : List SpanE} (h : VS xs) (page : Int) (r : Nat) (h1 : ∀ t, t < r → endAft xs page t = false) (h2 : r = xs.length ∨ (r < xs.length ∧ endAft xs page r = true ∧ page < (eAt eSpan xs r).page)) : atL xs page = zHt := by
  refine at_none page xs (fun j hj => ?_)
  unfold inS
  rw [decide_eq_false_iff_not]
  by_cases hjr : j < r
  · have := h1 j hjr
    unfold endAft at this
    simp only [decide_eq_false_iff_not] at this
    omega
  · rcases h2 with e | ⟨hr, he, hp⟩
    · omega
    · by_cases e : j = r
      · rw [e]; omega
      · have h3 := h.lt r j (by omega) hj
        have h4 := spanOk_iff.1 (h.1 r hr)
        omega
theorem at_search_hit {xs : List SpanE} (page : Int) (r : Nat) (hr : r < xs.length) (h1 : ∀ t, t < r → endAft xs page t = false) (he : endAft xs page r = true) (hp : (eAt eSpan xs r).page ≤ page) : atL xs page = hitS (eAt eSpan xs r) page := by
  refine at_hit page xs r hr (fun j hj => ?_) ?_
  · have := h1 j hj
    unfold endAft at this
    simp only [decide_eq_false_iff_not] at this
    unfold inS
    rw [decide_eq_false_iff_not]
    omega
  · unfold endAft at he
    unfold inS
    simp only [decide_eq_true_eq] at he ⊢
    exact ⟨hp, he⟩
def atA (xs : List SpanE) (page : Int) : Ht := if vsB xs = true ∧ 0 ≤ page ∧ page < 4096 then atL xs page else zHt
end Go.Proofs.Ytnmhkgmmpkjjeab
