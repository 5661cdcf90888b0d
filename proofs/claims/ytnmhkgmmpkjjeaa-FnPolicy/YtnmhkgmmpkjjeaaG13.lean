import Derived.Test.YtnmhkgmmpkjjeaaG00
namespace Go.Proofs.Ytnmhkgmmpkjjeaa
open Go.ChangeShapes Go.WideShapes Go.ChangeAt Go.RowKit
set_option linter.unusedVariables false
attribute [local go_sem ↓] Go.wp_at_zero Go.wp_at_succ

structure SpanE where
  page : Int
  count : Int
  out : Int
  perm : Int
  huge : Bool
def eSpan : Elt SpanE := ⟨125, 5, fun x => [.int .i64 x.page, .int .i64 x.count, .int .i64 x.out, .int .i64 x.perm, .bool x.huge], ⟨0, 0, 0, 0, false⟩, by omega, fun _ => rfl⟩
theorem infoSpan : (Try.prog.info? 125).map (fun i => (i.zero, i.size, i.bytes)) = some (some (.agg #[.int .i64 0, .int .i64 0, .int .i64 0, .int .i64 0, .bool false]), 5, 40) := by kernel_rfl


/-- The fields of a span are numbers of int. -/
def wfS (x : SpanE) : Prop := -9223372036854775808 ≤ x.page ∧ x.page ≤ 9223372036854775807 ∧ -9223372036854775808 ≤ x.count ∧ x.count ≤ 9223372036854775807 ∧ -9223372036854775808 ≤ x.out ∧ x.out ≤ 9223372036854775807 ∧ -9223372036854775808 ≤ x.perm ∧ x.perm ≤ 9223372036854775807
def spanOk (x : SpanE) : Bool := decide (1 ≤ x.count ∧ 0 ≤ x.page ∧ x.page + x.count ≤ 4096 ∧ 0 ≤ x.out ∧ x.out + x.count ≤ 65536 ∧ 1 ≤ x.perm ∧ x.perm ≤ 7)
theorem spanOk_iff {x : SpanE} : spanOk x = true ↔ (1 ≤ x.count ∧ 0 ≤ x.page ∧ x.page + x.count ≤ 4096 ∧ 0 ≤ x.out ∧ x.out + x.count ≤ 65536 ∧ 1 ≤ x.perm ∧ x.perm ≤ 7) := by simp [spanOk]
def joinsB (a b : SpanE) : Bool := decide (b.page = a.page + a.count ∧ b.out = a.out + a.count ∧ b.perm = a.perm ∧ b.huge = a.huge)
def pairOk (a b : SpanE) : Bool := decide (a.page + a.count ≤ b.page) && !joinsB a b
/-- A valid list of spans. -/
def VS (xs : List SpanE) : Prop := (∀ i, i < xs.length → spanOk (eAt eSpan xs i) = true) ∧ ∀ i, i + 1 < xs.length → pairOk (eAt eSpan xs i) (eAt eSpan xs (i + 1)) = true
def vsB (xs : List SpanE) : Bool := (List.range xs.length).all (fun i => spanOk (eAt eSpan xs i)) && (List.range (xs.length - 1)).all (fun i => pairOk (eAt eSpan xs i) (eAt eSpan xs (i + 1)))
theorem vsB_iff {xs : List SpanE} : vsB xs = true ↔ VS xs := by
  unfold vsB VS
  rw [Bool.and_eq_true, List.all_eq_true, List.all_eq_true]
  exact ⟨fun h => ⟨fun i hi => h.1 i (List.mem_range.2 hi), fun i hi => h.2 i (List.mem_range.2 (by omega))⟩, fun h => ⟨fun i hi => h.1 i (List.mem_range.1 hi), fun i hi => h.2 i (by have := List.mem_range.1 hi; omega)⟩⟩
theorem vsB_true {xs : List SpanE} (h : VS xs) : vsB xs = true := vsB_iff.2 h
theorem vsB_false {xs : List SpanE} (h : ¬ VS xs) : vsB xs = false := by
  cases hb : vsB xs
  · rfl
  · exact absurd (vsB_iff.1 hb) h
theorem VS.of_true {xs : List SpanE} (h : vsB xs = true) : VS xs := vsB_iff.1 h
end Go.Proofs.Ytnmhkgmmpkjjeaa
namespace Go.Proofs.Ytnmhkgmmpkjjeaa
open Go.ChangeShapes Go.WideShapes Go.ChangeAt Go.RowKit
set_option linter.unusedVariables false

/-- The cells of the elements of a row of spans. -/
theorem spCells {w : World} {b cap : Nat} {a : Option Addr} {xs : List SpanE} (h : ERow eSpan w b (.slice a xs.length cap) xs) :
    ∃ g, (0 < xs.length → a = some ⟨g, 0, none⟩ ∧ g < w.heap.size) ∧ ∀ k P C O R G, k < xs.length → eAt eSpan xs k = ⟨P, C, O, R, G⟩ → ∀ wX, Below w.heap.size w wX → wX.cell? ⟨g, k * 5, none⟩ = some (.int .i64 P) ∧ wX.cell? ⟨g, k * 5 + 1, none⟩ = some (.int .i64 C) ∧ wX.cell? ⟨g, k * 5 + 2, none⟩ = some (.int .i64 O) ∧ wX.cell? ⟨g, k * 5 + 3, none⟩ = some (.int .i64 R) ∧ wX.cell? ⟨g, k * 5 + 4, none⟩ = some (.bool G) := by
  obtain ⟨a', c', e, hf⟩ := h.form
  simp only [Value.slice.injEq] at e
  obtain ⟨rfl, _, _⟩ := e
  by_cases h0 : 0 < xs.length
  · obtain ⟨g, N, f, rfl, _, hr, hN, hc⟩ := hf h0
    have hN' : xs.length * 5 ≤ N := hN
    refine ⟨g, fun _ => ⟨rfl, hr.lt⟩, fun k P C O R G hk he wX hX => ?_⟩
    have hr1 : wX.rowIs g 125 N f := hr.of_block (hX.block g hr.lt)
    have c : ∀ j, j < 5 → wX.cell? ⟨g, k * 5 + j, none⟩ = some (eCell eSpan xs k j) := fun j hj => by
      rw [hr1.cell (by omega)]
      exact congrArg some (hc k hk j hj)
    have e0 : ∀ j, eCell eSpan xs k j = ((eSpan.enc ⟨P, C, O, R, G⟩)[j]?).getD (.bool false) := fun j => by unfold eCell; rw [he]
    exact ⟨(c 0 (by omega)).trans (by rw [e0]; rfl), (c 1 (by omega)).trans (by rw [e0]; rfl), (c 2 (by omega)).trans (by rw [e0]; rfl), (c 3 (by omega)).trans (by rw [e0]; rfl), (c 4 (by omega)).trans (by rw [e0]; rfl)⟩
  · exact ⟨0, fun h => absurd h h0, fun k P C O R G hk => absurd hk (by omega)⟩
end Go.Proofs.Ytnmhkgmmpkjjeaa
namespace Go.Proofs.Ytnmhkgmmpkjjeaa
open Go.ChangeShapes Go.WideShapes Go.ChangeAt Go.RowKit
set_option linter.unusedVariables false
attribute [local go_sem ↓] Go.wp_at_zero Go.wp_at_succ

theorem l4SpanOk_any (p c o r : Int) (g : Bool) (w : World) (hw : wfS ⟨p, c, o, r, g⟩) :
    Calls Try.prog 134 #[.agg #[.int .i64 p, .int .i64 c, .int .i64 o, .int .i64 r, .bool g]] w fun e w' => e = .returned (.bool (spanOk ⟨p, c, o, r, g⟩)) ∧ Below w.heap.size w w' := by
  obtain ⟨hp1, hp2, hc1, hc2, ho1, ho2, hr1, hr2⟩ := hw
  dsimp only at hp1 hp2 hc1 hc2 ho1 ho2 hr1 hr2
  by_cases h0 : c < 1
  · have d0 : decide (c < 1) = true := by simpa using h0
    have hr : spanOk ⟨p, c, o, r, g⟩ = false := decide_eq_false (by dsimp only; omega)
    rw [hr]
    clear hr
    go_enter Try.func134, Try.ntmps134
    go_wp2_with fail
    go_ret
    exact ⟨rfl, (Below.refl _ _).alloc (Nat.le_refl _) _⟩
  · have d0 : decide (c < 1) = false := by simpa using h0
    by_cases h1 : 4096 < c
    · have d1 : decide (4096 < c) = true := by simpa using h1
      have hr : spanOk ⟨p, c, o, r, g⟩ = false := decide_eq_false (by dsimp only; omega)
      rw [hr]
      clear hr
      go_enter Try.func134, Try.ntmps134
      go_wp2_with fail
      go_ret
      exact ⟨rfl, (Below.refl _ _).alloc (Nat.le_refl _) _⟩
    · have d1 : decide (4096 < c) = false := by simpa using h1
      by_cases h2 : r < 1
      · have d2 : decide (r < 1) = true := by simpa using h2
        have hr : spanOk ⟨p, c, o, r, g⟩ = false := decide_eq_false (by dsimp only; omega)
        rw [hr]
        clear hr
        go_enter Try.func134, Try.ntmps134
        go_wp2_with fail
        go_ret
        exact ⟨rfl, (Below.refl _ _).alloc (Nat.le_refl _) _⟩
      · have d2 : decide (r < 1) = false := by simpa using h2
        by_cases h3 : 7 < r
        · have d3 : decide (7 < r) = true := by simpa using h3
          have hr : spanOk ⟨p, c, o, r, g⟩ = false := decide_eq_false (by dsimp only; omega)
          rw [hr]
          clear hr
          go_enter Try.func134, Try.ntmps134
          go_wp2_with fail
          go_ret
          exact ⟨rfl, (Below.refl _ _).alloc (Nat.le_refl _) _⟩
        · have d3 : decide (7 < r) = false := by simpa using h3
          by_cases h4 : p < 0
          · have d4 : decide (p < 0) = true := by simpa using h4
            have hr : spanOk ⟨p, c, o, r, g⟩ = false := decide_eq_false (by dsimp only; omega)
            rw [hr]
            clear hr
            go_enter Try.func134, Try.ntmps134
            go_wp2_with fail
            go_ret
            exact ⟨rfl, (Below.refl _ _).alloc (Nat.le_refl _) _⟩
          · have d4 : decide (p < 0) = false := by simpa using h4
            by_cases h5 : 4096 ≤ p
            · have d5 : decide (4096 ≤ p) = true := by simpa using h5
              have hr : spanOk ⟨p, c, o, r, g⟩ = false := decide_eq_false (by dsimp only; omega)
              rw [hr]
              clear hr
              go_enter Try.func134, Try.ntmps134
              go_wp2_with fail
              go_ret
              exact ⟨rfl, (Below.refl _ _).alloc (Nat.le_refl _) _⟩
            · have d5 : decide (4096 ≤ p) = false := by simpa using h5
              by_cases h6 : 4096 < p + c
              · have d6 : decide (4096 < p + c) = true := by simpa using h6
                have hr : spanOk ⟨p, c, o, r, g⟩ = false := decide_eq_false (by dsimp only; omega)
                rw [hr]
                clear hr
                go_enter Try.func134, Try.ntmps134
                go_wp2_with fail
                go_ret
                exact ⟨rfl, (Below.refl _ _).alloc (Nat.le_refl _) _⟩
              · have d6 : decide (4096 < p + c) = false := by simpa using h6
                by_cases h7 : 0 ≤ o
                · have d7 : decide (0 ≤ o) = true := by simpa using h7
                  by_cases h8 : o < 65536
                  · have d8 : decide (o < 65536) = true := by simpa using h8
                    by_cases h9 : o + c ≤ 65536
                    · have d9 : decide (o + c ≤ 65536) = true := by simpa using h9
                      have hr : spanOk ⟨p, c, o, r, g⟩ = true := decide_eq_true (by dsimp only; omega)
                      rw [hr]
                      clear hr
                      go_enter Try.func134, Try.ntmps134
                      go_wp2_with fail
                      go_ret
                      exact ⟨rfl, (Below.refl _ _).alloc (Nat.le_refl _) _⟩
                    · have d9 : decide (o + c ≤ 65536) = false := by simpa using h9
                      have hr : spanOk ⟨p, c, o, r, g⟩ = false := decide_eq_false (by dsimp only; omega)
                      rw [hr]
                      clear hr
                      go_enter Try.func134, Try.ntmps134
                      go_wp2_with fail
                      go_ret
                      exact ⟨rfl, (Below.refl _ _).alloc (Nat.le_refl _) _⟩
                  · have d8 : decide (o < 65536) = false := by simpa using h8
                    have hr : spanOk ⟨p, c, o, r, g⟩ = false := decide_eq_false (by dsimp only; omega)
                    rw [hr]
                    clear hr
                    go_enter Try.func134, Try.ntmps134
                    go_wp2_with fail
                    go_ret
                    exact ⟨rfl, (Below.refl _ _).alloc (Nat.le_refl _) _⟩
                · have d7 : decide (0 ≤ o) = false := by simpa using h7
                  have hr : spanOk ⟨p, c, o, r, g⟩ = false := decide_eq_false (by dsimp only; omega)
                  rw [hr]
                  clear hr
                  go_enter Try.func134, Try.ntmps134
                  go_wp2_with fail
                  go_ret
                  exact ⟨rfl, (Below.refl _ _).alloc (Nat.le_refl _) _⟩

theorem validSpan_any (p c o r : Int) (g : Bool) (w : World) (hw : wfS ⟨p, c, o, r, g⟩) :
    Calls Try.prog 65 #[.agg #[.int .i64 p, .int .i64 c, .int .i64 o, .int .i64 r, .bool g]] w fun e w' => e = .returned (.bool (spanOk ⟨p, c, o, r, g⟩)) ∧ Below w.heap.size w w' := by
  obtain ⟨hp1, hp2, hc1, hc2, ho1, ho2, hr1, hr2⟩ := hw
  dsimp only at hp1 hp2 hc1 hc2 ho1 ho2 hr1 hr2
  by_cases h0 : 1 ≤ c
  · have d0 : decide (1 ≤ c) = true := by simpa using h0
    by_cases h1 : 0 ≤ p
    · have d1 : decide (0 ≤ p) = true := by simpa using h1
      by_cases h2 : p ≤ 4096 - c
      · have d2 : decide (p ≤ 4096 - c) = true := by simpa using h2
        by_cases h3 : 0 ≤ o
        · have d3 : decide (0 ≤ o) = true := by simpa using h3
          by_cases h4 : o ≤ 65536 - c
          · have d4 : decide (o ≤ 65536 - c) = true := by simpa using h4
            by_cases h5 : 1 ≤ r
            · have d5 : decide (1 ≤ r) = true := by simpa using h5
              by_cases h6 : r ≤ 7
              · have d6 : decide (r ≤ 7) = true := by simpa using h6
                have hr : spanOk ⟨p, c, o, r, g⟩ = true := decide_eq_true (by dsimp only; omega)
                rw [hr]
                clear hr
                go_enter Try.func65, Try.ntmps65
                go_wp2_with fail
                go_ret
                exact ⟨rfl, (Below.refl _ _).alloc (Nat.le_refl _) _⟩
              · have d6 : decide (r ≤ 7) = false := by simpa using h6
                have hr : spanOk ⟨p, c, o, r, g⟩ = false := decide_eq_false (by dsimp only; omega)
                rw [hr]
                clear hr
                go_enter Try.func65, Try.ntmps65
                go_wp2_with fail
                go_ret
                exact ⟨rfl, (Below.refl _ _).alloc (Nat.le_refl _) _⟩
            · have d5 : decide (1 ≤ r) = false := by simpa using h5
              have hr : spanOk ⟨p, c, o, r, g⟩ = false := decide_eq_false (by dsimp only; omega)
              rw [hr]
              clear hr
              go_enter Try.func65, Try.ntmps65
              go_wp2_with fail
              go_ret
              exact ⟨rfl, (Below.refl _ _).alloc (Nat.le_refl _) _⟩
          · have d4 : decide (o ≤ 65536 - c) = false := by simpa using h4
            have hr : spanOk ⟨p, c, o, r, g⟩ = false := decide_eq_false (by dsimp only; omega)
            rw [hr]
            clear hr
            go_enter Try.func65, Try.ntmps65
            go_wp2_with fail
            go_ret
            exact ⟨rfl, (Below.refl _ _).alloc (Nat.le_refl _) _⟩
        · have d3 : decide (0 ≤ o) = false := by simpa using h3
          have hr : spanOk ⟨p, c, o, r, g⟩ = false := decide_eq_false (by dsimp only; omega)
          rw [hr]
          clear hr
          go_enter Try.func65, Try.ntmps65
          go_wp2_with fail
          go_ret
          exact ⟨rfl, (Below.refl _ _).alloc (Nat.le_refl _) _⟩
      · have d2 : decide (p ≤ 4096 - c) = false := by simpa using h2
        have hr : spanOk ⟨p, c, o, r, g⟩ = false := decide_eq_false (by dsimp only; omega)
        rw [hr]
        clear hr
        go_enter Try.func65, Try.ntmps65
        go_wp2_with fail
        go_ret
        exact ⟨rfl, (Below.refl _ _).alloc (Nat.le_refl _) _⟩
    · have d1 : decide (0 ≤ p) = false := by simpa using h1
      have hr : spanOk ⟨p, c, o, r, g⟩ = false := decide_eq_false (by dsimp only; omega)
      rw [hr]
      clear hr
      go_enter Try.func65, Try.ntmps65
      go_wp2_with fail
      go_ret
      exact ⟨rfl, (Below.refl _ _).alloc (Nat.le_refl _) _⟩
  · have d0 : decide (1 ≤ c) = false := by simpa using h0
    have hr : spanOk ⟨p, c, o, r, g⟩ = false := decide_eq_false (by dsimp only; omega)
    rw [hr]
    clear hr
    go_enter Try.func65, Try.ntmps65
    go_wp2_with fail
    go_ret
    exact ⟨rfl, (Below.refl _ _).alloc (Nat.le_refl _) _⟩
end Go.Proofs.Ytnmhkgmmpkjjeaa
namespace Go.Proofs.Ytnmhkgmmpkjjeaa

/-! What a list of spans says of a page. -/
structure Ht where
  k : Int
  o : Int
  p : Int
  s : Int
def zHt : Ht := ⟨0, 0, 0, 0⟩
def inS (e : SpanE) (page : Int) : Bool := decide (e.page ≤ page ∧ page < e.page + e.count)
def bigB (e : SpanE) (page : Int) : Bool := e.huge && decide (e.page ≤ page - page % 16 ∧ page - page % 16 + 16 ≤ e.page + e.count ∧ (e.out + (page - page % 16) - e.page) % 16 = 0)
def hitS (e : SpanE) (page : Int) : Ht := ⟨1, e.out + page - e.page, e.perm, if bigB e page then 16 else 1⟩
def atL (xs : List SpanE) (page : Int) : Ht := match xs.find? (fun e => inS e page) with
  | some e => hitS e page
  | none => zHt
theorem find_hit (page : Int) : ∀ (xs : List SpanE) (k : Nat), k < xs.length → (∀ j, j < k → inS (eAt eSpan xs j) page = false) → inS (eAt eSpan xs k) page = true → xs.find? (fun e => inS e page) = some (eAt eSpan xs k)
  | [], k, hk, _, _ => absurd hk (by simp)
  | x :: r, 0, _, _, h => by
    have h' : inS x page = true := h
    rw [List.find?_cons_of_pos (by exact h')]
    rfl
  | x :: r, k + 1, hk, hn, h => by
    have h0 : inS x page = false := hn 0 (by omega)
    rw [List.find?_cons_of_neg (by rw [h0]; decide)]
    exact find_hit page r k (by simpa using hk) (fun j hj => hn (j + 1) (by omega)) h
theorem at_hit (page : Int) (xs : List SpanE) (k : Nat) (hk : k < xs.length) (hn : ∀ j, j < k → inS (eAt eSpan xs j) page = false) (h : inS (eAt eSpan xs k) page = true) : atL xs page = hitS (eAt eSpan xs k) page := by
  unfold atL
  rw [find_hit page xs k hk hn h]
theorem at_none (page : Int) (xs : List SpanE) (hn : ∀ j, j < xs.length → inS (eAt eSpan xs j) page = false) : atL xs page = zHt := by
  have : xs.find? (fun e => inS e page) = none := by
    rw [List.find?_eq_none]
    intro e he
    obtain ⟨i, hi, rfl⟩ := List.getElem_of_mem he
    have := hn i hi
    unfold eAt at this
    rw [List.getD_eq_getElem?_getD, List.getElem?_eq_getElem hi] at this
    have h2 : inS xs[i] page = false := this
    rw [h2]; decide
  unfold atL
  rw [this]
theorem VS.order {xs : List SpanE} (h : VS xs) (i : Nat) : ∀ d, i + d + 1 < xs.length → (eAt eSpan xs i).page + (eAt eSpan xs i).count ≤ (eAt eSpan xs (i + d + 1)).page
  | 0, hd => by
    have := h.2 i hd
    unfold pairOk at this
    simp only [Bool.and_eq_true, decide_eq_true_eq] at this
    exact this.1
  | d + 1, hd => by
    have h1 := VS.order h i d (by omega)
    have h2 := h.2 (i + d + 1) hd
    unfold pairOk at h2
    simp only [Bool.and_eq_true, decide_eq_true_eq] at h2
    have h3 := spanOk_iff.1 (h.1 (i + d + 1) (by omega))
    have h4 := h2.1
    have e : i + (d + 1) + 1 = i + d + 1 + 1 := by omega
    rw [e]
    omega
theorem VS.lt {xs : List SpanE} (h : VS xs) (i j : Nat) (hij : i < j) (hj : j < xs.length) : (eAt eSpan xs i).page + (eAt eSpan xs i).count ≤ (eAt eSpan xs j).page := by
  have := h.order i (j - i - 1) (by omega)
  rwa [show i + (j - i - 1) + 1 = j by omega] at this
/-- The page lies before the end of span i. -/
def endAft (xs : List SpanE) (page : Int) (i : Nat) : Bool := decide (page < (eAt eSpan xs i).page + (eAt eSpan xs i).count)
theorem endAft_mono {xs : List SpanE} (h : VS xs) (page : Int) (a b : Nat) (hab : a ≤ b) (hb : b < xs.length) (ha : endAft xs page a = true) : endAft xs page b = true := by
  by_cases e : a = b
  · rw [← e]; exact ha
  · have h1 := h.lt a b (by omega) hb
    have h2 := spanOk_iff.1 (h.1 b hb)
    unfold endAft at ha ⊢
    simp only [decide_eq_true_eq] at ha ⊢
    omega
theorem at_search_none {xs : List SpanE} (h : VS xs) (page : Int) (r : Nat) (h1 : ∀ t, t < r → endAft xs page t = false) (h2 : r = xs.length ∨ (r < xs.length ∧ endAft xs page r = true ∧ page < (eAt eSpan xs r).page)) : atL xs page = zHt := by
  refine at_none page xs (fun j hj => ?_)
  unfold inS
  rw [decide_eq_false_iff_not]
  by_cases hjr : j < r
  · have := h1 j hjr
    unfold endAft at this
    simp only [decide_eq_false_iff_not] at this
    omega
  · rcases h2 with e | ⟨hr, he, hp⟩
    · omega
    · by_cases e : j = r
      · rw [e]; omega
      · have h3 := h.lt r j (by omega) hj
        have h4 := spanOk_iff.1 (h.1 r hr)
        omega
theorem at_search_hit {xs : List SpanE} (page : Int) (r : Nat) (hr : r < xs.length) (h1 : ∀ t, t < r → endAft xs page t = false) (he : endAft xs page r = true) (hp : (eAt eSpan xs r).page ≤ page) : atL xs page = hitS (eAt eSpan xs r) page := by
  refine at_hit page xs r hr (fun j hj => ?_) ?_
  · have := h1 j hj
    unfold endAft at this
    simp only [decide_eq_false_iff_not] at this
    unfold inS
    rw [decide_eq_false_iff_not]
    omega
  · unfold endAft at he
    unfold inS
    simp only [decide_eq_true_eq] at he ⊢
    exact ⟨hp, he⟩
def atA (xs : List SpanE) (page : Int) : Ht := if vsB xs = true ∧ 0 ≤ page ∧ page < 4096 then atL xs page else zHt
end Go.Proofs.Ytnmhkgmmpkjjeaa
