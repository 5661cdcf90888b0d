import Derived.Test.YtnmhkgmmpkjjeabSpB
namespace Go.Proofs.Ytnmhkgmmpkjjeab
open Go.ChangeShapes Go.WideShapes Go.ChangeAt Go.RowKit
set_option linter.unusedVariables false
attribute [local go_sem ↓] Go.wp_at_zero Go.wp_at_succ

theorem l4SpanOk_any (p c o r : Int) (g : Bool) (w : World) (hw : wfS ⟨p, c, o, r, g⟩) :
    Calls Try.prog 93 #[.agg #[.int .i64 p, .int .i64 c, .int .i64 o, .int .i64 r, .bool g]] w fun e w' => e = .returned (.bool (spanOk ⟨p, c, o, r, g⟩)) ∧ Below w.heap.size w w' := by
  obtain ⟨hp1, hp2, hc1, hc2, ho1, ho2, hr1, hr2⟩ := hw
  dsimp only at hp1 hp2 hc1 hc2 ho1 ho2 hr1 hr2
  by_cases h0 : c < 1
  · have d0 : decide (c < 1) = true := by simpa using h0
    have hr : spanOk ⟨p, c, o, r, g⟩ = false := decide_eq_false (by dsimp only; omega)
    rw [hr]
    clear hr
    go_enter Try.func93, Try.ntmps93
    go_wp2_with fail
    go_ret
    exact ⟨rfl, (Below.refl _ _).alloc (Nat.le_refl _) _⟩
  · have d0 : decide (c < 1) = false := by simpa using h0
    by_cases h1 : 4096 < c
    · have d1 : decide (4096 < c) = true := by simpa using h1
      have hr : spanOk ⟨p, c, o, r, g⟩ = false := decide_eq_false (by dsimp only; omega)
      rw [hr]
      clear hr
      go_enter Try.func93, Try.ntmps93
      go_wp2_with fail
      go_ret
      exact ⟨rfl, (Below.refl _ _).alloc (Nat.le_refl _) _⟩
    · have d1 : decide (4096 < c) = false := by simpa using h1
      by_cases h2 : r < 1
      · have d2 : decide (r < 1) = true := by simpa using h2
        have hr : spanOk ⟨p, c, o, r, g⟩ = false := decide_eq_false (by dsimp only; omega)
        rw [hr]
        clear hr
        go_enter Try.func93, Try.ntmps93
        go_wp2_with fail
        go_ret
        exact ⟨rfl, (Below.refl _ _).alloc (Nat.le_refl _) _⟩
      · have d2 : decide (r < 1) = false := by simpa using h2
        by_cases h3 : 7 < r
        · have d3 : decide (7 < r) = true := by simpa using h3
          have hr : spanOk ⟨p, c, o, r, g⟩ = false := decide_eq_false (by dsimp only; omega)
          rw [hr]
          clear hr
          go_enter Try.func93, Try.ntmps93
          go_wp2_with fail
          go_ret
          exact ⟨rfl, (Below.refl _ _).alloc (Nat.le_refl _) _⟩
        · have d3 : decide (7 < r) = false := by simpa using h3
          by_cases h4 : p < 0
          · have d4 : decide (p < 0) = true := by simpa using h4
            have hr : spanOk ⟨p, c, o, r, g⟩ = false := decide_eq_false (by dsimp only; omega)
            rw [hr]
            clear hr
            go_enter Try.func93, Try.ntmps93
            go_wp2_with fail
            go_ret
            exact ⟨rfl, (Below.refl _ _).alloc (Nat.le_refl _) _⟩
          · have d4 : decide (p < 0) = false := by simpa using h4
            by_cases h5 : 4096 ≤ p
            · have d5 : decide (4096 ≤ p) = true := by simpa using h5
              have hr : spanOk ⟨p, c, o, r, g⟩ = false := decide_eq_false (by dsimp only; omega)
              rw [hr]
              clear hr
              go_enter Try.func93, Try.ntmps93
              go_wp2_with fail
              go_ret
              exact ⟨rfl, (Below.refl _ _).alloc (Nat.le_refl _) _⟩
            · have d5 : decide (4096 ≤ p) = false := by simpa using h5
              by_cases h6 : 4096 < p + c
              · have d6 : decide (4096 < p + c) = true := by simpa using h6
                have hr : spanOk ⟨p, c, o, r, g⟩ = false := decide_eq_false (by dsimp only; omega)
                rw [hr]
                clear hr
                go_enter Try.func93, Try.ntmps93
                go_wp2_with fail
                go_ret
                exact ⟨rfl, (Below.refl _ _).alloc (Nat.le_refl _) _⟩
              · have d6 : decide (4096 < p + c) = false := by simpa using h6
                by_cases h7 : 0 ≤ o
                · have d7 : decide (0 ≤ o) = true := by simpa using h7
                  by_cases h8 : o < 65536
                  · have d8 : decide (o < 65536) = true := by simpa using h8
                    by_cases h9 : o + c ≤ 65536
                    · have d9 : decide (o + c ≤ 65536) = true := by simpa using h9
                      have hr : spanOk ⟨p, c, o, r, g⟩ = true := decide_eq_true (by dsimp only; omega)
                      rw [hr]
                      clear hr
                      go_enter Try.func93, Try.ntmps93
                      go_wp2_with fail
                      go_ret
                      exact ⟨rfl, (Below.refl _ _).alloc (Nat.le_refl _) _⟩
                    · have d9 : decide (o + c ≤ 65536) = false := by simpa using h9
                      have hr : spanOk ⟨p, c, o, r, g⟩ = false := decide_eq_false (by dsimp only; omega)
                      rw [hr]
                      clear hr
                      go_enter Try.func93, Try.ntmps93
                      go_wp2_with fail
                      go_ret
                      exact ⟨rfl, (Below.refl _ _).alloc (Nat.le_refl _) _⟩
                  · have d8 : decide (o < 65536) = false := by simpa using h8
                    have hr : spanOk ⟨p, c, o, r, g⟩ = false := decide_eq_false (by dsimp only; omega)
                    rw [hr]
                    clear hr
                    go_enter Try.func93, Try.ntmps93
                    go_wp2_with fail
                    go_ret
                    exact ⟨rfl, (Below.refl _ _).alloc (Nat.le_refl _) _⟩
                · have d7 : decide (0 ≤ o) = false := by simpa using h7
                  have hr : spanOk ⟨p, c, o, r, g⟩ = false := decide_eq_false (by dsimp only; omega)
                  rw [hr]
                  clear hr
                  go_enter Try.func93, Try.ntmps93
                  go_wp2_with fail
                  go_ret
                  exact ⟨rfl, (Below.refl _ _).alloc (Nat.le_refl _) _⟩

theorem validSpan_any (p c o r : Int) (g : Bool) (w : World) (hw : wfS ⟨p, c, o, r, g⟩) :
    Calls Try.prog 96 #[.agg #[.int .i64 p, .int .i64 c, .int .i64 o, .int .i64 r, .bool g]] w fun e w' => e = .returned (.bool (spanOk ⟨p, c, o, r, g⟩)) ∧ Below w.heap.size w w' := by
  obtain ⟨hp1, hp2, hc1, hc2, ho1, ho2, hr1, hr2⟩ := hw
  dsimp only at hp1 hp2 hc1 hc2 ho1 ho2 hr1 hr2
  by_cases h0 : 1 ≤ c
  · have d0 : decide (1 ≤ c) = true := by simpa using h0
    by_cases h1 : 0 ≤ p
    · have d1 : decide (0 ≤ p) = true := by simpa using h1
      by_cases h2 : p ≤ 4096 - c
      · have d2 : decide (p ≤ 4096 - c) = true := by simpa using h2
        by_cases h3 : 0 ≤ o
        · have d3 : decide (0 ≤ o) = true := by simpa using h3
          by_cases h4 : o ≤ 65536 - c
          · have d4 : decide (o ≤ 65536 - c) = true := by simpa using h4
            by_cases h5 : 1 ≤ r
            · have d5 : decide (1 ≤ r) = true := by simpa using h5
              by_cases h6 : r ≤ 7
              · have d6 : decide (r ≤ 7) = true := by simpa using h6
                have hr : spanOk ⟨p, c, o, r, g⟩ = true := decide_eq_true (by dsimp only; omega)
                rw [hr]
                clear hr
                go_enter Try.func96, Try.ntmps96
                go_wp2_with fail
                go_ret
                exact ⟨rfl, (Below.refl _ _).alloc (Nat.le_refl _) _⟩
              · have d6 : decide (r ≤ 7) = false := by simpa using h6
                have hr : spanOk ⟨p, c, o, r, g⟩ = false := decide_eq_false (by dsimp only; omega)
                rw [hr]
                clear hr
                go_enter Try.func96, Try.ntmps96
                go_wp2_with fail
                go_ret
                exact ⟨rfl, (Below.refl _ _).alloc (Nat.le_refl _) _⟩
            · have d5 : decide (1 ≤ r) = false := by simpa using h5
              have hr : spanOk ⟨p, c, o, r, g⟩ = false := decide_eq_false (by dsimp only; omega)
              rw [hr]
              clear hr
              go_enter Try.func96, Try.ntmps96
              go_wp2_with fail
              go_ret
              exact ⟨rfl, (Below.refl _ _).alloc (Nat.le_refl _) _⟩
          · have d4 : decide (o ≤ 65536 - c) = false := by simpa using h4
            have hr : spanOk ⟨p, c, o, r, g⟩ = false := decide_eq_false (by dsimp only; omega)
            rw [hr]
            clear hr
            go_enter Try.func96, Try.ntmps96
            go_wp2_with fail
            go_ret
            exact ⟨rfl, (Below.refl _ _).alloc (Nat.le_refl _) _⟩
        · have d3 : decide (0 ≤ o) = false := by simpa using h3
          have hr : spanOk ⟨p, c, o, r, g⟩ = false := decide_eq_false (by dsimp only; omega)
          rw [hr]
          clear hr
          go_enter Try.func96, Try.ntmps96
          go_wp2_with fail
          go_ret
          exact ⟨rfl, (Below.refl _ _).alloc (Nat.le_refl _) _⟩
      · have d2 : decide (p ≤ 4096 - c) = false := by simpa using h2
        have hr : spanOk ⟨p, c, o, r, g⟩ = false := decide_eq_false (by dsimp only; omega)
        rw [hr]
        clear hr
        go_enter Try.func96, Try.ntmps96
        go_wp2_with fail
        go_ret
        exact ⟨rfl, (Below.refl _ _).alloc (Nat.le_refl _) _⟩
    · have d1 : decide (0 ≤ p) = false := by simpa using h1
      have hr : spanOk ⟨p, c, o, r, g⟩ = false := decide_eq_false (by dsimp only; omega)
      rw [hr]
      clear hr
      go_enter Try.func96, Try.ntmps96
      go_wp2_with fail
      go_ret
      exact ⟨rfl, (Below.refl _ _).alloc (Nat.le_refl _) _⟩
  · have d0 : decide (1 ≤ c) = false := by simpa using h0
    have hr : spanOk ⟨p, c, o, r, g⟩ = false := decide_eq_false (by dsimp only; omega)
    rw [hr]
    clear hr
    go_enter Try.func96, Try.ntmps96
    go_wp2_with fail
    go_ret
    exact ⟨rfl, (Below.refl _ _).alloc (Nat.le_refl _) _⟩
end Go.Proofs.Ytnmhkgmmpkjjeab
