import Derived.Test.YtnmhkgmmpkjjeabSSmall
namespace Go.Proofs.Ytnmhkgmmpkjjeab
open Go.ChangeShapes Go.WideShapes Go.ChangeAt Go.RowKit
set_option linter.unusedVariables false
attribute [local go_sem ↓] Go.wp_at_zero Go.wp_at_succ

theorem tlbOk_size (a1 a2 a3 a4 : Int) (a5 : Bool) (h : ¬ (a2 = 1 ∨ a2 = 16)) (w : World) :
    Calls Try.prog 131 #[.agg #[.int .i64 a1, .int .i64 a2, .int .i64 a3, .int .i64 a4, .bool a5]] w fun r w' => r = .returned (.bool false) ∧ Below w.heap.size w w' := by
  have h1 : (a2 != 1) = true := by simp; omega
  have h2 : (a2 != 16) = true := by simp; omega
  clear h
  go_enter Try.func131, Try.ntmps131
  go_wp2_with fail
  go_ret
  exact ⟨rfl, (Below.refl _ _).alloc (Nat.le_refl _) _⟩

theorem tlbOk_1 (a1 a3 a4 : Int) (a5 : Bool) (w : World) :
    Calls Try.prog 131 #[.agg #[.int .i64 a1, .int .i64 1, .int .i64 a3, .int .i64 a4, .bool a5]] w fun r w' => r = .returned (.bool (tlbOkB ⟨a1, 1, a3, a4, a5⟩)) ∧ Below w.heap.size w w' := by
  have hpk := pageOk_any a1
  by_cases hp : pageOk a1 = true
  · rw [hp] at hpk
    have hp0 : 0 ≤ a1 ∧ a1 < 4096 := by simpa [pageOk] using hp
    by_cases hm : a1 % 1 = 0
    · have hm' : (a1 % 1 != 0) = false := by simp
      by_cases h1 : 1 ≤ a4
      · by_cases h7 : a4 ≤ 7
        · by_cases o0 : 0 ≤ a3
          · by_cases o1 : a3 < 65536
            · by_cases om : a3 % 1 = 0
              · have om' : (a3 % 1 == 0) = true := by simp
                have hr : tlbOkB ⟨a1, 1, a3, a4, a5⟩ = true := by simp [tlbOkB, hp, hm, h1, h7, o0, o1, om]
                rw [hr]
                clear hr hp
                go_enter Try.func131, Try.ntmps131
                go_wp2_with (go_at_call 60; refine (hpk _).mono ?_; rintro e w1 ⟨rfl, rfl⟩)
                go_ret
                exact ⟨rfl, (Below.refl _ _).alloc (Nat.le_refl _) _⟩
              · exact absurd (by omega) om
            · have o1' : decide (a3 < 65536) = false := by simpa using o1
              have hr : tlbOkB ⟨a1, 1, a3, a4, a5⟩ = false := by simp [tlbOkB, hp, o1]
              rw [hr]
              clear hr hp
              go_enter Try.func131, Try.ntmps131
              go_wp2_with (go_at_call 60; refine (hpk _).mono ?_; rintro e w1 ⟨rfl, rfl⟩)
              go_ret
              exact ⟨rfl, (Below.refl _ _).alloc (Nat.le_refl _) _⟩
          · have o0' : decide (0 ≤ a3) = false := by simpa using o0
            have hr : tlbOkB ⟨a1, 1, a3, a4, a5⟩ = false := by simp [tlbOkB, hp, o0]
            rw [hr]
            clear hr hp
            go_enter Try.func131, Try.ntmps131
            go_wp2_with (go_at_call 60; refine (hpk _).mono ?_; rintro e w1 ⟨rfl, rfl⟩)
            go_ret
            exact ⟨rfl, (Below.refl _ _).alloc (Nat.le_refl _) _⟩
        · have h7' : decide (7 < a4) = true := by simp; omega
          have hr : tlbOkB ⟨a1, 1, a3, a4, a5⟩ = false := by simp [tlbOkB, hp, h7]
          rw [hr]
          clear hr hp
          go_enter Try.func131, Try.ntmps131
          go_wp2_with (go_at_call 60; refine (hpk _).mono ?_; rintro e w1 ⟨rfl, rfl⟩)
          go_ret
          exact ⟨rfl, (Below.refl _ _).alloc (Nat.le_refl _) _⟩
      · have h1' : decide (a4 < 1) = true := by simp; omega
        have hr : tlbOkB ⟨a1, 1, a3, a4, a5⟩ = false := by simp [tlbOkB, hp, h1]
        rw [hr]
        clear hr hp
        go_enter Try.func131, Try.ntmps131
        go_wp2_with (go_at_call 60; refine (hpk _).mono ?_; rintro e w1 ⟨rfl, rfl⟩)
        go_ret
        exact ⟨rfl, (Below.refl _ _).alloc (Nat.le_refl _) _⟩
    · exact absurd (by omega) hm
  · have hp' : pageOk a1 = false := by simpa using hp
    rw [hp'] at hpk
    have hr : tlbOkB ⟨a1, 1, a3, a4, a5⟩ = false := by simp [tlbOkB, hp']
    rw [hr]
    clear hr hp hp'
    go_enter Try.func131, Try.ntmps131
    go_wp2_with (go_at_call 60; refine (hpk _).mono ?_; rintro e w1 ⟨rfl, rfl⟩)
    go_ret
    exact ⟨rfl, (Below.refl _ _).alloc (Nat.le_refl _) _⟩

theorem tlbOk_16 (a1 a3 a4 : Int) (a5 : Bool) (w : World) :
    Calls Try.prog 131 #[.agg #[.int .i64 a1, .int .i64 16, .int .i64 a3, .int .i64 a4, .bool a5]] w fun r w' => r = .returned (.bool (tlbOkB ⟨a1, 16, a3, a4, a5⟩)) ∧ Below w.heap.size w w' := by
  have hpk := pageOk_any a1
  by_cases hp : pageOk a1 = true
  · rw [hp] at hpk
    have hp0 : 0 ≤ a1 ∧ a1 < 4096 := by simpa [pageOk] using hp
    by_cases hm : a1 % 16 = 0
    · have hm' : (a1 % 16 != 0) = false := by simp; omega
      by_cases h1 : 1 ≤ a4
      · by_cases h7 : a4 ≤ 7
        · by_cases o0 : 0 ≤ a3
          · by_cases o1 : a3 < 65536
            · by_cases om : a3 % 16 = 0
              · have om' : (a3 % 16 == 0) = true := by simp; omega
                have hr : tlbOkB ⟨a1, 16, a3, a4, a5⟩ = true := by simp [tlbOkB, hp, hm, h1, h7, o0, o1, om]
                rw [hr]
                clear hr hp
                go_enter Try.func131, Try.ntmps131
                go_wp2_with (go_at_call 60; refine (hpk _).mono ?_; rintro e w1 ⟨rfl, rfl⟩)
                go_ret
                exact ⟨rfl, (Below.refl _ _).alloc (Nat.le_refl _) _⟩
              · have om' : (a3 % 16 == 0) = false := by simp; omega
                have hr : tlbOkB ⟨a1, 16, a3, a4, a5⟩ = false := by simp [tlbOkB, hp, hm, h1, h7, o0, o1, om]
                rw [hr]
                clear hr hp
                go_enter Try.func131, Try.ntmps131
                go_wp2_with (go_at_call 60; refine (hpk _).mono ?_; rintro e w1 ⟨rfl, rfl⟩)
                go_ret
                exact ⟨rfl, (Below.refl _ _).alloc (Nat.le_refl _) _⟩
            · have o1' : decide (a3 < 65536) = false := by simpa using o1
              have hr : tlbOkB ⟨a1, 16, a3, a4, a5⟩ = false := by simp [tlbOkB, hp, o1]
              rw [hr]
              clear hr hp
              go_enter Try.func131, Try.ntmps131
              go_wp2_with (go_at_call 60; refine (hpk _).mono ?_; rintro e w1 ⟨rfl, rfl⟩)
              go_ret
              exact ⟨rfl, (Below.refl _ _).alloc (Nat.le_refl _) _⟩
          · have o0' : decide (0 ≤ a3) = false := by simpa using o0
            have hr : tlbOkB ⟨a1, 16, a3, a4, a5⟩ = false := by simp [tlbOkB, hp, o0]
            rw [hr]
            clear hr hp
            go_enter Try.func131, Try.ntmps131
            go_wp2_with (go_at_call 60; refine (hpk _).mono ?_; rintro e w1 ⟨rfl, rfl⟩)
            go_ret
            exact ⟨rfl, (Below.refl _ _).alloc (Nat.le_refl _) _⟩
        · have h7' : decide (7 < a4) = true := by simp; omega
          have hr : tlbOkB ⟨a1, 16, a3, a4, a5⟩ = false := by simp [tlbOkB, hp, h7]
          rw [hr]
          clear hr hp
          go_enter Try.func131, Try.ntmps131
          go_wp2_with (go_at_call 60; refine (hpk _).mono ?_; rintro e w1 ⟨rfl, rfl⟩)
          go_ret
          exact ⟨rfl, (Below.refl _ _).alloc (Nat.le_refl _) _⟩
      · have h1' : decide (a4 < 1) = true := by simp; omega
        have hr : tlbOkB ⟨a1, 16, a3, a4, a5⟩ = false := by simp [tlbOkB, hp, h1]
        rw [hr]
        clear hr hp
        go_enter Try.func131, Try.ntmps131
        go_wp2_with (go_at_call 60; refine (hpk _).mono ?_; rintro e w1 ⟨rfl, rfl⟩)
        go_ret
        exact ⟨rfl, (Below.refl _ _).alloc (Nat.le_refl _) _⟩
    · have hm' : (a1 % 16 != 0) = true := by simp; omega
      have hr : tlbOkB ⟨a1, 16, a3, a4, a5⟩ = false := by simp [tlbOkB, hp, hm]
      rw [hr]
      clear hr hp
      go_enter Try.func131, Try.ntmps131
      go_wp2_with (go_at_call 60; refine (hpk _).mono ?_; rintro e w1 ⟨rfl, rfl⟩)
      go_ret
      exact ⟨rfl, (Below.refl _ _).alloc (Nat.le_refl _) _⟩
  · have hp' : pageOk a1 = false := by simpa using hp
    rw [hp'] at hpk
    have hr : tlbOkB ⟨a1, 16, a3, a4, a5⟩ = false := by simp [tlbOkB, hp']
    rw [hr]
    clear hr hp hp'
    go_enter Try.func131, Try.ntmps131
    go_wp2_with (go_at_call 60; refine (hpk _).mono ?_; rintro e w1 ⟨rfl, rfl⟩)
    go_ret
    exact ⟨rfl, (Below.refl _ _).alloc (Nat.le_refl _) _⟩

theorem tlbOk_any (e : TlbE) (w : World) :
    Calls Try.prog 131 #[.agg #[.int .i64 e.page, .int .i64 e.size, .int .i64 e.out, .int .i64 e.perm, .bool e.doom]] w fun r w' => r = .returned (.bool (tlbOkB e)) ∧ Below w.heap.size w w' := by
  obtain ⟨a1, a2, a3, a4, a5⟩ := e
  by_cases h1 : a2 = 1
  · subst h1; exact tlbOk_1 a1 a3 a4 a5 w
  · by_cases h2 : a2 = 16
    · subst h2; exact tlbOk_16 a1 a3 a4 a5 w
    · have : tlbOkB ⟨a1, a2, a3, a4, a5⟩ = false := by simp [tlbOkB, h1, h2]
      rw [this]
      exact tlbOk_size a1 a2 a3 a4 a5 (by omega) w
end Go.Proofs.Ytnmhkgmmpkjjeab
