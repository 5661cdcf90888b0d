import Derived.Test.YtnmhkgmmpkjjeabSTlbOk
namespace Go.Proofs.Ytnmhkgmmpkjjeab
open Go.ChangeShapes Go.WideShapes Go.ChangeAt Go.RowKit
set_option linter.unusedVariables false
attribute [local go_sem ↓] Go.wp_at_zero Go.wp_at_succ

theorem wcOk_level (a1 a2 a3 n : Int) (a4 : Bool) (h : ¬ (a1 = 2 ∨ a1 = 3)) (w : World) :
    Calls Try.prog 132 #[.agg #[.int .i64 a1, .int .i64 a2, .int .i64 a3, .bool a4], .int .i64 n] w fun r w' => r = .returned (.bool false) ∧ Below w.heap.size w w' := by
  have h1 : (a1 != 2) = true := by simp; omega
  have h2 : (a1 != 3) = true := by simp; omega
  clear h
  go_enter Try.func132, Try.ntmps132
  go_wp2_with fail
  go_ret
  exact ⟨rfl, (Below.refl _ _).alloc (Nat.le_refl _) _⟩

set_option maxHeartbeats 1000000 in
theorem wcOk_2 (a2 a3 n : Int) (a4 : Bool) (w : World) :
    Calls Try.prog 132 #[.agg #[.int .i64 2, .int .i64 a2, .int .i64 a3, .bool a4], .int .i64 n] w fun r w' => r = .returned (.bool (wcOkB n ⟨2, a2, a3, a4⟩)) ∧ Below w.heap.size w w' := by
  have hpk := pageOk_any a2
  have hcv : ∀ w, Calls Try.prog 114 #[.int .i64 1] w fun e w' => e = .returned (.int .i64 256) ∧ w' = w := covers_any 1
  by_cases hp : pageOk a2 = true
  · rw [hp] at hpk
    have hp0 : 0 ≤ a2 ∧ a2 < 4096 := by simpa [pageOk] using hp
    by_cases hm : a2 % 256 = 0
    · have hm' : (a2 % 256 == 0) = true := by simp; omega
      by_cases h0 : 0 ≤ a3
      · have h0' : decide (0 ≤ a3) = true := by simpa using h0
        by_cases h1 : a3 < n
        · have h1' : decide (a3 < n) = true := by simpa using h1
          have hr : wcOkB n ⟨2, a2, a3, a4⟩ = true := by simp [wcOkB, cov, hp, hm, h0, h1]
          rw [hr]
          clear hr hp
          go_enter Try.func132, Try.ntmps132
          go_wp2_with fail
          go_quiet ((first | (go_at_call 60; exact Calls.quiet_of_same (hpk _)) | (go_at_call 114; exact Calls.quiet_of_same (hcv _))))
          go_wp2
          go_ret
          exact ⟨rfl, bDrewN ((Below.refl _ _).alloc (Nat.le_refl _) _) _⟩
        · have h1' : decide (a3 < n) = false := by simpa using h1
          have hr : wcOkB n ⟨2, a2, a3, a4⟩ = false := by simp [wcOkB, cov, hp, h1]
          rw [hr]
          clear hr hp
          go_enter Try.func132, Try.ntmps132
          go_wp2_with fail
          go_quiet ((first | (go_at_call 60; exact Calls.quiet_of_same (hpk _)) | (go_at_call 114; exact Calls.quiet_of_same (hcv _))))
          go_wp2
          go_ret
          exact ⟨rfl, bDrewN ((Below.refl _ _).alloc (Nat.le_refl _) _) _⟩
      · have h0' : decide (0 ≤ a3) = false := by simpa using h0
        have hr : wcOkB n ⟨2, a2, a3, a4⟩ = false := by simp [wcOkB, cov, hp, h0]
        rw [hr]
        clear hr hp
        go_enter Try.func132, Try.ntmps132
        go_wp2_with fail
        go_quiet ((first | (go_at_call 60; exact Calls.quiet_of_same (hpk _)) | (go_at_call 114; exact Calls.quiet_of_same (hcv _))))
        go_wp2
        go_ret
        exact ⟨rfl, bDrewN ((Below.refl _ _).alloc (Nat.le_refl _) _) _⟩
    · have hm' : (a2 % 256 == 0) = false := by simp; omega
      have hr : wcOkB n ⟨2, a2, a3, a4⟩ = false := by simp [wcOkB, cov, hp, hm]
      rw [hr]
      clear hr hp
      go_enter Try.func132, Try.ntmps132
      go_wp2_with fail
      go_quiet ((first | (go_at_call 60; exact Calls.quiet_of_same (hpk _)) | (go_at_call 114; exact Calls.quiet_of_same (hcv _))))
      go_wp2
      go_ret
      exact ⟨rfl, bDrewN ((Below.refl _ _).alloc (Nat.le_refl _) _) _⟩
  · have hp' : pageOk a2 = false := by simpa using hp
    rw [hp'] at hpk
    have hr : wcOkB n ⟨2, a2, a3, a4⟩ = false := by simp [wcOkB, hp']
    rw [hr]
    clear hr hp hp'
    go_enter Try.func132, Try.ntmps132
    go_wp2_with fail
    go_quiet ((first | (go_at_call 60; exact Calls.quiet_of_same (hpk _)) | (go_at_call 114; exact Calls.quiet_of_same (hcv _))))
    go_wp2
    go_ret
    exact ⟨rfl, bDrewN ((Below.refl _ _).alloc (Nat.le_refl _) _) _⟩

theorem wcCov_2 (a2 a3 p : Int) (a4 : Bool) (hp0 : 0 ≤ p) (hp1 : p < 100000) (w : World) :
    Calls Try.prog 134 #[.agg #[.int .i64 2, .int .i64 a2, .int .i64 a3, .bool a4], .int .i64 p] w fun r w' => r = .returned (.bool (wcCov ⟨2, a2, a3, a4⟩ p)) ∧ Below w.heap.size w w' := by
  have hcv : ∀ w, Calls Try.prog 114 #[.int .i64 1] w fun e w' => e = .returned (.int .i64 256) ∧ w' = w := covers_any 1
  have hr : wcCov ⟨2, a2, a3, a4⟩ p = decide (p - p % 256 = a2) := by simp [wcCov, cov]
  rw [hr]
  clear hr
  by_cases h : p - p % 256 = a2
  · have h' : (p - p % 256 == a2) = true := by simpa using h
    simp only [h, decide_true]
    clear h
    go_enter Try.func134, Try.ntmps134
    go_wp2_with fail
    go_quiet ((go_at_call 114; exact Calls.quiet_of_same (hcv _)))
    go_wp2
    go_ret
    exact ⟨rfl, bDrewN ((Below.refl _ _).alloc (Nat.le_refl _) _) _⟩
  · have h' : (p - p % 256 == a2) = false := by simpa using h
    simp only [h, decide_false]
    clear h
    go_enter Try.func134, Try.ntmps134
    go_wp2_with fail
    go_quiet ((go_at_call 114; exact Calls.quiet_of_same (hcv _)))
    go_wp2
    go_ret
    exact ⟨rfl, bDrewN ((Below.refl _ _).alloc (Nat.le_refl _) _) _⟩

set_option maxHeartbeats 1000000 in
theorem wcOk_3 (a2 a3 n : Int) (a4 : Bool) (w : World) :
    Calls Try.prog 132 #[.agg #[.int .i64 3, .int .i64 a2, .int .i64 a3, .bool a4], .int .i64 n] w fun r w' => r = .returned (.bool (wcOkB n ⟨3, a2, a3, a4⟩)) ∧ Below w.heap.size w w' := by
  have hpk := pageOk_any a2
  have hcv : ∀ w, Calls Try.prog 114 #[.int .i64 2] w fun e w' => e = .returned (.int .i64 16) ∧ w' = w := covers_any 2
  by_cases hp : pageOk a2 = true
  · rw [hp] at hpk
    have hp0 : 0 ≤ a2 ∧ a2 < 4096 := by simpa [pageOk] using hp
    by_cases hm : a2 % 16 = 0
    · have hm' : (a2 % 16 == 0) = true := by simp; omega
      by_cases h0 : 0 ≤ a3
      · have h0' : decide (0 ≤ a3) = true := by simpa using h0
        by_cases h1 : a3 < n
        · have h1' : decide (a3 < n) = true := by simpa using h1
          have hr : wcOkB n ⟨3, a2, a3, a4⟩ = true := by simp [wcOkB, cov, hp, hm, h0, h1]
          rw [hr]
          clear hr hp
          go_enter Try.func132, Try.ntmps132
          go_wp2_with fail
          go_quiet ((first | (go_at_call 60; exact Calls.quiet_of_same (hpk _)) | (go_at_call 114; exact Calls.quiet_of_same (hcv _))))
          go_wp2
          go_ret
          exact ⟨rfl, bDrewN ((Below.refl _ _).alloc (Nat.le_refl _) _) _⟩
        · have h1' : decide (a3 < n) = false := by simpa using h1
          have hr : wcOkB n ⟨3, a2, a3, a4⟩ = false := by simp [wcOkB, cov, hp, h1]
          rw [hr]
          clear hr hp
          go_enter Try.func132, Try.ntmps132
          go_wp2_with fail
          go_quiet ((first | (go_at_call 60; exact Calls.quiet_of_same (hpk _)) | (go_at_call 114; exact Calls.quiet_of_same (hcv _))))
          go_wp2
          go_ret
          exact ⟨rfl, bDrewN ((Below.refl _ _).alloc (Nat.le_refl _) _) _⟩
      · have h0' : decide (0 ≤ a3) = false := by simpa using h0
        have hr : wcOkB n ⟨3, a2, a3, a4⟩ = false := by simp [wcOkB, cov, hp, h0]
        rw [hr]
        clear hr hp
        go_enter Try.func132, Try.ntmps132
        go_wp2_with fail
        go_quiet ((first | (go_at_call 60; exact Calls.quiet_of_same (hpk _)) | (go_at_call 114; exact Calls.quiet_of_same (hcv _))))
        go_wp2
        go_ret
        exact ⟨rfl, bDrewN ((Below.refl _ _).alloc (Nat.le_refl _) _) _⟩
    · have hm' : (a2 % 16 == 0) = false := by simp; omega
      have hr : wcOkB n ⟨3, a2, a3, a4⟩ = false := by simp [wcOkB, cov, hp, hm]
      rw [hr]
      clear hr hp
      go_enter Try.func132, Try.ntmps132
      go_wp2_with fail
      go_quiet ((first | (go_at_call 60; exact Calls.quiet_of_same (hpk _)) | (go_at_call 114; exact Calls.quiet_of_same (hcv _))))
      go_wp2
      go_ret
      exact ⟨rfl, bDrewN ((Below.refl _ _).alloc (Nat.le_refl _) _) _⟩
  · have hp' : pageOk a2 = false := by simpa using hp
    rw [hp'] at hpk
    have hr : wcOkB n ⟨3, a2, a3, a4⟩ = false := by simp [wcOkB, hp']
    rw [hr]
    clear hr hp hp'
    go_enter Try.func132, Try.ntmps132
    go_wp2_with fail
    go_quiet ((first | (go_at_call 60; exact Calls.quiet_of_same (hpk _)) | (go_at_call 114; exact Calls.quiet_of_same (hcv _))))
    go_wp2
    go_ret
    exact ⟨rfl, bDrewN ((Below.refl _ _).alloc (Nat.le_refl _) _) _⟩

theorem wcCov_3 (a2 a3 p : Int) (a4 : Bool) (hp0 : 0 ≤ p) (hp1 : p < 100000) (w : World) :
    Calls Try.prog 134 #[.agg #[.int .i64 3, .int .i64 a2, .int .i64 a3, .bool a4], .int .i64 p] w fun r w' => r = .returned (.bool (wcCov ⟨3, a2, a3, a4⟩ p)) ∧ Below w.heap.size w w' := by
  have hcv : ∀ w, Calls Try.prog 114 #[.int .i64 2] w fun e w' => e = .returned (.int .i64 16) ∧ w' = w := covers_any 2
  have hr : wcCov ⟨3, a2, a3, a4⟩ p = decide (p - p % 16 = a2) := by simp [wcCov, cov]
  rw [hr]
  clear hr
  by_cases h : p - p % 16 = a2
  · have h' : (p - p % 16 == a2) = true := by simpa using h
    simp only [h, decide_true]
    clear h
    go_enter Try.func134, Try.ntmps134
    go_wp2_with fail
    go_quiet ((go_at_call 114; exact Calls.quiet_of_same (hcv _)))
    go_wp2
    go_ret
    exact ⟨rfl, bDrewN ((Below.refl _ _).alloc (Nat.le_refl _) _) _⟩
  · have h' : (p - p % 16 == a2) = false := by simpa using h
    simp only [h, decide_false]
    clear h
    go_enter Try.func134, Try.ntmps134
    go_wp2_with fail
    go_quiet ((go_at_call 114; exact Calls.quiet_of_same (hcv _)))
    go_wp2
    go_ret
    exact ⟨rfl, bDrewN ((Below.refl _ _).alloc (Nat.le_refl _) _) _⟩

theorem wcOk_any (n : Int) (e : WcE) (w : World) :
    Calls Try.prog 132 #[.agg #[.int .i64 e.level, .int .i64 e.page, .int .i64 e.table, .bool e.doom], .int .i64 n] w fun r w' => r = .returned (.bool (wcOkB n e)) ∧ Below w.heap.size w w' := by
  obtain ⟨a1, a2, a3, a4⟩ := e
  by_cases h1 : a1 = 2
  · subst h1; exact wcOk_2 a2 a3 n a4 w
  · by_cases h2 : a1 = 3
    · subst h2; exact wcOk_3 a2 a3 n a4 w
    · have : wcOkB n ⟨a1, a2, a3, a4⟩ = false := by simp [wcOkB, h1, h2]
      rw [this]
      exact wcOk_level a1 a2 a3 n a4 (by omega) w
end Go.Proofs.Ytnmhkgmmpkjjeab
