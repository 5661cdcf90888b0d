import Derived.Test.YtiiejckfcnmhoabGreatMStep
import Derived.Test.YtiiejckfcnmhoabGreatIPlc
import Derived.Test.YtiiejckfcnmhoabGreatUBits
import Derived.Test.YtiiejckfcnmhoabGreatUWide
import Derived.Test.YtiiejckfcnmhoabGreatUDelF
import Derived.Deep.DeepCutAuto
import Derived.Deep.RegionLaw
namespace Go.Proofs.YtiiejckfcnmhoabGreat
open Go.ChangeShapes Go.WideShapes Go.ChangeAt Go.RowKit
set_option linter.unusedVariables false
attribute [local go_sem ↓] Go.wp_at_zero Go.wp_at_succ

theorem hasFr_any (a : Option Addr) (m c : Nat) (o : Int) (hm : m ≤ 8192) (hm2 : m % 16 = 0) (w : World) :
    Calls Tryz.prog 127 #[.agg #[.slice a m c], .int .i64 o] w fun e w' => e = .returned (.bool (decide (0 ≤ o ∧ o < (m : Int) / 16))) ∧ Below w.heap.size w w' := by
  by_cases ho : 0 ≤ o
  · have := hasFrame_any a m c o ((m : Int) / 16) (by omega) ho hm w
    rw [show decide (0 ≤ o ∧ o < (m : Int) / 16) = decide (o < (m : Int) / 16) by simp [ho]]
    exact this
  · have h0 : decide (0 ≤ o) = false := decide_eq_false ho
    rw [decide_eq_false (p := 0 ≤ o ∧ o < (m : Int) / 16) (fun h => ho h.1)]
    clear ho
    go_enter Tryz.func127, Tryz.ntmps127
    go_wp2
    go_ret
    exact ⟨rfl, (Below.refl _ _).alloc (Nat.le_refl _) _⟩

theorem edit1_any (A B W : Int) (w : World) :
    Calls Tryz.prog 117 #[.agg #[.int .i64 1, .int .i64 A, .int .i64 B, .int .u64 W]] w fun e w' => e = .returned (.iface 200 (.agg #[.int .i64 1, .int .i64 A, .int .i64 B, .int .u64 W])) ∧ Below w.heap.size w w' := by
  go_enter Tryz.func117, Tryz.ntmps117
  go_wp2_with fail
  go_ret
  exact ⟨rfl, (Below.refl _ _).alloc (Nat.le_refl _) _⟩

theorem edit2_any (A B W : Int) (w : World) :
    Calls Tryz.prog 117 #[.agg #[.int .i64 2, .int .i64 A, .int .i64 B, .int .u64 W]] w fun e w' => e = .returned (.iface 201 (.agg #[.int .i64 2, .int .i64 A, .int .i64 B, .int .u64 W])) ∧ Below w.heap.size w w' := by
  go_enter Tryz.func117, Tryz.ntmps117
  go_wp2_with fail
  go_ret
  exact ⟨rfl, (Below.refl _ _).alloc (Nat.le_refl _) _⟩

theorem edit3_any (A B W : Int) (w : World) :
    Calls Tryz.prog 117 #[.agg #[.int .i64 3, .int .i64 A, .int .i64 B, .int .u64 W]] w fun e w' => e = .returned (.iface 202 (.agg #[.int .i64 3, .int .i64 A, .int .i64 B, .int .u64 W])) ∧ Below w.heap.size w w' := by
  go_enter Tryz.func117, Tryz.ntmps117
  go_wp2_with fail
  go_ret
  exact ⟨rfl, (Below.refl _ _).alloc (Nat.le_refl _) _⟩

theorem edit4_any (A B W : Int) (w : World) :
    Calls Tryz.prog 117 #[.agg #[.int .i64 4, .int .i64 A, .int .i64 B, .int .u64 W]] w fun e w' => e = .returned (.iface 203 (.agg #[.int .i64 4, .int .i64 A, .int .i64 B, .int .u64 W])) ∧ Below w.heap.size w w' := by
  go_enter Tryz.func117, Tryz.ntmps117
  go_wp2_with fail
  go_ret
  exact ⟨rfl, (Below.refl _ _).alloc (Nat.le_refl _) _⟩

theorem edit0_any (K A B W : Int) (w : World) (h1 : ¬ K = 1) (h2 : ¬ K = 2) (h3 : ¬ K = 3) (h4 : ¬ K = 4) :
    Calls Tryz.prog 117 #[.agg #[.int .i64 K, .int .i64 A, .int .i64 B, .int .u64 W]] w fun e w' => e = .returned .nilIface ∧ Below w.heap.size w w' := by
  have d1 : (K == 1) = false := by simpa using h1
  have d2 : (K == 2) = false := by simpa using h2
  have d3 : (K == 3) = false := by simpa using h3
  have d4 : (K == 4) = false := by simpa using h4
  clear h1 h2 h3 h4
  go_enter Tryz.func117, Tryz.ntmps117
  go_wp2_with fail
  go_ret
  exact ⟨rfl, (Below.refl _ _).alloc (Nat.le_refl _) _⟩

set_option maxHeartbeats 1000000 in
theorem wfWrite_any (gu : Nat) (K A B W : Int) (a1 a3 : Option Addr) (n1 c1 n3 c3 : Nat) (w : World) (hg : gu < w.heap.size) (q0 : w.cell? ⟨gu, 0, none⟩ = some (.slice a1 n1 c1)) (q2 : w.cell? ⟨gu, 2, none⟩ = some (.slice a3 n3 c3)) :
    Calls Tryz.prog 183 #[.agg #[.int .i64 K, .int .i64 A, .int .i64 B, .int .u64 W], .pointer (some ⟨gu, 0, none⟩)] w fun e w' => e = .returned (.bool (decide (0 ≤ A ∧ A < (n1 : Int) ∧ B = 0 ∧ (n3 : Int) < 10000))) ∧ Below w.heap.size w w' := by
  by_cases h0 : 0 ≤ A
  · have d0 : decide (0 ≤ A) = true := by simpa using h0
    by_cases h1 : A < (n1 : Int)
    · have d1 : decide (A < (n1 : Int)) = true := by simpa using h1
      by_cases h2 : B = 0
      · have d2 : (B == 0) = true := by simpa using h2
        by_cases h3 : (n3 : Int) < 10000
        · have d3 : decide ((n3 : Int) < 10000) = true := by simpa using h3
          rw [decide_eq_true (p := 0 ≤ A ∧ A < (n1 : Int) ∧ B = 0 ∧ (n3 : Int) < 10000) (by omega)]
          go_enter Tryz.func183, Tryz.ntmps183
          go_wp2_with fail
          go_quiet (fail)
          go_wp2_with fail
          go_ret
          exact ⟨by first | rfl | simp, bDrewN ((Below.refl _ _).alloc (Nat.le_refl _) _) _⟩
        · have d3 : decide ((n3 : Int) < 10000) = false := by simpa using h3
          rw [decide_eq_false (p := 0 ≤ A ∧ A < (n1 : Int) ∧ B = 0 ∧ (n3 : Int) < 10000) (fun h => h3 (by omega))]
          clear h3
          go_enter Tryz.func183, Tryz.ntmps183
          go_wp2_with fail
          go_quiet (fail)
          go_wp2_with fail
          go_ret
          exact ⟨by first | rfl | simp, bDrewN ((Below.refl _ _).alloc (Nat.le_refl _) _) _⟩
      · have d2 : (B == 0) = false := by simpa using h2
        rw [decide_eq_false (p := 0 ≤ A ∧ A < (n1 : Int) ∧ B = 0 ∧ (n3 : Int) < 10000) (fun h => h2 (by omega))]
        clear h2
        go_enter Tryz.func183, Tryz.ntmps183
        go_wp2_with fail
        go_quiet (fail)
        go_wp2_with fail
        go_ret
        exact ⟨by first | rfl | simp, bDrewN ((Below.refl _ _).alloc (Nat.le_refl _) _) _⟩
    · have d1 : decide (A < (n1 : Int)) = false := by simpa using h1
      rw [decide_eq_false (p := 0 ≤ A ∧ A < (n1 : Int) ∧ B = 0 ∧ (n3 : Int) < 10000) (fun h => h1 (by omega))]
      clear h1
      go_enter Tryz.func183, Tryz.ntmps183
      go_wp2_with fail
      go_quiet (fail)
      go_wp2_with fail
      go_ret
      exact ⟨by first | rfl | simp, bDrewN ((Below.refl _ _).alloc (Nat.le_refl _) _) _⟩
  · have d0 : decide (0 ≤ A) = false := by simpa using h0
    rw [decide_eq_false (p := 0 ≤ A ∧ A < (n1 : Int) ∧ B = 0 ∧ (n3 : Int) < 10000) (fun h => h0 (by omega))]
    clear h0
    go_enter Tryz.func183, Tryz.ntmps183
    go_wp2_with fail
    go_quiet (fail)
    go_wp2_with fail
    go_ret
    exact ⟨by first | rfl | simp, bDrewN ((Below.refl _ _).alloc (Nat.le_refl _) _) _⟩

set_option maxHeartbeats 1000000 in
theorem wfBarrier_any (gu : Nat) (K A B W : Int)  (w : World)  :
    Calls Tryz.prog 185 #[.agg #[.int .i64 K, .int .i64 A, .int .i64 B, .int .u64 W], .pointer (some ⟨gu, 0, none⟩)] w fun e w' => e = .returned (.bool (decide (A = 0 ∧ B = 0 ∧ W = 0))) ∧ Below w.heap.size w w' := by
  by_cases h0 : A = 0
  · have d0 : (A == 0) = true := by simpa using h0
    by_cases h1 : B = 0
    · have d1 : (B == 0) = true := by simpa using h1
      by_cases h2 : W = 0
      · have d2 : (W == 0) = true := by simpa using h2
        rw [decide_eq_true (p := A = 0 ∧ B = 0 ∧ W = 0) (by omega)]
        go_enter Tryz.func185, Tryz.ntmps185
        go_wp2_with fail
        go_ret
        exact ⟨by first | rfl | simp, (Below.refl _ _).alloc (Nat.le_refl _) _⟩
      · have d2 : (W == 0) = false := by simpa using h2
        rw [decide_eq_false (p := A = 0 ∧ B = 0 ∧ W = 0) (fun h => h2 (by omega))]
        clear h2
        go_enter Tryz.func185, Tryz.ntmps185
        go_wp2_with fail
        go_ret
        exact ⟨by first | rfl | simp, (Below.refl _ _).alloc (Nat.le_refl _) _⟩
    · have d1 : (B == 0) = false := by simpa using h1
      rw [decide_eq_false (p := A = 0 ∧ B = 0 ∧ W = 0) (fun h => h1 (by omega))]
      clear h1
      go_enter Tryz.func185, Tryz.ntmps185
      go_wp2_with fail
      go_ret
      exact ⟨by first | rfl | simp, (Below.refl _ _).alloc (Nat.le_refl _) _⟩
  · have d0 : (A == 0) = false := by simpa using h0
    rw [decide_eq_false (p := A = 0 ∧ B = 0 ∧ W = 0) (fun h => h0 (by omega))]
    clear h0
    go_enter Tryz.func185, Tryz.ntmps185
    go_wp2_with fail
    go_ret
    exact ⟨by first | rfl | simp, (Below.refl _ _).alloc (Nat.le_refl _) _⟩

set_option maxHeartbeats 1000000 in
theorem wfInv_any (gu : Nat) (K A B W : Int)  (w : World) (ha0 : 0 ≤ A) (ha1 : A < 4096) :
    Calls Tryz.prog 193 #[.agg #[.int .i64 K, .int .i64 A, .int .i64 B, .int .u64 W], .pointer (some ⟨gu, 0, none⟩)] w fun e w' => e = .returned (.bool (decide (0 ≤ A ∧ A < 4096 ∧ 1 ≤ B ∧ A + B ≤ 4096 ∧ W = 0))) ∧ Below w.heap.size w w' := by
  have hpk := validPage_any A
  rw [show pageOk A = true by simp [pageOk, ha0, ha1]] at hpk
  by_cases h0 : 1 ≤ B
  · have d0 : decide (1 ≤ B) = true := by simpa using h0
    by_cases h1 : B ≤ 4096 - A
    · have d1 : decide (B ≤ 4096 - A) = true := by simpa using h1
      by_cases h2 : W = 0
      · have d2 : (W == 0) = true := by simpa using h2
        rw [decide_eq_true (p := 0 ≤ A ∧ A < 4096 ∧ 1 ≤ B ∧ A + B ≤ 4096 ∧ W = 0) (by omega)]
        go_enter Tryz.func193, Tryz.ntmps193
        go_wp2_with (go_at_call 48; refine (hpk _).mono ?_; rintro e w1 ⟨rfl, hw1⟩; obtain rfl := hw1.symm)
        go_ret
        exact ⟨by first | rfl | simp, (Below.refl _ _).alloc (Nat.le_refl _) _⟩
      · have d2 : (W == 0) = false := by simpa using h2
        rw [decide_eq_false (p := 0 ≤ A ∧ A < 4096 ∧ 1 ≤ B ∧ A + B ≤ 4096 ∧ W = 0) (fun h => h2 (by omega))]
        clear h2
        go_enter Tryz.func193, Tryz.ntmps193
        go_wp2_with (go_at_call 48; refine (hpk _).mono ?_; rintro e w1 ⟨rfl, hw1⟩; obtain rfl := hw1.symm)
        go_ret
        exact ⟨by first | rfl | simp, (Below.refl _ _).alloc (Nat.le_refl _) _⟩
    · have d1 : decide (B ≤ 4096 - A) = false := by simpa using h1
      rw [decide_eq_false (p := 0 ≤ A ∧ A < 4096 ∧ 1 ≤ B ∧ A + B ≤ 4096 ∧ W = 0) (fun h => h1 (by omega))]
      clear h1
      go_enter Tryz.func193, Tryz.ntmps193
      go_wp2_with (go_at_call 48; refine (hpk _).mono ?_; rintro e w1 ⟨rfl, hw1⟩; obtain rfl := hw1.symm)
      go_ret
      exact ⟨by first | rfl | simp, (Below.refl _ _).alloc (Nat.le_refl _) _⟩
  · have d0 : decide (1 ≤ B) = false := by simpa using h0
    rw [decide_eq_false (p := 0 ≤ A ∧ A < 4096 ∧ 1 ≤ B ∧ A + B ≤ 4096 ∧ W = 0) (fun h => h0 (by omega))]
    clear h0
    go_enter Tryz.func193, Tryz.ntmps193
    go_wp2_with (go_at_call 48; refine (hpk _).mono ?_; rintro e w1 ⟨rfl, hw1⟩; obtain rfl := hw1.symm)
    go_ret
    exact ⟨by first | rfl | simp, (Below.refl _ _).alloc (Nat.le_refl _) _⟩

theorem wfInv_no (gu : Nat) (K A B W : Int) (w : World) (ha : ¬ (0 ≤ A ∧ A < 4096)) :
    Calls Tryz.prog 193 #[.agg #[.int .i64 K, .int .i64 A, .int .i64 B, .int .u64 W], .pointer (some ⟨gu, 0, none⟩)] w fun e w' => e = .returned (.bool (decide (0 ≤ A ∧ A < 4096 ∧ 1 ≤ B ∧ A + B ≤ 4096 ∧ W = 0))) ∧ Below w.heap.size w w' := by
  have hpk := validPage_any A
  rw [show pageOk A = false by simp only [pageOk, Bool.and_eq_false_iff, decide_eq_false_iff_not]; omega] at hpk
  rw [decide_eq_false (p := 0 ≤ A ∧ A < 4096 ∧ 1 ≤ B ∧ A + B ≤ 4096 ∧ W = 0) (fun h => ha ⟨h.1, h.2.1⟩)]
  clear ha
  go_enter Tryz.func193, Tryz.ntmps193
  go_wp2_with (go_at_call 48; refine (hpk _).mono ?_; rintro e w1 ⟨rfl, hw1⟩; obtain rfl := hw1.symm)
  go_ret
  exact ⟨by first | rfl | simp, (Below.refl _ _).alloc (Nat.le_refl _) _⟩

set_option maxHeartbeats 1000000 in
theorem wfFree_any (gu : Nat) (K A B W : Int) (a1 : Option Addr) (n1 c1 : Nat) (w : World) (hn1 : n1 ≤ 8192) (hn2 : n1 % 16 = 0) (hg : gu < w.heap.size) (q0 : w.cell? ⟨gu, 0, none⟩ = some (.slice a1 n1 c1)) :
    Calls Tryz.prog 196 #[.agg #[.int .i64 K, .int .i64 A, .int .i64 B, .int .u64 W], .pointer (some ⟨gu, 0, none⟩)] w fun e w' => e = .returned (.bool (decide (0 ≤ A ∧ A < (n1 : Int) / 16 ∧ B = 0 ∧ W = 0))) ∧ Below w.heap.size w w' := by
  obtain ⟨wb, hwb⟩ : ∃ wb, wb = w.alloc (.cells #[.int .i64 K, .int .i64 A, .int .i64 B, .int .u64 W] 203) := ⟨_, rfl⟩
  have hbb : Below w.heap.size w wb := by rw [hwb]; exact (Below.refl _ _).alloc (Nat.le_refl _) _
  have hzb : wb.heap.size = w.heap.size + 1 := by rw [hwb]; simp
  have HK : Hid (∀ wX, Below wb.heap.size wb wX → wX.cell? ⟨gu, 0, none⟩ = some (.slice a1 n1 c1) ∧ (wX.cell? ⟨w.heap.size, 0, none⟩ = some (.int .i64 K) ∧ wX.cell? ⟨w.heap.size, 1, none⟩ = some (.int .i64 A) ∧ wX.cell? ⟨w.heap.size, 2, none⟩ = some (.int .i64 B) ∧ wX.cell? ⟨w.heap.size, 3, none⟩ = some (.int .u64 W))) := fun wX hX => by
    refine ⟨(hX.cell (by simp; omega)).trans ((hbb.cell hg).trans q0), ?_, ?_, ?_, ?_⟩
    iterate 4 (exact (hX.cell (by simp; omega)).trans (by rw [hwb]; simp [go_sem]))
  have hhf := hasFr_any a1 n1 c1 A hn1 hn2
  have HWB : Hid (wb = _) := hwb
  have HBB : Hid (Below w.heap.size w wb) := hbb
  clear hwb hbb hzb q0
  by_cases h0 : 0 ≤ A ∧ A < (n1 : Int) / 16
  · rw [decide_eq_true h0] at hhf
    by_cases h1 : B = 0
    · have D1 : Hid ((B == 0) = true) := (by simpa using h1 : (B == 0) = true)
      by_cases h2 : W = 0
      · have D2 : Hid ((W == 0) = true) := (by simpa using h2 : (W == 0) = true)
        rw [decide_eq_true (p := 0 ≤ A ∧ A < (n1 : Int) / 16 ∧ B = 0 ∧ W = 0) (by omega)]
        clear h1 h2
        go_enter Tryz.func196, Tryz.ntmps196
        go_wp2_with fail
        rw [← HWB.out]
        have d1 := D1.out
        have d2 := D2.out
        refine wp_region_held_drew (S := (fun wX => wX.cell? ⟨gu, 0, none⟩ = some (.slice a1 n1 c1) ∧ (wX.cell? ⟨w.heap.size, 0, none⟩ = some (.int .i64 K) ∧ wX.cell? ⟨w.heap.size, 1, none⟩ = some (.int .i64 A) ∧ wX.cell? ⟨w.heap.size, 2, none⟩ = some (.int .i64 B) ∧ wX.cell? ⟨w.heap.size, 3, none⟩ = some (.int .u64 W)))) (by kernel_rfl) (HK.out _ ((Below.refl _ _).drew)) (fun hHeld => ?_)
        refine wpAnyH_take (i := 0) (v := ?_) rfl (by kernel_rfl) (by kernel_rfl) (by kernel_rfl) (fun _ _ _ h => h) (Or.inl ⟨by rfl, ?_⟩) (by assumption) ?_
        rotate_left
        · (intro w hSw; (try dsimp only at hSw); go_simp; try with_reducible rfl)
        simp only [Act.put, List.setIfInBounds_toArray, List.set_cons_zero, List.set_cons_succ, List.getElem_toArray, List.getElem_cons_zero]
        refine wpAnyH_take (i := 1) (v := ?_) rfl (by kernel_rfl) (by kernel_rfl) (by kernel_rfl) (fun _ _ _ h => h) (Or.inl ⟨by rfl, ?_⟩) (by assumption) ?_
        rotate_left
        · (intro w hSw; (try dsimp only at hSw); go_simp; try with_reducible rfl)
        simp only [Act.put, List.setIfInBounds_toArray, List.set_cons_zero, List.set_cons_succ, List.getElem_toArray, List.getElem_cons_zero, List.getElem_cons_succ]
        refine wpAnyH_take (i := 2) (v := ?_) rfl (by kernel_rfl) (by kernel_rfl) (by kernel_rfl) (fun _ _ _ h => h) (Or.inl ⟨by rfl, ?_⟩) (by assumption) ?_
        rotate_left
        · (intro w hSw; (try dsimp only at hSw); go_simp; try with_reducible rfl)
        simp only [Act.put, List.setIfInBounds_toArray, List.set_cons_zero, List.set_cons_succ, List.getElem_toArray, List.getElem_cons_zero, List.getElem_cons_succ]
        refine wpAnyH_take (i := 3) (v := ?_) rfl (by kernel_rfl) (by kernel_rfl) (by kernel_rfl) (fun _ _ _ h => h) (Or.inl ⟨by rfl, ?_⟩) (by assumption) ?_
        rotate_left
        · (intro w hSw; (try dsimp only at hSw); go_simp; try with_reducible rfl)
        simp only [Act.put, List.setIfInBounds_toArray, List.set_cons_zero, List.set_cons_succ, List.getElem_toArray, List.getElem_cons_zero, List.getElem_cons_succ]
        refine wpAnyH_take (i := 4) (v := ?_) rfl (by kernel_rfl) (by kernel_rfl) (by kernel_rfl) (fun _ _ _ h => h) (Or.inl ⟨by rfl, ?_⟩) (by assumption) ?_
        rotate_left
        · (intro w hSw; (try dsimp only at hSw); go_simp; try with_reducible rfl)
        simp only [Act.put, List.setIfInBounds_toArray, List.set_cons_zero, List.set_cons_succ, List.getElem_toArray, List.getElem_cons_zero, List.getElem_cons_succ]
        refine wpAnyH_take (i := 5) (v := ?_) rfl (by kernel_rfl) (by kernel_rfl) (by kernel_rfl) (fun _ _ _ h => h) (Or.inl ⟨by rfl, ?_⟩) (by assumption) ?_
        rotate_left
        · (intro w hSw; (try dsimp only at hSw); go_simp; try with_reducible rfl)
        simp only [Act.put, List.setIfInBounds_toArray, List.set_cons_zero, List.set_cons_succ, List.getElem_toArray, List.getElem_cons_zero, List.getElem_cons_succ]
        refine wpAnyH_ready (rs := [6]) (by kernel_rfl) (by simp) ?_
        refine AllReadyH.cons rfl (fun K hK => ?_) AllReadyH.nil
        go_simp
        go_at_call 127
        refine (hhf _).mono ?_
        rintro e w1 ⟨rfl, hb1⟩
        go_wp2_with fail
        refine hK.out _ _ (by refine HK.out _ ?_; exact (Below.refl _ _).drew.trans (hb1.mono (by simp))) (fun hHeld2 => ?_)
        clear hK K
        refine wpAnyH_take (i := 7) (v := ?_) rfl (by kernel_rfl) (by kernel_rfl) (by kernel_rfl) (fun _ _ _ h => h) (Or.inl ⟨by rfl, ?_⟩) (by assumption) ?_
        rotate_left
        · (intro w hSw; (try dsimp only at hSw); go_simp; try with_reducible rfl)
        simp only [Act.put, List.setIfInBounds_toArray, List.set_cons_zero, List.set_cons_succ, List.getElem_toArray, List.getElem_cons_zero, List.getElem_cons_succ]
        refine wpAnyH_take (i := 8) (v := ?_) rfl (by kernel_rfl) (by kernel_rfl) (by kernel_rfl) (fun _ _ _ h => h) (Or.inl ⟨by rfl, ?_⟩) (by assumption) ?_
        rotate_left
        · (intro w hSw; (try dsimp only at hSw); go_simp; try with_reducible rfl)
        simp only [Act.put, List.setIfInBounds_toArray, List.set_cons_zero, List.set_cons_succ, List.getElem_toArray, List.getElem_cons_zero, List.getElem_cons_succ]
        refine wpAnyH_take (i := 9) (v := ?_) rfl (by kernel_rfl) (by kernel_rfl) (by kernel_rfl) (fun _ _ _ h => h) (Or.inl ⟨by rfl, ?_⟩) (by assumption) ?_
        rotate_left
        · (intro w hSw; (try dsimp only at hSw); go_simp; try with_reducible rfl)
        simp only [Act.put, List.setIfInBounds_toArray, List.set_cons_zero, List.set_cons_succ, List.getElem_toArray, List.getElem_cons_zero, List.getElem_cons_succ]
        refine wpAnyH_take (i := 10) (v := ?_) rfl (by kernel_rfl) (by kernel_rfl) (by kernel_rfl) (fun _ _ _ h => h) (Or.inl ⟨by rfl, ?_⟩) (by assumption) ?_
        rotate_left
        · (intro w hSw; (try dsimp only at hSw); go_simp; try with_reducible rfl)
        simp only [Act.put, List.setIfInBounds_toArray, List.set_cons_zero, List.set_cons_succ, List.getElem_toArray, List.getElem_cons_zero, List.getElem_cons_succ]
        refine wpAnyH_take (i := 11) (v := ?_) rfl (by kernel_rfl) (by kernel_rfl) (by kernel_rfl) (fun _ _ _ h => h) (Or.inl ⟨by rfl, ?_⟩) (by assumption) ?_
        rotate_left
        · (intro w hSw; (try dsimp only at hSw); go_simp; try with_reducible rfl)
        simp only [Act.put, List.setIfInBounds_toArray, List.set_cons_zero, List.set_cons_succ, List.getElem_toArray, List.getElem_cons_zero, List.getElem_cons_succ]
        refine wpAnyH_take (i := 12) (v := ?_) rfl (by kernel_rfl) (by kernel_rfl) (by kernel_rfl) (fun _ _ _ h => h) (Or.inl ⟨by rfl, ?_⟩) (by assumption) ?_
        rotate_left
        · (intro w hSw; (try dsimp only at hSw); go_simp; try with_reducible rfl)
        simp only [Act.put, List.setIfInBounds_toArray, List.set_cons_zero, List.set_cons_succ, List.getElem_toArray, List.getElem_cons_zero, List.getElem_cons_succ]
        refine wpAnyH_take (i := 13) (v := ?_) rfl (by kernel_rfl) (by kernel_rfl) (by kernel_rfl) (fun _ _ _ h => h) (Or.inl ⟨by rfl, ?_⟩) (by assumption) ?_
        rotate_left
        · (intro w hSw; (try dsimp only at hSw); go_simp; try with_reducible rfl)
        simp only [Act.put, List.setIfInBounds_toArray, List.set_cons_zero, List.set_cons_succ, List.getElem_toArray, List.getElem_cons_zero, List.getElem_cons_succ]
        refine wpAnyH_take (i := 14) (v := ?_) rfl (by kernel_rfl) (by kernel_rfl) (by kernel_rfl) (fun _ _ _ h => h) (Or.inl ⟨by rfl, ?_⟩) (by assumption) ?_
        rotate_left
        · (intro w hSw; (try dsimp only at hSw); go_simp; try with_reducible rfl)
        simp only [Act.put, List.setIfInBounds_toArray, List.set_cons_zero, List.set_cons_succ, List.getElem_toArray, List.getElem_cons_zero, List.getElem_cons_succ]
        refine wpAnyH_take (i := 15) (v := ?_) rfl (by kernel_rfl) (by kernel_rfl) (by kernel_rfl) (fun _ _ _ h => h) (Or.inl ⟨by rfl, ?_⟩) (by assumption) ?_
        rotate_left
        · (intro w hSw; (try dsimp only at hSw); go_simp; try with_reducible rfl)
        simp only [Act.put, List.setIfInBounds_toArray, List.set_cons_zero, List.set_cons_succ, List.getElem_toArray, List.getElem_cons_zero, List.getElem_cons_succ]
        refine wpAnyH_take (i := 16) (v := ?_) rfl (by kernel_rfl) (by kernel_rfl) (by kernel_rfl) (fun _ _ _ h => h) (Or.inl ⟨by rfl, ?_⟩) (by assumption) ?_
        rotate_left
        · (intro w hSw; (try dsimp only at hSw); go_simp; try with_reducible rfl)
        simp only [Act.put, List.setIfInBounds_toArray, List.set_cons_zero, List.set_cons_succ, List.getElem_toArray, List.getElem_cons_zero, List.getElem_cons_succ]
        refine wpAnyH_take (i := 17) (v := ?_) rfl (by kernel_rfl) (by kernel_rfl) (by kernel_rfl) (fun _ _ _ h => h) (Or.inl ⟨by rfl, ?_⟩) (by assumption) ?_
        rotate_left
        · (intro w hSw; (try dsimp only at hSw); go_simp; try with_reducible rfl)
        simp only [Act.put, List.setIfInBounds_toArray, List.set_cons_zero, List.set_cons_succ, List.getElem_toArray, List.getElem_cons_zero, List.getElem_cons_succ]
        refine wpAnyH_done (by kernel_rfl) ?_ _
        go_wp2_with fail
        go_ret
        refine ⟨by first | rfl | simp, HBB.out.trans (Below.mono ?_ HBB.out.size)⟩
        exact (Below.refl _ _).drew.trans (hb1.mono (by simp))
      · have D2 : Hid ((W == 0) = false) := (by simpa using h2 : (W == 0) = false)
        rw [decide_eq_false (p := 0 ≤ A ∧ A < (n1 : Int) / 16 ∧ B = 0 ∧ W = 0) (fun h => h2 (by omega))]
        clear h2
        clear h1
        go_enter Tryz.func196, Tryz.ntmps196
        go_wp2_with fail
        rw [← HWB.out]
        have d1 := D1.out
        have d2 := D2.out
        refine wp_region_held_drew (S := (fun wX => wX.cell? ⟨gu, 0, none⟩ = some (.slice a1 n1 c1) ∧ (wX.cell? ⟨w.heap.size, 0, none⟩ = some (.int .i64 K) ∧ wX.cell? ⟨w.heap.size, 1, none⟩ = some (.int .i64 A) ∧ wX.cell? ⟨w.heap.size, 2, none⟩ = some (.int .i64 B) ∧ wX.cell? ⟨w.heap.size, 3, none⟩ = some (.int .u64 W)))) (by kernel_rfl) (HK.out _ ((Below.refl _ _).drew)) (fun hHeld => ?_)
        refine wpAnyH_take (i := 0) (v := ?_) rfl (by kernel_rfl) (by kernel_rfl) (by kernel_rfl) (fun _ _ _ h => h) (Or.inl ⟨by rfl, ?_⟩) (by assumption) ?_
        rotate_left
        · (intro w hSw; (try dsimp only at hSw); go_simp; try with_reducible rfl)
        simp only [Act.put, List.setIfInBounds_toArray, List.set_cons_zero, List.set_cons_succ, List.getElem_toArray, List.getElem_cons_zero]
        refine wpAnyH_take (i := 1) (v := ?_) rfl (by kernel_rfl) (by kernel_rfl) (by kernel_rfl) (fun _ _ _ h => h) (Or.inl ⟨by rfl, ?_⟩) (by assumption) ?_
        rotate_left
        · (intro w hSw; (try dsimp only at hSw); go_simp; try with_reducible rfl)
        simp only [Act.put, List.setIfInBounds_toArray, List.set_cons_zero, List.set_cons_succ, List.getElem_toArray, List.getElem_cons_zero, List.getElem_cons_succ]
        refine wpAnyH_take (i := 2) (v := ?_) rfl (by kernel_rfl) (by kernel_rfl) (by kernel_rfl) (fun _ _ _ h => h) (Or.inl ⟨by rfl, ?_⟩) (by assumption) ?_
        rotate_left
        · (intro w hSw; (try dsimp only at hSw); go_simp; try with_reducible rfl)
        simp only [Act.put, List.setIfInBounds_toArray, List.set_cons_zero, List.set_cons_succ, List.getElem_toArray, List.getElem_cons_zero, List.getElem_cons_succ]
        refine wpAnyH_take (i := 3) (v := ?_) rfl (by kernel_rfl) (by kernel_rfl) (by kernel_rfl) (fun _ _ _ h => h) (Or.inl ⟨by rfl, ?_⟩) (by assumption) ?_
        rotate_left
        · (intro w hSw; (try dsimp only at hSw); go_simp; try with_reducible rfl)
        simp only [Act.put, List.setIfInBounds_toArray, List.set_cons_zero, List.set_cons_succ, List.getElem_toArray, List.getElem_cons_zero, List.getElem_cons_succ]
        refine wpAnyH_take (i := 4) (v := ?_) rfl (by kernel_rfl) (by kernel_rfl) (by kernel_rfl) (fun _ _ _ h => h) (Or.inl ⟨by rfl, ?_⟩) (by assumption) ?_
        rotate_left
        · (intro w hSw; (try dsimp only at hSw); go_simp; try with_reducible rfl)
        simp only [Act.put, List.setIfInBounds_toArray, List.set_cons_zero, List.set_cons_succ, List.getElem_toArray, List.getElem_cons_zero, List.getElem_cons_succ]
        refine wpAnyH_take (i := 5) (v := ?_) rfl (by kernel_rfl) (by kernel_rfl) (by kernel_rfl) (fun _ _ _ h => h) (Or.inl ⟨by rfl, ?_⟩) (by assumption) ?_
        rotate_left
        · (intro w hSw; (try dsimp only at hSw); go_simp; try with_reducible rfl)
        simp only [Act.put, List.setIfInBounds_toArray, List.set_cons_zero, List.set_cons_succ, List.getElem_toArray, List.getElem_cons_zero, List.getElem_cons_succ]
        refine wpAnyH_ready (rs := [6]) (by kernel_rfl) (by simp) ?_
        refine AllReadyH.cons rfl (fun K hK => ?_) AllReadyH.nil
        go_simp
        go_at_call 127
        refine (hhf _).mono ?_
        rintro e w1 ⟨rfl, hb1⟩
        go_wp2_with fail
        refine hK.out _ _ (by refine HK.out _ ?_; exact (Below.refl _ _).drew.trans (hb1.mono (by simp))) (fun hHeld2 => ?_)
        clear hK K
        refine wpAnyH_take (i := 7) (v := ?_) rfl (by kernel_rfl) (by kernel_rfl) (by kernel_rfl) (fun _ _ _ h => h) (Or.inl ⟨by rfl, ?_⟩) (by assumption) ?_
        rotate_left
        · (intro w hSw; (try dsimp only at hSw); go_simp; try with_reducible rfl)
        simp only [Act.put, List.setIfInBounds_toArray, List.set_cons_zero, List.set_cons_succ, List.getElem_toArray, List.getElem_cons_zero, List.getElem_cons_succ]
        refine wpAnyH_take (i := 8) (v := ?_) rfl (by kernel_rfl) (by kernel_rfl) (by kernel_rfl) (fun _ _ _ h => h) (Or.inl ⟨by rfl, ?_⟩) (by assumption) ?_
        rotate_left
        · (intro w hSw; (try dsimp only at hSw); go_simp; try with_reducible rfl)
        simp only [Act.put, List.setIfInBounds_toArray, List.set_cons_zero, List.set_cons_succ, List.getElem_toArray, List.getElem_cons_zero, List.getElem_cons_succ]
        refine wpAnyH_take (i := 9) (v := ?_) rfl (by kernel_rfl) (by kernel_rfl) (by kernel_rfl) (fun _ _ _ h => h) (Or.inl ⟨by rfl, ?_⟩) (by assumption) ?_
        rotate_left
        · (intro w hSw; (try dsimp only at hSw); go_simp; try with_reducible rfl)
        simp only [Act.put, List.setIfInBounds_toArray, List.set_cons_zero, List.set_cons_succ, List.getElem_toArray, List.getElem_cons_zero, List.getElem_cons_succ]
        refine wpAnyH_take (i := 10) (v := ?_) rfl (by kernel_rfl) (by kernel_rfl) (by kernel_rfl) (fun _ _ _ h => h) (Or.inl ⟨by rfl, ?_⟩) (by assumption) ?_
        rotate_left
        · (intro w hSw; (try dsimp only at hSw); go_simp; try with_reducible rfl)
        simp only [Act.put, List.setIfInBounds_toArray, List.set_cons_zero, List.set_cons_succ, List.getElem_toArray, List.getElem_cons_zero, List.getElem_cons_succ]
        refine wpAnyH_take (i := 11) (v := ?_) rfl (by kernel_rfl) (by kernel_rfl) (by kernel_rfl) (fun _ _ _ h => h) (Or.inl ⟨by rfl, ?_⟩) (by assumption) ?_
        rotate_left
        · (intro w hSw; (try dsimp only at hSw); go_simp; try with_reducible rfl)
        simp only [Act.put, List.setIfInBounds_toArray, List.set_cons_zero, List.set_cons_succ, List.getElem_toArray, List.getElem_cons_zero, List.getElem_cons_succ]
        refine wpAnyH_take (i := 12) (v := ?_) rfl (by kernel_rfl) (by kernel_rfl) (by kernel_rfl) (fun _ _ _ h => h) (Or.inl ⟨by rfl, ?_⟩) (by assumption) ?_
        rotate_left
        · (intro w hSw; (try dsimp only at hSw); go_simp; try with_reducible rfl)
        simp only [Act.put, List.setIfInBounds_toArray, List.set_cons_zero, List.set_cons_succ, List.getElem_toArray, List.getElem_cons_zero, List.getElem_cons_succ]
        refine wpAnyH_take (i := 13) (v := ?_) rfl (by kernel_rfl) (by kernel_rfl) (by kernel_rfl) (fun _ _ _ h => h) (Or.inl ⟨by rfl, ?_⟩) (by assumption) ?_
        rotate_left
        · (intro w hSw; (try dsimp only at hSw); go_simp; try with_reducible rfl)
        simp only [Act.put, List.setIfInBounds_toArray, List.set_cons_zero, List.set_cons_succ, List.getElem_toArray, List.getElem_cons_zero, List.getElem_cons_succ]
        refine wpAnyH_take (i := 14) (v := ?_) rfl (by kernel_rfl) (by kernel_rfl) (by kernel_rfl) (fun _ _ _ h => h) (Or.inl ⟨by rfl, ?_⟩) (by assumption) ?_
        rotate_left
        · (intro w hSw; (try dsimp only at hSw); go_simp; try with_reducible rfl)
        simp only [Act.put, List.setIfInBounds_toArray, List.set_cons_zero, List.set_cons_succ, List.getElem_toArray, List.getElem_cons_zero, List.getElem_cons_succ]
        refine wpAnyH_take (i := 15) (v := ?_) rfl (by kernel_rfl) (by kernel_rfl) (by kernel_rfl) (fun _ _ _ h => h) (Or.inl ⟨by rfl, ?_⟩) (by assumption) ?_
        rotate_left
        · (intro w hSw; (try dsimp only at hSw); go_simp; try with_reducible rfl)
        simp only [Act.put, List.setIfInBounds_toArray, List.set_cons_zero, List.set_cons_succ, List.getElem_toArray, List.getElem_cons_zero, List.getElem_cons_succ]
        refine wpAnyH_take (i := 16) (v := ?_) rfl (by kernel_rfl) (by kernel_rfl) (by kernel_rfl) (fun _ _ _ h => h) (Or.inl ⟨by rfl, ?_⟩) (by assumption) ?_
        rotate_left
        · (intro w hSw; (try dsimp only at hSw); go_simp; try with_reducible rfl)
        simp only [Act.put, List.setIfInBounds_toArray, List.set_cons_zero, List.set_cons_succ, List.getElem_toArray, List.getElem_cons_zero, List.getElem_cons_succ]
        refine wpAnyH_take (i := 17) (v := ?_) rfl (by kernel_rfl) (by kernel_rfl) (by kernel_rfl) (fun _ _ _ h => h) (Or.inl ⟨by rfl, ?_⟩) (by assumption) ?_
        rotate_left
        · (intro w hSw; (try dsimp only at hSw); go_simp; try with_reducible rfl)
        simp only [Act.put, List.setIfInBounds_toArray, List.set_cons_zero, List.set_cons_succ, List.getElem_toArray, List.getElem_cons_zero, List.getElem_cons_succ]
        refine wpAnyH_done (by kernel_rfl) ?_ _
        go_wp2_with fail
        go_ret
        refine ⟨by first | rfl | simp, HBB.out.trans (Below.mono ?_ HBB.out.size)⟩
        exact (Below.refl _ _).drew.trans (hb1.mono (by simp))
    · have D1 : Hid ((B == 0) = false) := (by simpa using h1 : (B == 0) = false)
      rw [decide_eq_false (p := 0 ≤ A ∧ A < (n1 : Int) / 16 ∧ B = 0 ∧ W = 0) (fun h => h1 (by omega))]
      clear h1
      go_enter Tryz.func196, Tryz.ntmps196
      go_wp2_with fail
      rw [← HWB.out]
      have d1 := D1.out
      refine wp_region_held_drew (S := (fun wX => wX.cell? ⟨gu, 0, none⟩ = some (.slice a1 n1 c1) ∧ (wX.cell? ⟨w.heap.size, 0, none⟩ = some (.int .i64 K) ∧ wX.cell? ⟨w.heap.size, 1, none⟩ = some (.int .i64 A) ∧ wX.cell? ⟨w.heap.size, 2, none⟩ = some (.int .i64 B) ∧ wX.cell? ⟨w.heap.size, 3, none⟩ = some (.int .u64 W)))) (by kernel_rfl) (HK.out _ ((Below.refl _ _).drew)) (fun hHeld => ?_)
      refine wpAnyH_take (i := 0) (v := ?_) rfl (by kernel_rfl) (by kernel_rfl) (by kernel_rfl) (fun _ _ _ h => h) (Or.inl ⟨by rfl, ?_⟩) (by assumption) ?_
      rotate_left
      · (intro w hSw; (try dsimp only at hSw); go_simp; try with_reducible rfl)
      simp only [Act.put, List.setIfInBounds_toArray, List.set_cons_zero, List.set_cons_succ, List.getElem_toArray, List.getElem_cons_zero]
      refine wpAnyH_take (i := 1) (v := ?_) rfl (by kernel_rfl) (by kernel_rfl) (by kernel_rfl) (fun _ _ _ h => h) (Or.inl ⟨by rfl, ?_⟩) (by assumption) ?_
      rotate_left
      · (intro w hSw; (try dsimp only at hSw); go_simp; try with_reducible rfl)
      simp only [Act.put, List.setIfInBounds_toArray, List.set_cons_zero, List.set_cons_succ, List.getElem_toArray, List.getElem_cons_zero, List.getElem_cons_succ]
      refine wpAnyH_take (i := 2) (v := ?_) rfl (by kernel_rfl) (by kernel_rfl) (by kernel_rfl) (fun _ _ _ h => h) (Or.inl ⟨by rfl, ?_⟩) (by assumption) ?_
      rotate_left
      · (intro w hSw; (try dsimp only at hSw); go_simp; try with_reducible rfl)
      simp only [Act.put, List.setIfInBounds_toArray, List.set_cons_zero, List.set_cons_succ, List.getElem_toArray, List.getElem_cons_zero, List.getElem_cons_succ]
      refine wpAnyH_take (i := 3) (v := ?_) rfl (by kernel_rfl) (by kernel_rfl) (by kernel_rfl) (fun _ _ _ h => h) (Or.inl ⟨by rfl, ?_⟩) (by assumption) ?_
      rotate_left
      · (intro w hSw; (try dsimp only at hSw); go_simp; try with_reducible rfl)
      simp only [Act.put, List.setIfInBounds_toArray, List.set_cons_zero, List.set_cons_succ, List.getElem_toArray, List.getElem_cons_zero, List.getElem_cons_succ]
      refine wpAnyH_take (i := 4) (v := ?_) rfl (by kernel_rfl) (by kernel_rfl) (by kernel_rfl) (fun _ _ _ h => h) (Or.inl ⟨by rfl, ?_⟩) (by assumption) ?_
      rotate_left
      · (intro w hSw; (try dsimp only at hSw); go_simp; try with_reducible rfl)
      simp only [Act.put, List.setIfInBounds_toArray, List.set_cons_zero, List.set_cons_succ, List.getElem_toArray, List.getElem_cons_zero, List.getElem_cons_succ]
      refine wpAnyH_take (i := 5) (v := ?_) rfl (by kernel_rfl) (by kernel_rfl) (by kernel_rfl) (fun _ _ _ h => h) (Or.inl ⟨by rfl, ?_⟩) (by assumption) ?_
      rotate_left
      · (intro w hSw; (try dsimp only at hSw); go_simp; try with_reducible rfl)
      simp only [Act.put, List.setIfInBounds_toArray, List.set_cons_zero, List.set_cons_succ, List.getElem_toArray, List.getElem_cons_zero, List.getElem_cons_succ]
      refine wpAnyH_ready (rs := [6]) (by kernel_rfl) (by simp) ?_
      refine AllReadyH.cons rfl (fun K hK => ?_) AllReadyH.nil
      go_simp
      go_at_call 127
      refine (hhf _).mono ?_
      rintro e w1 ⟨rfl, hb1⟩
      go_wp2_with fail
      refine hK.out _ _ (by refine HK.out _ ?_; exact (Below.refl _ _).drew.trans (hb1.mono (by simp))) (fun hHeld2 => ?_)
      clear hK K
      refine wpAnyH_take (i := 7) (v := ?_) rfl (by kernel_rfl) (by kernel_rfl) (by kernel_rfl) (fun _ _ _ h => h) (Or.inl ⟨by rfl, ?_⟩) (by assumption) ?_
      rotate_left
      · (intro w hSw; (try dsimp only at hSw); go_simp; try with_reducible rfl)
      simp only [Act.put, List.setIfInBounds_toArray, List.set_cons_zero, List.set_cons_succ, List.getElem_toArray, List.getElem_cons_zero, List.getElem_cons_succ]
      refine wpAnyH_take (i := 8) (v := ?_) rfl (by kernel_rfl) (by kernel_rfl) (by kernel_rfl) (fun _ _ _ h => h) (Or.inl ⟨by rfl, ?_⟩) (by assumption) ?_
      rotate_left
      · (intro w hSw; (try dsimp only at hSw); go_simp; try with_reducible rfl)
      simp only [Act.put, List.setIfInBounds_toArray, List.set_cons_zero, List.set_cons_succ, List.getElem_toArray, List.getElem_cons_zero, List.getElem_cons_succ]
      refine wpAnyH_take (i := 9) (v := ?_) rfl (by kernel_rfl) (by kernel_rfl) (by kernel_rfl) (fun _ _ _ h => h) (Or.inl ⟨by rfl, ?_⟩) (by assumption) ?_
      rotate_left
      · (intro w hSw; (try dsimp only at hSw); go_simp; try with_reducible rfl)
      simp only [Act.put, List.setIfInBounds_toArray, List.set_cons_zero, List.set_cons_succ, List.getElem_toArray, List.getElem_cons_zero, List.getElem_cons_succ]
      refine wpAnyH_take (i := 10) (v := ?_) rfl (by kernel_rfl) (by kernel_rfl) (by kernel_rfl) (fun _ _ _ h => h) (Or.inl ⟨by rfl, ?_⟩) (by assumption) ?_
      rotate_left
      · (intro w hSw; (try dsimp only at hSw); go_simp; try with_reducible rfl)
      simp only [Act.put, List.setIfInBounds_toArray, List.set_cons_zero, List.set_cons_succ, List.getElem_toArray, List.getElem_cons_zero, List.getElem_cons_succ]
      refine wpAnyH_take (i := 11) (v := ?_) rfl (by kernel_rfl) (by kernel_rfl) (by kernel_rfl) (fun _ _ _ h => h) (Or.inl ⟨by rfl, ?_⟩) (by assumption) ?_
      rotate_left
      · (intro w hSw; (try dsimp only at hSw); go_simp; try with_reducible rfl)
      simp only [Act.put, List.setIfInBounds_toArray, List.set_cons_zero, List.set_cons_succ, List.getElem_toArray, List.getElem_cons_zero, List.getElem_cons_succ]
      refine wpAnyH_take (i := 12) (v := ?_) rfl (by kernel_rfl) (by kernel_rfl) (by kernel_rfl) (fun _ _ _ h => h) (Or.inl ⟨by rfl, ?_⟩) (by assumption) ?_
      rotate_left
      · (intro w hSw; (try dsimp only at hSw); go_simp; try with_reducible rfl)
      simp only [Act.put, List.setIfInBounds_toArray, List.set_cons_zero, List.set_cons_succ, List.getElem_toArray, List.getElem_cons_zero, List.getElem_cons_succ]
      refine wpAnyH_take (i := 13) rfl (by kernel_rfl) (by kernel_rfl) (by kernel_rfl) (fun _ _ _ h => h) (Or.inr ⟨by rfl, rfl⟩) (by assumption) ?_
      simp only [Act.put, List.setIfInBounds_toArray, List.set_cons_zero, List.set_cons_succ, List.getElem_toArray, List.getElem_cons_zero, List.getElem_cons_succ]
      refine wpAnyH_take (i := 14) rfl (by kernel_rfl) (by kernel_rfl) (by kernel_rfl) (fun _ _ _ h => h) (Or.inr ⟨by rfl, rfl⟩) (by assumption) ?_
      simp only [Act.put, List.setIfInBounds_toArray, List.set_cons_zero, List.set_cons_succ, List.getElem_toArray, List.getElem_cons_zero, List.getElem_cons_succ]
      refine wpAnyH_take (i := 15) rfl (by kernel_rfl) (by kernel_rfl) (by kernel_rfl) (fun _ _ _ h => h) (Or.inr ⟨by rfl, rfl⟩) (by assumption) ?_
      simp only [Act.put, List.setIfInBounds_toArray, List.set_cons_zero, List.set_cons_succ, List.getElem_toArray, List.getElem_cons_zero, List.getElem_cons_succ]
      refine wpAnyH_take (i := 16) (v := ?_) rfl (by kernel_rfl) (by kernel_rfl) (by kernel_rfl) (fun _ _ _ h => h) (Or.inl ⟨by rfl, ?_⟩) (by assumption) ?_
      rotate_left
      · (intro w hSw; (try dsimp only at hSw); go_simp; try with_reducible rfl)
      simp only [Act.put, List.setIfInBounds_toArray, List.set_cons_zero, List.set_cons_succ, List.getElem_toArray, List.getElem_cons_zero, List.getElem_cons_succ]
      refine wpAnyH_take (i := 17) (v := ?_) rfl (by kernel_rfl) (by kernel_rfl) (by kernel_rfl) (fun _ _ _ h => h) (Or.inl ⟨by rfl, ?_⟩) (by assumption) ?_
      rotate_left
      · (intro w hSw; (try dsimp only at hSw); go_simp; try with_reducible rfl)
      simp only [Act.put, List.setIfInBounds_toArray, List.set_cons_zero, List.set_cons_succ, List.getElem_toArray, List.getElem_cons_zero, List.getElem_cons_succ]
      refine wpAnyH_done (by kernel_rfl) ?_ _
      go_wp2_with fail
      go_ret
      refine ⟨by first | rfl | simp, HBB.out.trans (Below.mono ?_ HBB.out.size)⟩
      exact (Below.refl _ _).drew.trans (hb1.mono (by simp))
  · rw [decide_eq_false h0] at hhf
    rw [decide_eq_false (p := 0 ≤ A ∧ A < (n1 : Int) / 16 ∧ B = 0 ∧ W = 0) (fun h => h0 (by omega))]
    clear h0
    go_enter Tryz.func196, Tryz.ntmps196
    go_wp2_with fail
    rw [← HWB.out]
    refine wp_region_held_drew (S := (fun wX => wX.cell? ⟨gu, 0, none⟩ = some (.slice a1 n1 c1) ∧ (wX.cell? ⟨w.heap.size, 0, none⟩ = some (.int .i64 K) ∧ wX.cell? ⟨w.heap.size, 1, none⟩ = some (.int .i64 A) ∧ wX.cell? ⟨w.heap.size, 2, none⟩ = some (.int .i64 B) ∧ wX.cell? ⟨w.heap.size, 3, none⟩ = some (.int .u64 W)))) (by kernel_rfl) (HK.out _ ((Below.refl _ _).drew)) (fun hHeld => ?_)
    refine wpAnyH_take (i := 0) (v := ?_) rfl (by kernel_rfl) (by kernel_rfl) (by kernel_rfl) (fun _ _ _ h => h) (Or.inl ⟨by rfl, ?_⟩) (by assumption) ?_
    rotate_left
    · (intro w hSw; (try dsimp only at hSw); go_simp; try with_reducible rfl)
    simp only [Act.put, List.setIfInBounds_toArray, List.set_cons_zero, List.set_cons_succ, List.getElem_toArray, List.getElem_cons_zero]
    refine wpAnyH_take (i := 1) (v := ?_) rfl (by kernel_rfl) (by kernel_rfl) (by kernel_rfl) (fun _ _ _ h => h) (Or.inl ⟨by rfl, ?_⟩) (by assumption) ?_
    rotate_left
    · (intro w hSw; (try dsimp only at hSw); go_simp; try with_reducible rfl)
    simp only [Act.put, List.setIfInBounds_toArray, List.set_cons_zero, List.set_cons_succ, List.getElem_toArray, List.getElem_cons_zero, List.getElem_cons_succ]
    refine wpAnyH_take (i := 2) (v := ?_) rfl (by kernel_rfl) (by kernel_rfl) (by kernel_rfl) (fun _ _ _ h => h) (Or.inl ⟨by rfl, ?_⟩) (by assumption) ?_
    rotate_left
    · (intro w hSw; (try dsimp only at hSw); go_simp; try with_reducible rfl)
    simp only [Act.put, List.setIfInBounds_toArray, List.set_cons_zero, List.set_cons_succ, List.getElem_toArray, List.getElem_cons_zero, List.getElem_cons_succ]
    refine wpAnyH_take (i := 3) (v := ?_) rfl (by kernel_rfl) (by kernel_rfl) (by kernel_rfl) (fun _ _ _ h => h) (Or.inl ⟨by rfl, ?_⟩) (by assumption) ?_
    rotate_left
    · (intro w hSw; (try dsimp only at hSw); go_simp; try with_reducible rfl)
    simp only [Act.put, List.setIfInBounds_toArray, List.set_cons_zero, List.set_cons_succ, List.getElem_toArray, List.getElem_cons_zero, List.getElem_cons_succ]
    refine wpAnyH_take (i := 4) (v := ?_) rfl (by kernel_rfl) (by kernel_rfl) (by kernel_rfl) (fun _ _ _ h => h) (Or.inl ⟨by rfl, ?_⟩) (by assumption) ?_
    rotate_left
    · (intro w hSw; (try dsimp only at hSw); go_simp; try with_reducible rfl)
    simp only [Act.put, List.setIfInBounds_toArray, List.set_cons_zero, List.set_cons_succ, List.getElem_toArray, List.getElem_cons_zero, List.getElem_cons_succ]
    refine wpAnyH_take (i := 5) (v := ?_) rfl (by kernel_rfl) (by kernel_rfl) (by kernel_rfl) (fun _ _ _ h => h) (Or.inl ⟨by rfl, ?_⟩) (by assumption) ?_
    rotate_left
    · (intro w hSw; (try dsimp only at hSw); go_simp; try with_reducible rfl)
    simp only [Act.put, List.setIfInBounds_toArray, List.set_cons_zero, List.set_cons_succ, List.getElem_toArray, List.getElem_cons_zero, List.getElem_cons_succ]
    refine wpAnyH_ready (rs := [6]) (by kernel_rfl) (by simp) ?_
    refine AllReadyH.cons rfl (fun K hK => ?_) AllReadyH.nil
    go_simp
    go_at_call 127
    refine (hhf _).mono ?_
    rintro e w1 ⟨rfl, hb1⟩
    go_wp2_with fail
    refine hK.out _ _ (by refine HK.out _ ?_; exact (Below.refl _ _).drew.trans (hb1.mono (by simp))) (fun hHeld2 => ?_)
    clear hK K
    refine wpAnyH_take (i := 7) (v := ?_) rfl (by kernel_rfl) (by kernel_rfl) (by kernel_rfl) (fun _ _ _ h => h) (Or.inl ⟨by rfl, ?_⟩) (by assumption) ?_
    rotate_left
    · (intro w hSw; (try dsimp only at hSw); go_simp; try with_reducible rfl)
    simp only [Act.put, List.setIfInBounds_toArray, List.set_cons_zero, List.set_cons_succ, List.getElem_toArray, List.getElem_cons_zero, List.getElem_cons_succ]
    refine wpAnyH_take (i := 8) rfl (by kernel_rfl) (by kernel_rfl) (by kernel_rfl) (fun _ _ _ h => h) (Or.inr ⟨by rfl, rfl⟩) (by assumption) ?_
    simp only [Act.put, List.setIfInBounds_toArray, List.set_cons_zero, List.set_cons_succ, List.getElem_toArray, List.getElem_cons_zero, List.getElem_cons_succ]
    refine wpAnyH_take (i := 9) rfl (by kernel_rfl) (by kernel_rfl) (by kernel_rfl) (fun _ _ _ h => h) (Or.inr ⟨by rfl, rfl⟩) (by assumption) ?_
    simp only [Act.put, List.setIfInBounds_toArray, List.set_cons_zero, List.set_cons_succ, List.getElem_toArray, List.getElem_cons_zero, List.getElem_cons_succ]
    refine wpAnyH_take (i := 10) rfl (by kernel_rfl) (by kernel_rfl) (by kernel_rfl) (fun _ _ _ h => h) (Or.inr ⟨by rfl, rfl⟩) (by assumption) ?_
    simp only [Act.put, List.setIfInBounds_toArray, List.set_cons_zero, List.set_cons_succ, List.getElem_toArray, List.getElem_cons_zero, List.getElem_cons_succ]
    refine wpAnyH_take (i := 11) (v := ?_) rfl (by kernel_rfl) (by kernel_rfl) (by kernel_rfl) (fun _ _ _ h => h) (Or.inl ⟨by rfl, ?_⟩) (by assumption) ?_
    rotate_left
    · (intro w hSw; (try dsimp only at hSw); go_simp; try with_reducible rfl)
    simp only [Act.put, List.setIfInBounds_toArray, List.set_cons_zero, List.set_cons_succ, List.getElem_toArray, List.getElem_cons_zero, List.getElem_cons_succ]
    refine wpAnyH_take (i := 12) (v := ?_) rfl (by kernel_rfl) (by kernel_rfl) (by kernel_rfl) (fun _ _ _ h => h) (Or.inl ⟨by rfl, ?_⟩) (by assumption) ?_
    rotate_left
    · (intro w hSw; (try dsimp only at hSw); go_simp; try with_reducible rfl)
    simp only [Act.put, List.setIfInBounds_toArray, List.set_cons_zero, List.set_cons_succ, List.getElem_toArray, List.getElem_cons_zero, List.getElem_cons_succ]
    refine wpAnyH_take (i := 13) rfl (by kernel_rfl) (by kernel_rfl) (by kernel_rfl) (fun _ _ _ h => h) (Or.inr ⟨by rfl, rfl⟩) (by assumption) ?_
    simp only [Act.put, List.setIfInBounds_toArray, List.set_cons_zero, List.set_cons_succ, List.getElem_toArray, List.getElem_cons_zero, List.getElem_cons_succ]
    refine wpAnyH_take (i := 14) rfl (by kernel_rfl) (by kernel_rfl) (by kernel_rfl) (fun _ _ _ h => h) (Or.inr ⟨by rfl, rfl⟩) (by assumption) ?_
    simp only [Act.put, List.setIfInBounds_toArray, List.set_cons_zero, List.set_cons_succ, List.getElem_toArray, List.getElem_cons_zero, List.getElem_cons_succ]
    refine wpAnyH_take (i := 15) rfl (by kernel_rfl) (by kernel_rfl) (by kernel_rfl) (fun _ _ _ h => h) (Or.inr ⟨by rfl, rfl⟩) (by assumption) ?_
    simp only [Act.put, List.setIfInBounds_toArray, List.set_cons_zero, List.set_cons_succ, List.getElem_toArray, List.getElem_cons_zero, List.getElem_cons_succ]
    refine wpAnyH_take (i := 16) (v := ?_) rfl (by kernel_rfl) (by kernel_rfl) (by kernel_rfl) (fun _ _ _ h => h) (Or.inl ⟨by rfl, ?_⟩) (by assumption) ?_
    rotate_left
    · (intro w hSw; (try dsimp only at hSw); go_simp; try with_reducible rfl)
    simp only [Act.put, List.setIfInBounds_toArray, List.set_cons_zero, List.set_cons_succ, List.getElem_toArray, List.getElem_cons_zero, List.getElem_cons_succ]
    refine wpAnyH_take (i := 17) (v := ?_) rfl (by kernel_rfl) (by kernel_rfl) (by kernel_rfl) (fun _ _ _ h => h) (Or.inl ⟨by rfl, ?_⟩) (by assumption) ?_
    rotate_left
    · (intro w hSw; (try dsimp only at hSw); go_simp; try with_reducible rfl)
    simp only [Act.put, List.setIfInBounds_toArray, List.set_cons_zero, List.set_cons_succ, List.getElem_toArray, List.getElem_cons_zero, List.getElem_cons_succ]
    refine wpAnyH_done (by kernel_rfl) ?_ _
    go_wp2_with fail
    go_ret
    refine ⟨by first | rfl | simp, HBB.out.trans (Below.mono ?_ HBB.out.size)⟩
    exact (Below.refl _ _).drew.trans (hb1.mono (by simp))
end Go.Proofs.YtiiejckfcnmhoabGreat
namespace Go.Proofs.YtiiejckfcnmhoabGreat
open Go.ChangeShapes Go.WideShapes Go.ChangeAt Go.RowKit
set_option linter.unusedVariables false
attribute [local go_sem ↓] Go.wp_at_zero Go.wp_at_succ

set_option maxHeartbeats 2000000 in
theorem hasPlace_any (g : Nat) (zs : List Int) (c : Nat) (f : Int) (hz : OkMem zs) (hcc : zs.length ≤ c) (w : World) (hg : CRow w g zs) :
    Calls Tryz.prog 156 #[.agg #[.slice (some ⟨g, 0, none⟩) zs.length c], .int .i64 f] w fun e w' => e = .returned (.bool (plcHas (plist zs) f)) ∧ Below w.heap.size w w' := by
  obtain ⟨wb, hwb⟩ : ∃ wb, wb = w.alloc (.cells #[.slice (some ⟨g, 0, none⟩) zs.length c] 31) := ⟨_, rfl⟩
  have hbb : Below w.heap.size w wb := by rw [hwb]; exact (Below.refl _ _).alloc (Nat.le_refl _) _
  have hpl := placesOf_any g zs c hz hcc wb (hg.below hbb hg.lt)
  have hle := plist_length zs
  rw [hwb] at hpl
  have HWB : Hid (wb = _) := hwb
  have HBB : Hid (Below w.heap.size w wb) := hbb
  clear hwb hbb hz hg
  obtain ⟨ps, hps⟩ : ∃ ps, ps = plist zs := ⟨_, rfl⟩
  rw [← hps] at hpl hle ⊢
  clear hps
  go_enter Tryz.func156, Tryz.ntmps156
  go_wp2_with fail
  refine hpl.mono ?_
  rintro e w1 ⟨g1, c1, rfl, hr, hb1'⟩
  have hb1 : Below wb.heap.size wb w1 := by rw [HWB.out]; exact hb1'
  have b1 : Below w.heap.size w w1 := HBB.out.trans (hb1.mono HBB.out.size)
  obtain ⟨gp, hp1, hp2⟩ := plc_cells hr
  have HP1 : Hid _ := hp1
  have HP2 : Hid _ := hp2
  have HB1 : Hid (Below w.heap.size w w1) := b1
  clear hb1 hb1' hpl hr hp1 hp2 b1
  go_wp2_with fail
  go_loopw [10] (fun i wr => ∃ k : Nat, k ≤ ps.length ∧ i = .int .i64 k ∧ Hid (∀ j, j < k → decide ((pAt ps j).fr = f) = false) ∧ Below w1.heap.size w1 wr) (fun i _ => ps.length - (intOf i).toNat)
  case atStart => exact ⟨0, Nat.zero_le _, rfl, fun j hj => absurd hj (by omega), Below.refl _ _⟩
  case round =>
    obtain ⟨k, hk, rfl, hall, hb⟩ := hrel
    by_cases hlt : k < ps.length
    · obtain ⟨E, hE⟩ : ∃ E, pAt ps k = E := ⟨_, rfl⟩
      obtain ⟨F, L, P⟩ := E
      obtain ⟨hge, hgl⟩ := HP1.out (by omega)
      simp only [Option.some.injEq, Addr.mk.injEq, and_true] at hge
      obtain rfl := hge.symm
      obtain ⟨c0, c1, c2⟩ := HP2.out k F L P hlt hE wr hb
      have HE : Hid (pAt ps k = _) := hE
      have L1 : (0 : Int) ≤ (k : Int) := by omega
      have L2 : (k : Int) < (ps.length : Int) := by omega
      have HB : Hid (Below w1.heap.size w1 wr) := hb
      have hsz := hb.size
      clear hE hb hge
      by_cases hf : F = f
      · have d : (F == f) = true := by simpa using hf
        have HR : Hid (plcHas ps f = true) := anyR_true _ k _ hlt (by rw [HE.out]; exact decide_eq_true hf)
        clear hf
        go_wp2_with fail
        go_ret
        refine ⟨by rw [HR.out]; rfl, HB1.out.trans ((HB.out.alloc hsz _).mono HB1.out.size)⟩
      · have d : (F == f) = false := by simpa using hf
        have HN : Hid (decide ((pAt ps k).fr = f) = false) := by rw [HE.out]; exact decide_eq_false hf
        clear hf
        go_wp2_with fail
        go_roundw
        case rel =>
          refine ⟨k + 1, by omega, by go_num, fun j hj => ?_, HB.out.alloc hsz _⟩
          by_cases e : j = k
          · rw [e]; exact HN.out
          · exact hall.out j (by omega)
        case measure => simp [intOf]; omega
    · have HR : Hid (plcHas ps f = false) := anyR_false _ _ (fun j hj => hall.out j (by omega))
      go_wp2_with fail
      go_ret
      exact ⟨by rw [HR.out]; rfl, HB1.out.trans (hb.mono HB1.out.size)⟩

set_option maxHeartbeats 4000000 in
theorem caches_any (gu b0 B : Nat) (u : UV) (M : Mach) (F L Q ix : Int) (w : World) (hv : validB M = true) (hl : L = 1 ∨ L = 2 ∨ L = 3) (hq0 : 0 ≤ Q) (hq1 : Q ≤ 20000) (hi0 : 0 ≤ ix) (hi1 : ix < 16) (ht : M.tlb.length ≤ 256) (hc : M.wc.length ≤ 256) (h : UM w gu b0 B true u M) :
    Calls Tryz.prog 155 #[.pointer (some ⟨gu, 0, none⟩), .agg #[.int .i64 F, .int .i64 L, .int .i64 Q], .int .i64 ix] w fun e w' => e = .returned (.bool (cachedB M L (Q + ix * cov L) (cov L))) ∧ Below w.heap.size w w' := by
  have hcb : 1 ≤ cov L ∧ cov L ≤ 256 := by rcases hl with rfl | rfl | rfl <;> decide
  have hmul : 0 ≤ ix * cov L ∧ ix * cov L ≤ 3840 := by rcases hl with rfl | rfl | rfl <;> (simp only [cov]; constructor <;> (simp; omega))
  obtain ⟨wb, hwb⟩ : ∃ wb, wb = w.alloc (.cells #[.int .i64 F, .int .i64 L, .int .i64 Q] 172) := ⟨_, rfl⟩
  have hbb : Below w.heap.size w wb := by rw [hwb]; exact (Below.refl _ _).alloc (Nat.le_refl _) _
  have hzb : wb.heap.size = w.heap.size + 1 := by rw [hwb]; simp
  have hep := entryPages_any L
  obtain ⟨gt, ht1, ht2⟩ := tlb_cells h.t
  obtain ⟨gw, hw1, hw2⟩ := wc_cells h.c
  have hlt := h.lt
  have HQ : Hid (∀ wX, Below wb.heap.size wb wX → (wX.cell? ⟨w.heap.size, 0, none⟩ = some (.int .i64 F) ∧ wX.cell? ⟨w.heap.size, 1, none⟩ = some (.int .i64 L) ∧ wX.cell? ⟨w.heap.size, 2, none⟩ = some (.int .i64 Q)) ∧ wX.cell? ⟨gu, 3, none⟩ = some (.slice u.a4 M.tlb.length u.c4) ∧ wX.cell? ⟨gu, 4, none⟩ = some (.slice u.a5 M.wc.length u.c5)) := fun wX hX => by
    have hu := h.below (hbb.trans (hX.mono (by omega)))
    refine ⟨⟨?_, ?_, ?_⟩, hu.q3, hu.q4⟩
    iterate 3 (exact (hX.cell (by simp; omega)).trans (by rw [hwb]; simp [go_sem]))
  have HT2 : Hid (∀ k P S O R D, k < M.tlb.length → eAt eTlb M.tlb k = ⟨P, S, O, R, D⟩ → u.a4 = some ⟨gt, 0, none⟩ ∧ gt < w.heap.size ∧ ∀ wX, Below wb.heap.size wb wX → wX.cell? ⟨gt, k * 5, none⟩ = some (.int .i64 P) ∧ wX.cell? ⟨gt, k * 5 + 1, none⟩ = some (.int .i64 S) ∧ wX.cell? ⟨gt, k * 5 + 2, none⟩ = some (.bool D) ∧ wX.cell? ⟨gt, k * 5 + 3, none⟩ = some (.int .i64 O) ∧ wX.cell? ⟨gt, k * 5 + 4, none⟩ = some (.int .i64 R)) := fun k P S O R D hk he => by
    obtain ⟨e1, e2⟩ := ht1 (by omega)
    exact ⟨e1, e2, fun wX hX => ht2 k P S O R D hk he wX ((hbb.trans (hX.mono (by omega))).block gt e2)⟩
  have HW2 : Hid (∀ k L P T D, k < M.wc.length → eAt eWc M.wc k = ⟨L, P, T, D⟩ → u.a5 = some ⟨gw, 0, none⟩ ∧ gw < w.heap.size ∧ ∀ wX, Below wb.heap.size wb wX → wX.cell? ⟨gw, k * 5, none⟩ = some (.int .i64 P) ∧ wX.cell? ⟨gw, k * 5 + 1, none⟩ = some (.int .i64 (16 * cov L)) ∧ wX.cell? ⟨gw, k * 5 + 2, none⟩ = some (.bool D) ∧ wX.cell? ⟨gw, k * 5 + 3, none⟩ = some (.int .i64 L) ∧ wX.cell? ⟨gw, k * 5 + 4, none⟩ = some (.int .i64 T)) := fun k L P T D hk he => by
    obtain ⟨e1, e2⟩ := hw1 (by omega)
    exact ⟨e1, e2, fun wX hX => hw2 k L P T D hk he wX ((hbb.trans (hX.mono (by omega))).block gw e2)⟩
  have HV : Hid (validB M = true) := hv
  have HWB : Hid (wb = _) := hwb
  have HBB : Hid (Below w.heap.size w wb) := hbb
  have HZ : Hid (wb.heap.size = w.heap.size + 1) := hzb
  have q3 := h.q3
  obtain ⟨cL, hcL⟩ : ∃ cL, cL = cov L := ⟨_, rfl⟩
  rw [← hcL] at hcb hmul hep ⊢
  have hW1 : IntKind.i64.wrap (ix * cL) = ix * cL := by rw [IntKind.wrap_i64]; omega
  obtain ⟨m0, hm0⟩ : ∃ m0, m0 = ix * cL := ⟨_, rfl⟩
  have hW2 : IntKind.i64.wrap (Q + ix * cL) = Q + ix * cL := by rw [IntKind.wrap_i64]; omega
  obtain ⟨fs, hfs⟩ : ∃ fs, fs = Q + ix * cL := ⟨_, rfl⟩
  have hf0 : 0 ≤ fs ∧ fs < 100000 := by omega
  clear h ht1 ht2 hw1 hw2 hv hwb hbb hzb hcL hm0
  go_enter Tryz.func155, Tryz.ntmps155
  go_wp2_with (go_at_call 128; refine (hep _).mono ?_; rintro e w1 ⟨rfl, hw1⟩; obtain rfl := hw1.symm)
  rw [← HWB.out, ← hfs]
  have HFS : Hid (fs = _) := hfs
  clear hfs hW1 hW2 hmul q3
  go_loopw [27] (fun i wr => ∃ k : Nat, k ≤ M.tlb.length ∧ i = .int .i64 k ∧ Hid (∀ j, j < k → cachT M fs cL j = false) ∧ Below wb.heap.size wb wr) (fun i _ => M.tlb.length - (intOf i).toNat)
  case atStart => exact ⟨0, Nat.zero_le _, rfl, fun j hj => absurd hj (by omega), Below.refl _ _⟩
  case round =>
    obtain ⟨k, hk, rfl, hall, hb⟩ := hrel
    by_cases hlt2 : k < M.tlb.length
    · obtain ⟨E, hE⟩ : ∃ E, eAt eTlb M.tlb k = E := ⟨_, rfl⟩
      obtain ⟨P, S, O, R, D⟩ := E
      obtain ⟨hae, hgt, hcs⟩ := HT2.out k P S O R D hlt2 hE
      rw [hae]
      obtain ⟨c0, c1, c2, c3, c4⟩ := hcs wr hb
      have htv := valid_tlb HV.out k hlt2
      rw [hE] at htv
      have hts : (0 ≤ P ∧ P < 100000) ∧ (0 ≤ S ∧ S < 100000) := by
        simp only [tlbOkB, pageOk, Bool.and_eq_true, Bool.or_eq_true, decide_eq_true_eq] at htv
        omega
      obtain ⟨wx, hwx⟩ : ∃ wx, wx = wr.alloc (.cells #[.int .i64 P, .int .i64 S, .bool D, .int .i64 O, .int .i64 R] 156) := ⟨_, rfl⟩
      have hov := overlaps_any wr.heap.size 0 P S fs cL hts.1 hts.2 hf0 (by omega) wx (by rw [hwx]; simp [go_sem]) (by rw [hwx]; simp [go_sem])
      have bx : Below wb.heap.size wb wx := by rw [hwx]; exact hb.alloc hb.size _
      have HCT : Hid (cachT M fs cL k = meets P S fs cL) := by unfold cachT; rw [hE]; rfl
      rw [hwx] at hov
      have HWX : Hid (wx = _) := hwx
      have HBX : Hid (Below wb.heap.size wb wx) := bx
      have L1 : (0 : Int) ≤ (k : Int) := by omega
      have L2 : (k : Int) < (M.tlb.length : Int) := by omega
      clear hwx bx htv hts hE hcs hae
      cases hm : meets P S fs cL <;> rw [hm] at hov
      · have HF : Hid (cachT M fs cL k = false) := by rw [HCT.out]; exact hm
        clear hm
        go_wp2_with (go_at_call 147; refine hov.mono ?_; rintro e w2 ⟨rfl, hb2⟩)
        rw [← HWX.out] at hb2
        go_roundw
        case rel =>
          refine ⟨k + 1, by omega, by go_num, fun j hj => ?_, HBX.out.trans (hb2.mono HBX.out.size)⟩
          by_cases e : j = k
          · rw [e]; exact HF.out
          · exact hall.out j (by omega)
        case measure => simp [intOf]; omega
      · have HR : Hid (cachedB M L fs cL = true) := by unfold cachedB; rw [anyR_true _ k _ hlt2 (by rw [HCT.out]; exact hm)]; rfl
        clear hm
        go_wp2_with (go_at_call 147; refine hov.mono ?_; rintro e w2 ⟨rfl, hb2⟩)
        rw [← HWX.out] at hb2
        go_ret
        exact ⟨by rw [← HFS.out, HR.out]; rfl, HBB.out.trans ((HBX.out.trans (hb2.mono HBX.out.size)).mono HBB.out.size)⟩
    · have HTN : Hid (anyR (cachT M fs cL) M.tlb.length = false) := anyR_false _ _ (fun j hj => hall.out j (by omega))
      obtain ⟨wA, rfl⟩ : ∃ wA : World, wA = wr := ⟨_, rfl⟩
      have q4A := (HQ.out wA hb).2.2
      have HBA : Hid (Below wb.heap.size wb wA) := hb
      clear hall hb
      go_wp2_with fail
      clear q4A
      go_loopw [41] (fun i wr => ∃ k : Nat, k ≤ M.wc.length ∧ i = .int .i64 k ∧ Hid (∀ j, j < k → cachW M L fs cL j = false) ∧ Below wb.heap.size wb wr) (fun i _ => M.wc.length - (intOf i).toNat)
      case atStart => exact ⟨0, Nat.zero_le _, rfl, fun j hj => absurd hj (by omega), HBA.out⟩
      case round =>
        obtain ⟨k, hk, rfl, hall, hb⟩ := hrel
        by_cases hlt2 : k < M.wc.length
        · obtain ⟨E, hE⟩ : ∃ E, eAt eWc M.wc k = E := ⟨_, rfl⟩
          obtain ⟨L2', P, T, D⟩ := E
          obtain ⟨hae, hgt, hcs⟩ := HW2.out k L2' P T D hlt2 hE
          rw [hae]
          obtain ⟨c0, c1, c2, c3, c4⟩ := hcs wr hb
          have htv := valid_wc HV.out k hlt2
          rw [hE] at htv
          have hts : (0 ≤ P ∧ P < 100000) ∧ (L2' = 2 ∨ L2' = 3) := by
            simp only [wcOkB, pageOk, Bool.and_eq_true, Bool.or_eq_true, decide_eq_true_eq] at htv
            omega
          obtain ⟨S, hS⟩ : ∃ S, S = 16 * cov L2' := ⟨_, rfl⟩
          have hS2 : 0 ≤ S ∧ S < 100000 := by rw [hS]; rcases hts.2 with rfl | rfl <;> decide
          rw [← hS] at c1
          obtain ⟨wx, hwx⟩ : ∃ wx, wx = wr.alloc (.cells #[.int .i64 P, .int .i64 S, .bool D, .int .i64 L2', .int .i64 T] 158) := ⟨_, rfl⟩
          have hov := overlaps_any wr.heap.size 0 P S fs cL hts.1 hS2 hf0 (by omega) wx (by rw [hwx]; simp [go_sem]) (by rw [hwx]; simp [go_sem])
          have bx : Below wb.heap.size wb wx := by rw [hwx]; exact hb.alloc hb.size _
          have HCT : Hid (cachW M L fs cL k = (decide (L < L2') && meets P S fs cL)) := by unfold cachW; rw [hE, hS]; rfl
          rw [hwx] at hov
          have HWX : Hid (wx = _) := hwx
          have HBX : Hid (Below wb.heap.size wb wx) := bx
          obtain ⟨⟨p0, p1, p2⟩, _, _⟩ := HQ.out wr hb
          have N0 : w.heap.size < wr.heap.size := by have := hb.size; have := HZ.out; omega
          have L1 : (0 : Int) ≤ (k : Int) := by omega
          have L2 : (k : Int) < (M.wc.length : Int) := by omega
          have HBR : Hid (Below wb.heap.size wb wr) := hb
          clear hwx bx htv hts hE hcs hae hb hS
          by_cases hLL : L < L2'
          · have dL : decide (L < L2') = true := decide_eq_true hLL
            cases hm : meets P S fs cL <;> rw [hm] at hov
            · have HF : Hid (cachW M L fs cL k = false) := by rw [HCT.out, hm, Bool.and_false]; rfl
              clear hm
              go_wp2_with (go_at_call 147; refine hov.mono ?_; rintro e w2 ⟨rfl, hb2⟩)
              rw [← HWX.out] at hb2
              go_roundw
              case rel =>
                refine ⟨k + 1, by omega, by go_num, fun j hj => ?_, HBX.out.trans (hb2.mono HBX.out.size)⟩
                by_cases e : j = k
                · rw [e]; exact HF.out
                · exact hall.out j (by omega)
              case measure => simp [intOf]; omega
            · have HR : Hid (cachedB M L fs cL = true) := by unfold cachedB; rw [anyR_true (cachW M L fs cL) k _ hlt2 (by rw [HCT.out, hm, dL]; rfl), Bool.or_true]; rfl
              clear hm
              go_wp2_with (go_at_call 147; refine hov.mono ?_; rintro e w2 ⟨rfl, hb2⟩)
              rw [← HWX.out] at hb2
              go_ret
              exact ⟨by rw [← HFS.out, HR.out]; rfl, HBB.out.trans ((HBX.out.trans (hb2.mono HBX.out.size)).mono HBB.out.size)⟩
          · have dL : decide (L < L2') = false := decide_eq_false hLL
            have HF : Hid (cachW M L fs cL k = false) := by rw [HCT.out, dL]; rfl
            clear hov
            go_wp2_with fail
            go_roundw
            case rel =>
              refine ⟨k + 1, by omega, by go_num, fun j hj => ?_, HBR.out.alloc HBR.out.size _⟩
              by_cases e : j = k
              · rw [e]; exact HF.out
              · exact hall.out j (by omega)
            case measure => simp [intOf]; omega
        · have HR : Hid (cachedB M L fs cL = false) := by unfold cachedB; rw [HTN.out, anyR_false _ _ (fun j hj => hall.out j (by omega))]; rfl
          go_wp2_with fail
          go_ret
          exact ⟨by rw [← HFS.out, HR.out]; rfl, HBB.out.trans (hb.mono HBB.out.size)⟩
end Go.Proofs.YtiiejckfcnmhoabGreat
namespace Go.Proofs.YtiiejckfcnmhoabGreat
open Go.ChangeShapes Go.WideShapes Go.ChangeAt Go.RowKit
set_option linter.unusedVariables false
attribute [local go_sem ↓] Go.wp_at_zero Go.wp_at_succ

theorem plist_ok (zs : List Int) (hz : OkMem zs) (i : Nat) (hi : i < (plist zs).length) : (((pAt (plist zs) i).lv = 1 ∨ (pAt (plist zs) i).lv = 2 ∨ (pAt (plist zs) i).lv = 3) ∧ 0 ≤ (pAt (plist zs) i).pg ∧ (pAt (plist zs) i).pg ≤ 20000) := by
  have hmem : pAt (plist zs) i ∈ plist zs := by
    unfold pAt
    rw [List.getD_eq_getElem?_getD, List.getElem?_eq_getElem hi]
    exact List.getElem_mem hi
  have e : plist zs = belowL zs (nfr zs.length) 2 ⟨0, 1, 0⟩ := by unfold plist; rw [if_neg hz.n0]
  generalize pAt (plist zs) i = q at hmem ⊢
  rw [e] at hmem
  obtain ⟨d', h⟩ := belowL_ok 2 ⟨0, 1, 0⟩ (okRoot zs hz) _ hmem
  obtain ⟨h1, h2, _, _, h5, h6⟩ := h
  omega
/-- The latest memory as the machine holds it. -/
theorem UM.lat {W : World} {gu b0 B : Nat} {u : UV} {M : Mach} (h : UM W gu b0 B true u M) (h0 : 0 < M.mem.length) : ∃ g, u.a2 = some ⟨g, 0, none⟩ ∧ u.n2 = (lateL M).length ∧ CRow W g (lateL M) ∧ (lateL M).length ≤ u.c2 ∧ b0 ≤ g := by
  obtain ⟨h1, h2⟩ := h.l rfl
  have e : u.n2 = (lateL M).length := by rw [h1, lateL_length]
  rw [e] at h2
  obtain ⟨g, e1, hc, hl, hb⟩ := eWord_c h2 (by rw [lateL_length]; exact h0)
  exact ⟨g, e1, e, hc, hl, hb⟩

set_option maxHeartbeats 4000000 in
theorem freeRef_any (gu b0 B : Nat) (u : UV) (M : Mach) (f : Int) (w : World) (hok : WOk M) (hpd : ∀ i, i < M.pend.length → 0 ≤ (eAt eWrite M.pend i).addr) (h : UM w gu b0 B true u M) :
    Calls Tryz.prog 144 #[.pointer (some ⟨gu, 0, none⟩), .int .i64 f] w fun e w' => e = .returned (.int .i64 (if inUse M f then 4 else 0)) ∧ Below w.heap.size w w' := by
  have hm0 : 0 < M.mem.length := by have := nfr_mul M.mem.length hok.n0; omega
  obtain ⟨g1, ha1, hc1, hl1, _⟩ := eWord_c h.w hm0
  obtain ⟨g2, ha2, hn2, hc2, hl2, _⟩ := h.lat hm0
  obtain ⟨gw, hw1, hw2⟩ := wc_cells h.c
  have hcl := hok.c
  have HP1 : Hid (∀ wX, Below w.heap.size w wX → Calls Tryz.prog 156 #[.agg #[.slice (some ⟨g1, 0, none⟩) M.mem.length u.c1], .int .i64 f] wX fun e w' => e = .returned (.bool (plcHas (plist M.mem) f)) ∧ Below wX.heap.size wX w') := fun wX hX => hasPlace_any g1 M.mem u.c1 f hok.okMem hl1 wX (hc1.below hX hc1.lt)
  have HP2 : Hid (∀ wX, Below w.heap.size w wX → Calls Tryz.prog 156 #[.agg #[.slice (some ⟨g2, 0, none⟩) (lateL M).length u.c2], .int .i64 f] wX fun e w' => e = .returned (.bool (plcHas (plist (lateL M)) f)) ∧ Below wX.heap.size wX w') := fun wX hX => hasPlace_any g2 (lateL M) u.c2 f (late_ok hok hpd) hl2 wX (hc2.below hX hc2.lt)
  have HQ : Hid (∀ wX, Below w.heap.size w wX → wX.cell? ⟨gu, 0, none⟩ = some (.slice (some ⟨g1, 0, none⟩) M.mem.length u.c1) ∧ wX.cell? ⟨gu, 1, none⟩ = some (.slice (some ⟨g2, 0, none⟩) (lateL M).length u.c2) ∧ wX.cell? ⟨gu, 4, none⟩ = some (.slice u.a5 M.wc.length u.c5)) := fun wX hX => by
    have hu := h.below hX
    exact ⟨by rw [← ha1]; exact hu.q0, by rw [← ha2, ← hn2]; exact hu.q1, hu.q4⟩
  have HW2 : Hid (∀ k L P T D, k < M.wc.length → eAt eWc M.wc k = ⟨L, P, T, D⟩ → u.a5 = some ⟨gw, 0, none⟩ ∧ gw < w.heap.size ∧ ∀ wX, Below w.heap.size w wX → wX.cell? ⟨gw, k * 5, none⟩ = some (.int .i64 P) ∧ wX.cell? ⟨gw, k * 5 + 1, none⟩ = some (.int .i64 (16 * cov L)) ∧ wX.cell? ⟨gw, k * 5 + 2, none⟩ = some (.bool D) ∧ wX.cell? ⟨gw, k * 5 + 3, none⟩ = some (.int .i64 L) ∧ wX.cell? ⟨gw, k * 5 + 4, none⟩ = some (.int .i64 T)) := fun k L P T D hk he => by
    obtain ⟨e1, e2⟩ := hw1 (by omega)
    exact ⟨e1, e2, fun wX hX => hw2 k L P T D hk he wX (hX.block gw e2)⟩
  obtain ⟨q0, q1, q4⟩ := HQ.out w (Below.refl _ _)
  have hlt := h.lt
  obtain ⟨n2, hn2'⟩ : ∃ n2, n2 = (lateL M).length := ⟨_, rfl⟩
  rw [← hn2'] at HP2 HQ q1
  clear h hok hpd hc1 hc2 hw1 hw2 ha1 ha2 hl1 hl2 hn2 hn2'
  obtain ⟨cd, hcd⟩ : ∃ cd : Int, cd = if inUse M f then 4 else 0 := ⟨_, rfl⟩
  rw [← hcd]
  have HCD : Hid (∀ x, inUse M f = x → cd = if x then 4 else 0) := fun x hx => by rw [hcd, hx]
  clear hcd
  cases hb1 : plcHas (plist M.mem) f
  · cases hb2 : plcHas (plist (lateL M)) f
    · have HU : Hid (∀ x, wcHas M f = x → inUse M f = x) := fun x hx => by unfold inUse; rw [hb1, hb2, hx]; rfl
      rw [hb1] at HP1
      rw [hb2] at HP2
      clear hb1 hb2
      go_enter Tryz.func144, Tryz.ntmps144
      go_wp2_with fail
      refine (HP1.out w (Below.refl _ _)).mono ?_
      rintro e w1 ⟨rfl, hbw1⟩
      obtain ⟨r0, r1, r4⟩ := HQ.out w1 hbw1
      clear q0 q1 q4
      go_wp2_with fail
      refine (HP2.out w1 hbw1).mono ?_
      rintro e w2 ⟨rfl, hbw2⟩
      have b2 : Below w.heap.size w w2 := hbw1.trans (hbw2.mono hbw1.size)
      obtain ⟨_, _, s4⟩ := HQ.out w2 b2
      have HB2 : Hid (Below w.heap.size w w2) := b2
      clear r0 r1 r4 hbw1 hbw2 b2
      go_wp2_with fail
      clear s4
      go_loopw [26] (fun i wr => ∃ k : Nat, k ≤ M.wc.length ∧ i = .int .i64 k ∧ Hid (∀ j, j < k → decide ((eAt eWc M.wc j).table = f) = false) ∧ Below w.heap.size w wr) (fun i _ => M.wc.length - (intOf i).toNat)
      case atStart => exact ⟨0, Nat.zero_le _, rfl, fun j hj => absurd hj (by omega), HB2.out⟩
      case round =>
        obtain ⟨k, hk, rfl, hall, hb⟩ := hrel
        by_cases hlt2 : k < M.wc.length
        · obtain ⟨E, hE⟩ : ∃ E, eAt eWc M.wc k = E := ⟨_, rfl⟩
          obtain ⟨L, P, T, D⟩ := E
          obtain ⟨hae, hgt, hcs⟩ := HW2.out k L P T D hlt2 hE
          rw [hae]
          obtain ⟨c0, c1, c2, c3, c4⟩ := hcs wr hb
          have HE : Hid (eAt eWc M.wc k = _) := hE
          have L1 : (0 : Int) ≤ (k : Int) := by omega
          have L2 : (k : Int) < (M.wc.length : Int) := by omega
          have HB : Hid (Below w.heap.size w wr) := hb
          clear hE hcs hae hb
          generalize 16 * cov L = S at c1
          by_cases hT : T = f
          · have d : (T == f) = true := by simpa using hT
            have HR : Hid (inUse M f = true) := HU.out true (anyR_true _ k _ hlt2 (by rw [HE.out]; exact decide_eq_true hT))
            clear hT
            go_wp2_with fail
            go_ret
            exact ⟨by rw [HCD.out _ HR.out]; rfl, HB.out.alloc HB.out.size _⟩
          · have d : (T == f) = false := by simpa using hT
            have HN : Hid (decide ((eAt eWc M.wc k).table = f) = false) := by rw [HE.out]; exact decide_eq_false hT
            clear hT
            go_wp2_with fail
            go_roundw
            case rel =>
              refine ⟨k + 1, by omega, by go_num, fun j hj => ?_, HB.out.alloc HB.out.size _⟩
              by_cases e : j = k
              · rw [e]; exact HN.out
              · exact hall.out j (by omega)
            case measure => simp [intOf]; omega
        · have HR : Hid (inUse M f = false) := HU.out false (anyR_false _ _ (fun j hj => hall.out j (by omega)))
          go_wp2_with fail
          go_ret
          exact ⟨by rw [HCD.out _ HR.out]; rfl, hb⟩
    · have HR : Hid (inUse M f = true) := by unfold inUse; rw [hb1, hb2]; rfl
      rw [hb1] at HP1
      rw [hb2] at HP2
      clear hb1 hb2
      go_enter Tryz.func144, Tryz.ntmps144
      go_wp2_with fail
      refine (HP1.out w (Below.refl _ _)).mono ?_
      rintro e w1 ⟨rfl, hbw1⟩
      obtain ⟨r0, r1, r4⟩ := HQ.out w1 hbw1
      clear q0 q1 q4
      go_wp2_with fail
      refine (HP2.out w1 hbw1).mono ?_
      rintro e w2 ⟨rfl, hbw2⟩
      go_wp2_with fail
      go_ret
      exact ⟨by rw [HCD.out _ HR.out]; rfl, hbw1.trans (hbw2.mono hbw1.size)⟩
  · have HR : Hid (inUse M f = true) := by unfold inUse; rw [hb1]; rfl
    rw [hb1] at HP1
    clear hb1
    go_enter Tryz.func144, Tryz.ntmps144
    go_wp2_with fail
    refine (HP1.out w (Below.refl _ _)).mono ?_
    rintro e w1 ⟨rfl, hbw1⟩
    go_wp2_with fail
    go_ret
    exact ⟨by rw [HCD.out _ HR.out]; rfl, hbw1⟩

/-- Does place i object to the write? -/
def objects (M : Mach) (a : Int) (i : Nat) : Bool := if oldW M a % 2 = 1 then decide ((pAt (plist (lateL M)) i).fr = a / 16) else plcC M (plist (lateL M)) (a / 16) (a % 16) i
theorem wr_none {M : Mach} {o : OpE} (h : ∀ j, j < (plist (lateL M)).length → objects M o.a j = false) : wrCode M o = 0 := by
  unfold wrCode
  split
  · rfl
  · split
    · rename_i h1 h2
      have : plcHas (plist (lateL M)) (o.a / 16) = false := anyR_false _ _ (fun j hj => by have := h j hj; unfold objects at this; rwa [if_pos h2] at this)
      rw [this]; simp
    · rename_i h1 h2
      have : anyR (plcC M (plist (lateL M)) (o.a / 16) (o.a % 16)) (plist (lateL M)).length = false := anyR_false _ _ (fun j hj => by have := h j hj; unfold objects at this; rwa [if_neg h2] at this)
      rw [this]; simp
theorem wr_two {M : Mach} {o : OpE} (k : Nat) (hk : k < (plist (lateL M)).length) (h1 : ¬ o.word % 2 = 0) (h2 : oldW M o.a % 2 = 1) (h3 : oldW M o.a ≠ o.word) (h : (pAt (plist (lateL M)) k).fr = o.a / 16) : wrCode M o = 2 := by
  unfold wrCode
  rw [if_neg h1, if_pos h2, if_pos ⟨h3, anyR_true _ k _ hk (decide_eq_true h)⟩]
theorem wr_three {M : Mach} {o : OpE} (k : Nat) (hk : k < (plist (lateL M)).length) (h1 : ¬ o.word % 2 = 0) (h2 : ¬ oldW M o.a % 2 = 1) (h : plcC M (plist (lateL M)) (o.a / 16) (o.a % 16) k = true) : wrCode M o = 3 := by
  unfold wrCode
  rw [if_neg h1, if_neg h2, if_pos (anyR_true _ k _ hk h)]

set_option maxHeartbeats 4000000 in
theorem writeRef_any (gu b0 B : Nat) (u : UV) (M : Mach) (A : Nat) (o : OpE) (w : World) (hoa : o.a = A) (hA : A < M.mem.length) (hw0 : 0 ≤ o.word) (hw1 : o.word < 18446744073709551616) (hok : WOk M) (hv : validB M = true) (h : UM w gu b0 B true u M) :
    Calls Tryz.prog 143 #[.pointer (some ⟨gu, 0, none⟩), .int .i64 A, .int .u64 o.word] w fun e w' => e = .returned (.int .i64 (wrCode M o)) ∧ Below w.heap.size w w' := by
  have hm0 : 0 < M.mem.length := by omega
  have hpd : ∀ i, i < M.pend.length → 0 ≤ (eAt eWrite M.pend i).addr := fun i hi => (valid_pend hv i hi).1
  obtain ⟨g2, ha2, hn2, hc2, hl2, _⟩ := h.lat hm0
  have hmm := nfr_mul M.mem.length hok.n0
  have hml := nfr_le M.mem.length
  have hll : (lateL M).length = M.mem.length := lateL_length M
  obtain ⟨X, hX⟩ : ∃ X, X = oldW M o.a := ⟨_, rfl⟩
  have hxc := hc2.cell (i := A) (by omega)
  have hxe : (lateL M).getD A 0 = X := by rw [hX, oldW, hoa]; rfl
  have hxr := lateL_rng hok hpd A
  rw [hxe] at hxc hxr
  have hx1 : X < 18446744073709551616 := by have := hxr.2; omega
  have hlz := late_ok hok hpd
  have hpl := placesOf_any g2 (lateL M) u.c2 hlz hl2 w hc2
  have hle := plist_length (lateL M)
  have HPK : Hid (∀ i, i < (plist (lateL M)).length → _) := plist_ok (lateL M) hlz
  have HCA : Hid (∀ F L Q wX, Below w.heap.size w wX → (L = 1 ∨ L = 2 ∨ L = 3) → 0 ≤ Q → Q ≤ 20000 → Calls Tryz.prog 155 #[.pointer (some ⟨gu, 0, none⟩), .agg #[.int .i64 F, .int .i64 L, .int .i64 Q], .int .i64 ((A : Int) % 16)] wX fun e w' => e = .returned (.bool (cachedB M L (Q + (A : Int) % 16 * cov L) (cov L))) ∧ Below wX.heap.size wX w') := fun F L Q wX hX h1 h2 h3 => caches_any gu b0 B u M F L Q ((A : Int) % 16) wX hv h1 h2 h3 (by omega) (by omega) hok.t hok.c (h.below hX)
  have HPC : Hid (∀ k F L Q, pAt (plist (lateL M)) k = ⟨F, L, Q⟩ → objects M o.a k = (if X % 2 = 1 then decide (F = (A : Int) / 16) else (decide (F = (A : Int) / 16) && cachedB M L (Q + (A : Int) % 16 * cov L) (cov L))) ∧ plcC M (plist (lateL M)) (o.a / 16) (o.a % 16) k = (decide (F = (A : Int) / 16) && cachedB M L (Q + (A : Int) % 16 * cov L) (cov L))) := fun k F L Q he => by
    have h2 : plcC M (plist (lateL M)) (o.a / 16) (o.a % 16) k = (decide (F = (A : Int) / 16) && cachedB M L (Q + (A : Int) % 16 * cov L) (cov L)) := by unfold plcC; rw [he, hoa]
    refine ⟨?_, h2⟩
    unfold objects
    rw [← hX, h2, he, hoa]
  have HW0 : Hid (∀ c, wrCode M o = c → wrCode M o = c) := fun _ h => h
  have HNO : Hid ((∀ j, j < (plist (lateL M)).length → objects M o.a j = false) → wrCode M o = 0) := wr_none
  have HTWO : Hid (∀ k F L Q, k < (plist (lateL M)).length → pAt (plist (lateL M)) k = ⟨F, L, Q⟩ → ¬ o.word % 2 = 0 → X % 2 = 1 → X ≠ o.word → F = (A : Int) / 16 → wrCode M o = 2) := fun k F L Q hk he h1 h2 h3 h4 => wr_two k hk h1 (by rw [← hX]; exact h2) (by rw [← hX]; exact h3) (by rw [he, hoa]; exact h4)
  have HTHR : Hid (∀ k, k < (plist (lateL M)).length → ¬ o.word % 2 = 0 → ¬ X % 2 = 1 → plcC M (plist (lateL M)) (o.a / 16) (o.a % 16) k = true → wrCode M o = 3) := fun k hk h1 h2 h3 => wr_three k hk h1 (by rw [← hX]; exact h2) h3
  have HZ0 : Hid (o.word % 2 = 0 → wrCode M o = 0) := fun h => by unfold wrCode; rw [if_pos h]
  have HZ1 : Hid (¬ o.word % 2 = 0 → o.word = X → wrCode M o = 0) := fun h1 h2 => by
    unfold wrCode
    rw [if_neg h1, ← hX, if_pos (by rw [← h2]; omega), if_neg (fun hh => hh.1 h2.symm)]
  obtain ⟨ps, hps⟩ : ∃ ps, ps = plist (lateL M) := ⟨_, rfl⟩
  rw [← hps] at hpl hle HPK HNO HTWO HTHR HPC
  obtain ⟨n2, hn2'⟩ : ∃ n2, n2 = (lateL M).length := ⟨_, rfl⟩
  have q1 : w.cell? ⟨gu, 1, none⟩ = some (.slice (some ⟨g2, 0, none⟩) n2 u.c2) := by rw [hn2', ← ha2, ← hn2]; exact h.q1
  rw [← hn2'] at hpl
  have hAn : A < n2 := by rw [hn2', hll]; exact hA
  have and1 := and_1 o.word hw0 hw1
  have and2 := and_1 X hxr.1 hx1
  obtain ⟨Wd, hWd⟩ : ∃ Wd, Wd = o.word := ⟨_, rfl⟩
  obtain ⟨cde, hcde⟩ : ∃ c, c = wrCode M o := ⟨_, rfl⟩
  rw [← hWd] at hw0 hw1 HTWO HTHR HZ0 HZ1 and1 ⊢
  rw [← hcde] at HNO HTWO HTHR HZ0 HZ1 ⊢
  have hgl := h.lt
  have g2l := hc2.lt
  have L0 : (0 : Int) ≤ (A : Int) := by omega
  have L1 : (A : Int) < (n2 : Int) := by omega
  have hq : wrap64 ((A : Int) / 16) = (A : Int) / 16 := by unfold wrap64; omega
  clear HW0 h hok hpd hc2 hX hxe hxr hlz hps hn2 hn2' ha2 hll hWd hcde hoa hv hl2 hmm hml
  by_cases hwz : Wd % 2 = 0
  · have d0 : (Wd % 2 == 0) = true := by simpa using hwz
    have HR := HZ0.out hwz
    subst HR
    clear hwz hpl
    go_enter Tryz.func143, Tryz.ntmps143
    go_wp2_with fail
    go_ret
    exact ⟨rfl, Below.refl _ _⟩
  · have d0 : (Wd % 2 == 0) = false := by simpa using hwz
    by_cases hwx : Wd = X
    · have d1 : (Wd == X) = true := by simpa using hwx
      have HR := HZ1.out hwz hwx
      subst HR
      clear hwz hwx hpl
      go_enter Tryz.func143, Tryz.ntmps143
      go_wp2_with fail
      go_ret
      exact ⟨rfl, Below.refl _ _⟩
    · have d1 : (Wd == X) = false := by simpa using hwx
      have HWZ : Hid (¬ Wd % 2 = 0) := hwz
      have HWX : Hid (X ≠ Wd) := fun e => hwx e.symm
      clear hwz hwx
      go_enter Tryz.func143, Tryz.ntmps143
      go_wp2_with fail
      refine hpl.mono ?_
      rintro e w1 ⟨g1, c1, rfl, hr, hb1⟩
      obtain ⟨gp, hp1, hp2⟩ := plc_cells hr
      have HP1 : Hid _ := hp1
      have HP2 : Hid _ := hp2
      have HB1 : Hid (Below w.heap.size w w1) := hb1
      clear hb1 hpl hr hp1 hp2 hxc q1 and1 d0 d1
      go_wp2_with fail
      go_loopw [32] (fun i wr => ∃ k : Nat, k ≤ ps.length ∧ i = .int .i64 k ∧ Hid (∀ j, j < k → objects M o.a j = false) ∧ Below w1.heap.size w1 wr) (fun i _ => ps.length - (intOf i).toNat)
      case atStart => exact ⟨0, Nat.zero_le _, rfl, fun j hj => absurd hj (by omega), Below.refl _ _⟩
      case round =>
        obtain ⟨k, hk, rfl, hall, hb⟩ := hrel
        by_cases hlt : k < ps.length
        · obtain ⟨E, hE⟩ : ∃ E, pAt ps k = E := ⟨_, rfl⟩
          obtain ⟨F, L, Q⟩ := E
          obtain ⟨hge, hgl2⟩ := HP1.out (by omega)
          simp only [Option.some.injEq, Addr.mk.injEq, and_true] at hge
          obtain rfl := hge.symm
          obtain ⟨c0, c1, c2⟩ := HP2.out k F L Q hlt hE wr hb
          have hpk := HPK.out k hlt
          rw [hE] at hpk
          obtain ⟨hobj, hplc⟩ := HPC.out k F L Q hE
          have HOBJ : Hid _ := hobj
          have HPLC : Hid _ := hplc
          have HE : Hid (pAt ps k = _) := hE
          have M1 : (0 : Int) ≤ (k : Int) := by omega
          have M2 : (k : Int) < (ps.length : Int) := by omega
          have HB : Hid (Below w1.heap.size w1 wr) := hb
          have hsz := hb.size
          obtain ⟨wx, hwx⟩ : ∃ wx, wx = wr.alloc (.cells #[.int .i64 F, .int .i64 L, .int .i64 Q] 172) := ⟨_, rfl⟩
          have bx : Below w.heap.size w wx := by rw [hwx]; exact (HB1.out.trans (hb.mono HB1.out.size)).alloc (Nat.le_trans HB1.out.size hsz) _
          have hca := HCA.out F L Q wx bx hpk.1 hpk.2.1 hpk.2.2
          rw [hwx] at hca
          have HWXX : Hid (wx = _) := hwx
          have HBX : Hid (Below w.heap.size w wx) := bx
          have HBX1 : Hid (Below w1.heap.size w1 wx) := by rw [hwx]; exact hb.alloc hsz _
          clear hE hb hge hobj hplc hpk hwx bx
          by_cases hF : F = (A : Int) / 16
          · have dF : (F != (A : Int) / 16) = false := by simpa using hF
            by_cases hX1 : X % 2 = 1
            · have dX : (X % 2 != 0) = true := by simp; omega
              have HR := HTWO.out k F L Q hlt HE.out HWZ.out hX1 HWX.out hF
              subst HR
              clear hX1 hca hF
              go_wp2_with fail
              rw [← HWXX.out]
              go_ret
              exact ⟨rfl, HBX.out⟩
            · have dX : (X % 2 != 0) = false := by simp; omega
              cases hcb : cachedB M L (Q + (A : Int) % 16 * cov L) (cov L) <;> rw [hcb] at hca
              · have HN : Hid (objects M o.a k = false) := by rw [HOBJ.out, if_neg hX1, hcb, Bool.and_false]; rfl
                clear hX1 hF hcb
                go_wp2_with fail
                refine hca.mono ?_
                rintro e w2 ⟨rfl, hb2⟩
                go_wp2_with fail
                rw [← HWXX.out] at hb2
                go_roundw
                case rel =>
                  refine ⟨k + 1, by omega, by go_num, fun j hj => ?_, HBX1.out.trans (hb2.mono HBX1.out.size)⟩
                  by_cases e : j = k
                  · rw [e]; exact HN.out
                  · exact hall.out j (by omega)
                case measure => simp [intOf]; omega
              · have HR := HTHR.out k hlt HWZ.out hX1 (by rw [HPLC.out, hcb, decide_eq_true hF]; rfl)
                subst HR
                clear hX1 hF hcb
                go_wp2_with fail
                refine hca.mono ?_
                rintro e w2 ⟨rfl, hb2⟩
                go_wp2_with fail
                rw [← HWXX.out] at hb2
                go_ret
                exact ⟨rfl, HBX.out.trans (hb2.mono HBX.out.size)⟩
          · have dF : (F != (A : Int) / 16) = true := by simpa using hF
            have HN : Hid (objects M o.a k = false) := by
              rw [HOBJ.out, decide_eq_false hF]
              split <;> rfl
            clear hF hca
            go_wp2_with fail
            rw [← HWXX.out]
            go_roundw
            case rel =>
              refine ⟨k + 1, by omega, by go_num, fun j hj => ?_, HBX1.out⟩
              by_cases e : j = k
              · rw [e]; exact HN.out
              · exact hall.out j (by omega)
            case measure => simp [intOf]; omega
        · have HR := HNO.out (fun j hj => hall.out j (by omega))
          subst HR
          go_wp2_with fail
          go_ret
          exact ⟨rfl, HB1.out.trans (hb.mono HB1.out.size)⟩
end Go.Proofs.YtiiejckfcnmhoabGreat
namespace Go.Proofs.YtiiejckfcnmhoabGreat
open Go.ChangeShapes Go.WideShapes Go.ChangeAt Go.RowKit
set_option linter.unusedVariables false
attribute [local go_sem ↓] Go.wp_at_zero Go.wp_at_succ

theorem doom_any (b o : Nat) (hp hn first pages : Int) (D : Bool) (h0 : 0 ≤ hp ∧ hp < 100000) (h1 : 0 ≤ hn ∧ hn < 100000) (h2 : 0 ≤ first ∧ first < 100000) (h3 : 0 ≤ pages ∧ pages < 100000) (w : World) (hb : b < w.heap.size) (c0 : w.cell? ⟨b, o, none⟩ = some (.int .i64 hp)) (c1 : w.cell? ⟨b, o + 1, none⟩ = some (.int .i64 hn)) (c2 : w.cell? ⟨b, o + 2, none⟩ = some (.bool D)) (f2 : w.frozen? ⟨b, o + 2, none⟩ = false) :
    Calls Tryz.prog 194 #[.pointer (some ⟨b, o, none⟩), .int .i64 first, .int .i64 pages] w fun e w' => e = .returned (.tuple #[]) ∧ ∃ w2, Below w.heap.size w w2 ∧ w' = if meets hp hn first pages then w2.setCell ⟨b, o + 2, none⟩ (.bool true) else w2 := by
  have hov := overlaps_any b o hp hn first pages h0 h1 h2 h3 w c0 c1
  cases hm : meets hp hn first pages <;> rw [hm] at hov
  · simp only [Bool.false_eq_true, if_false]
    clear hm
    go_enter Tryz.func194, Tryz.ntmps194
    go_wp2_with fail
    refine hov.mono ?_
    rintro e w1 ⟨rfl, hb1⟩
    go_wp2_with fail
    exact bodyPost_end (v := .tuple #[]) (by simp [results, Tryz.results194, go_sem]) rfl ⟨rfl, w1, hb1, rfl⟩
  · simp only [if_true]
    clear hm
    go_enter Tryz.func194, Tryz.ntmps194
    go_wp2_with fail
    refine hov.mono ?_
    rintro e w1 ⟨rfl, hb1⟩
    have d2 := (hb1.cell (p := ⟨b, o + 2, none⟩) hb).trans c2
    have g2 := (hb1.frozen (p := ⟨b, o + 2, none⟩) hb).trans f2
    go_wp2_with fail
    exact bodyPost_end (v := .tuple #[]) (by simp [results, Tryz.results194, go_sem]) rfl ⟨rfl, w1, hb1, rfl⟩

theorem cell_div {sz : Nat} (i j : Nat) (hj : j < sz) : (i * sz + j) / sz = i := by
  rw [Nat.mul_comm, Nat.mul_add_div (by omega), Nat.div_eq_of_lt hj]; rfl
/-- One cell of an element of a row is written. -/
theorem ERow.setAt {α : Type} {E : Elt α} {w : World} {base g n c : Nat} {xs : List α} (h : ERow E w base (.slice (some ⟨g, 0, none⟩) n c) xs) (k j : Nat) (hk : k < xs.length) (hj : j < E.sz) (v : Value) (x : α) (hx : E.enc x = (E.enc (eAt E xs k)).set j v) :
    ERow E (w.setCell ⟨g, k * E.sz + j, none⟩ v) base (.slice (some ⟨g, 0, none⟩) n c) (xs.set k x) := by
  rcases h.2 with ⟨e, _⟩ | ⟨g', cap, cur, e, hb, hg, hn, hm, hs, ht⟩
  · simp at e
  · simp only [Value.slice.injEq, Option.some.injEq, Addr.mk.injEq, and_true] at e
    obtain ⟨rfl, rfl, rfl⟩ := e
    obtain ⟨a', c', e', hf⟩ := h.form
    obtain ⟨g2, N, f, hag, hbg, hr, hN, hc⟩ := hf (by omega)
    simp only [Value.slice.injEq] at e'
    have hgg : some (⟨g, 0, none⟩ : Addr) = some ⟨g2, 0, none⟩ := e'.1.trans hag
    simp only [Option.some.injEq, Addr.mk.injEq, and_true] at hgg
    subst hgg
    have hNs : N = cur.size := by
      obtain ⟨cur2, hg2, hs2, _⟩ := hr
      rw [hg] at hg2
      simp only [Option.some.injEq, Obj.cells.injEq] at hg2
      rw [← hs2, hg2.1]
    refine ERow.of_row (n := xs.length) (by simp) hb (hr.set (k * E.sz + j) v) (by rw [hNs, hs]) hn hm (fun i hi q hq => ?_)
    have hat : eAt E (xs.set k x) i = if i = k then x else eAt E xs i := by
      unfold eAt
      rw [List.getD_eq_getElem?_getD, List.getD_eq_getElem?_getD, List.getElem?_set]
      by_cases e : i = k
      · subst e; simp [hi]
      · rw [if_neg (fun e' => e e'.symm), if_neg e]
    by_cases e : i = k
    · subst e
      by_cases eq : q = j
      · subst eq
        rw [if_pos rfl]
        unfold eCell
        rw [hat, if_pos rfl, hx, List.getElem?_set_self (by rw [E.len]; exact hq)]
        rfl
      · rw [if_neg (by omega), hc i hi q hq]
        unfold eCell
        rw [hat, if_pos rfl, hx, List.getElem?_set_ne (fun e' => eq e'.symm)]
    · rw [if_neg (fun e2 => by
        have h1 := cell_div (sz := E.sz) i q hq
        have h2 := cell_div (sz := E.sz) k j hj
        rw [e2] at h1
        exact e (h1.symm.trans h2)), hc i hi q hq]
      unfold eCell
      rw [hat, if_neg e]
/-- The TLB's entries are written in place. -/
theorem UM.rowTlb {W W' : World} {gu b0 B : Nat} {L : Bool} {u : UV} {M : Mach} (h : UM W gu b0 B L u M) (hT : Touch (fun k => u.o4 = some k) W W') (ys : List TlbE) (hl : ys.length = M.tlb.length) (hc : ERow eTE W' B (.slice u.a4 ys.length u.c4) ys) : UM W' gu b0 B L u ⟨M.mem, M.pend, ys, M.wc⟩ := by
  have hk := hT.block gu h.lt (fun e => h.ap.g4 e)
  exact ⟨Nat.lt_of_lt_of_le h.lt hT.size, (World.cell?_of_block hk).trans h.q0, (World.cell?_of_block hk).trans h.q1, (World.cell?_of_block hk).trans h.q2, by rw [show (Mach.mk M.mem M.pend ys M.wc).tlb.length = M.tlb.length from hl]; exact (World.cell?_of_block hk).trans h.q3, (World.cell?_of_block hk).trans h.q4, (World.frozen?_of_block hk).trans h.f2, (World.frozen?_of_block hk).trans h.f3, (World.frozen?_of_block hk).trans h.f4,
    h.w.touchA hT (fun k hk e => h.ap.t1 k e hk), fun hl => ⟨(h.l hl).1, (h.l hl).2.touchA hT (fun k hk e => h.ap.t2 k e hk)⟩, h.p.touchA hT (fun k hk e => h.ap.t3 k e hk), hc, h.c.touchA hT (fun k hk e => h.ap.t5 k e hk), h.ap, fun k hk => Nat.lt_of_lt_of_le (h.o2 k hk) hT.size⟩
theorem UM.rowWc {W W' : World} {gu b0 B : Nat} {L : Bool} {u : UV} {M : Mach} (h : UM W gu b0 B L u M) (hT : Touch (fun k => u.o5 = some k) W W') (ys : List WcE) (hl : ys.length = M.wc.length) (hc : ERow eWE W' B (.slice u.a5 ys.length u.c5) ys) : UM W' gu b0 B L u ⟨M.mem, M.pend, M.tlb, ys⟩ := by
  have hk := hT.block gu h.lt (fun e => h.ap.g5 e)
  exact ⟨Nat.lt_of_lt_of_le h.lt hT.size, (World.cell?_of_block hk).trans h.q0, (World.cell?_of_block hk).trans h.q1, (World.cell?_of_block hk).trans h.q2, (World.cell?_of_block hk).trans h.q3, by rw [show (Mach.mk M.mem M.pend M.tlb ys).wc.length = M.wc.length from hl]; exact (World.cell?_of_block hk).trans h.q4, (World.frozen?_of_block hk).trans h.f2, (World.frozen?_of_block hk).trans h.f3, (World.frozen?_of_block hk).trans h.f4,
    h.w.touchA hT (fun k hk e => h.ap.w1 k e hk), fun hl => ⟨(h.l hl).1, (h.l hl).2.touchA hT (fun k hk e => h.ap.w2 k e hk)⟩, h.p.touchA hT (fun k hk e => h.ap.w3 k e hk), h.t.touchA hT (fun k hk e => h.ap.t5 k hk e), hc, h.ap, fun k hk => Nat.lt_of_lt_of_le (h.o2 k hk) hT.size⟩
/-- The first k entries turned by f. -/
def mapTo {α : Type} (f : α → α) (xs : List α) (k : Nat) : List α := (xs.take k).map f ++ xs.drop k
theorem mapTo_length {α : Type} (f : α → α) (xs : List α) (k : Nat) : (mapTo f xs k).length = xs.length := by simp [mapTo]; omega
theorem mapTo_zero {α : Type} (f : α → α) (xs : List α) : mapTo f xs 0 = xs := by simp [mapTo]
theorem mapTo_all {α : Type} (f : α → α) (xs : List α) : mapTo f xs xs.length = xs.map f := by simp [mapTo]
theorem mapTo_get {α : Type} (f : α → α) (xs : List α) (k i : Nat) : (mapTo f xs k)[i]? = if i < k then (xs[i]?).map f else xs[i]? := by
  unfold mapTo
  by_cases h : i < k
  · rw [if_pos h]
    by_cases hx : i < xs.length
    · rw [List.getElem?_append_left (by simp; omega)]
      simp [h]
    · rw [List.getElem?_append_right (by simp; omega), List.getElem?_drop, List.getElem?_eq_none (by simp; omega), List.getElem?_eq_none (by omega)]
      rfl
  · rw [if_neg h]
    by_cases hx : k ≤ xs.length
    · rw [List.getElem?_append_right (by simp; omega), List.getElem?_drop]
      congr 1
      simp
      omega
    · rw [List.getElem?_append_right (by simp; omega), List.getElem?_drop, List.getElem?_eq_none (by simp; omega), List.getElem?_eq_none (by omega)]
theorem mapTo_at {α : Type} (E : Elt α) (f : α → α) (xs : List α) (k : Nat) : eAt E (mapTo f xs k) k = eAt E xs k := by
  unfold eAt
  rw [List.getD_eq_getElem?_getD, List.getD_eq_getElem?_getD, mapTo_get, if_neg (by omega)]
theorem mapTo_succ {α : Type} (E : Elt α) (f : α → α) (xs : List α) (k : Nat) (hk : k < xs.length) : mapTo f xs (k + 1) = (mapTo f xs k).set k (f (eAt E xs k)) := by
  apply List.ext_getElem?
  intro i
  rw [mapTo_get, List.getElem?_set, mapTo_get]
  by_cases e : k = i
  · subst e
    rw [if_pos (by omega), if_pos rfl, if_pos (by rw [mapTo_length]; exact hk), List.getElem?_eq_getElem hk]
    unfold eAt
    rw [List.getD_eq_getElem?_getD, List.getElem?_eq_getElem hk]
    rfl
  · rw [if_neg e]
    by_cases h : i < k
    · rw [if_pos (by omega), if_pos h]
    · rw [if_neg (by omega), if_neg h]
theorem list_set_at {α : Type} (E : Elt α) (xs : List α) (k : Nat) (hk : k < xs.length) : xs.set k (eAt E xs k) = xs := by
  apply List.ext_getElem?
  intro i
  rw [List.getElem?_set]
  by_cases e : k = i
  · subst e
    rw [if_pos rfl, if_pos hk]
    unfold eAt
    rw [List.getD_eq_getElem?_getD, List.getElem?_eq_getElem hk]
    rfl
  · rw [if_neg e]

/-- Entry k of the TLB is told to go, if it meets the pages: what the machine is then. -/
theorem doomedT {gu b0 B : Nat} {u : UV} {M : Mach} {a b : Int} {k g : Nat} {wr w1 w2 : World} (hk : k < M.tlb.length) (hga : u.a4 = some ⟨g, 0, none⟩) (h : UM wr gu b0 B true u ⟨M.mem, M.pend, mapTo (doomT a b) M.tlb k, M.wc⟩) (hb : Below wr.heap.size wr w2)
    (he : w1 = if meets (eAt eTlb M.tlb k).page (eAt eTlb M.tlb k).size a b then w2.setCell ⟨g, k * 5 + 2, none⟩ (.bool true) else w2) :
    UM w1 gu b0 B true u ⟨M.mem, M.pend, mapTo (doomT a b) M.tlb (k + 1), M.wc⟩ ∧ Touch (fun q => u.o4 = some q) wr w1 := by
  have ho : u.o4 = some g := by unfold UV.o4; rw [hga]; rfl
  have hl := mapTo_length (doomT a b) M.tlb k
  have h2 := h.below hb
  have hat := mapTo_at eTE (doomT a b) M.tlb k
  have hsc := mapTo_succ eTE (doomT a b) M.tlb k hk
  have hE : eAt eTE M.tlb k = eAt eTlb M.tlb k := rfl
  cases hm : meets (eAt eTlb M.tlb k).page (eAt eTlb M.tlb k).size a b
  · rw [hm] at he
    simp only [Bool.false_eq_true, if_false] at he
    subst he
    have hd : doomT a b (eAt eTE M.tlb k) = eAt eTE M.tlb k := by
      rw [hE]
      unfold doomT
      rw [hm, Bool.or_false]
    have hsame : mapTo (doomT a b) M.tlb (k + 1) = mapTo (doomT a b) M.tlb k := by
      rw [hsc, hd, ← hat]
      exact list_set_at eTE _ k (by rw [hl]; exact hk)
    rw [hsame]
    exact ⟨h2, Touch.of_below hb⟩
  · rw [hm] at he
    simp only [if_true] at he
    have hT : Touch (fun q => u.o4 = some q) w2 w1 := by
      rw [he]
      exact ⟨rfl, rfl, rfl, by simp, fun q hq hn => Below.heap_setCell _ _ _ _ (fun e => hn (by rw [e]; exact ho))⟩
    have hrow : ERow eTE w1 B (.slice u.a4 (mapTo (doomT a b) M.tlb (k + 1)).length u.c4) (mapTo (doomT a b) M.tlb (k + 1)) := by
      have h3 := h2.t
      rw [hga] at h3 ⊢
      rw [mapTo_length, hsc, he]
      have h4 : ERow eTE w2 B (.slice (some ⟨g, 0, none⟩) (mapTo (doomT a b) M.tlb k).length u.c4) (mapTo (doomT a b) M.tlb k) := h3
      rw [hl] at h4
      refine h4.setAt k 2 (by rw [hl]; exact hk) (by decide) (.bool true) _ ?_
      rw [hat, hE]
      unfold doomT
      rw [hm, Bool.or_true]
      rfl
    refine ⟨?_, (Touch.of_below hb).trans hT⟩
    have h5 := h2.rowTlb hT (mapTo (doomT a b) M.tlb (k + 1)) (by show _ = (mapTo _ _ _).length; rw [mapTo_length, mapTo_length]) hrow
    exact h5

/-- Entry k of the walk cache is told to go, if it meets the pages: what the machine is then. -/
theorem doomedW {gu b0 B : Nat} {u : UV} {M : Mach} {a b : Int} {k g : Nat} {wr w1 w2 : World} (hk : k < M.wc.length) (hga : u.a5 = some ⟨g, 0, none⟩) (h : UM wr gu b0 B true u ⟨M.mem, M.pend, M.tlb, mapTo (doomW a b) M.wc k⟩) (hb : Below wr.heap.size wr w2)
    (he : w1 = if meets (eAt eWc M.wc k).page (16 * cov (eAt eWc M.wc k).level) a b then w2.setCell ⟨g, k * 5 + 2, none⟩ (.bool true) else w2) :
    UM w1 gu b0 B true u ⟨M.mem, M.pend, M.tlb, mapTo (doomW a b) M.wc (k + 1)⟩ ∧ Touch (fun q => u.o5 = some q) wr w1 := by
  have ho : u.o5 = some g := by unfold UV.o5; rw [hga]; rfl
  have hl := mapTo_length (doomW a b) M.wc k
  have h2 := h.below hb
  have hat := mapTo_at eWE (doomW a b) M.wc k
  have hsc := mapTo_succ eWE (doomW a b) M.wc k hk
  have hE : eAt eWE M.wc k = eAt eWc M.wc k := rfl
  cases hm : meets (eAt eWc M.wc k).page (16 * cov (eAt eWc M.wc k).level) a b
  · rw [hm] at he
    simp only [Bool.false_eq_true, if_false] at he
    subst he
    have hd : doomW a b (eAt eWE M.wc k) = eAt eWE M.wc k := by
      rw [hE]
      unfold doomW
      rw [hm, Bool.or_false]
    have hsame : mapTo (doomW a b) M.wc (k + 1) = mapTo (doomW a b) M.wc k := by
      rw [hsc, hd, ← hat]
      exact list_set_at eWE _ k (by rw [hl]; exact hk)
    rw [hsame]
    exact ⟨h2, Touch.of_below hb⟩
  · rw [hm] at he
    simp only [if_true] at he
    have hT : Touch (fun q => u.o5 = some q) w2 w1 := by
      rw [he]
      exact ⟨rfl, rfl, rfl, by simp, fun q hq hn => Below.heap_setCell _ _ _ _ (fun e => hn (by rw [e]; exact ho))⟩
    have hrow : ERow eWE w1 B (.slice u.a5 (mapTo (doomW a b) M.wc (k + 1)).length u.c5) (mapTo (doomW a b) M.wc (k + 1)) := by
      have h3 := h2.c
      rw [hga] at h3 ⊢
      rw [mapTo_length, hsc, he]
      have h4 : ERow eWE w2 B (.slice (some ⟨g, 0, none⟩) (mapTo (doomW a b) M.wc k).length u.c5) (mapTo (doomW a b) M.wc k) := h3
      rw [hl] at h4
      refine h4.setAt k 2 (by rw [hl]; exact hk) (by decide) (.bool true) _ ?_
      rw [hat, hE]
      unfold doomW
      rw [hm, Bool.or_true]
      rfl
    refine ⟨?_, (Touch.of_below hb).trans hT⟩
    have h5 := h2.rowWc hT (mapTo (doomW a b) M.wc (k + 1)) (by show _ = (mapTo _ _ _).length; rw [mapTo_length, mapTo_length]) hrow
    exact h5

theorem ERow.frz {α : Type} {E : Elt α} {w : World} {b g n c : Nat} {xs : List α} (h : ERow E w b (.slice (some ⟨g, 0, none⟩) n c) xs) (i : Nat) : w.frozen? ⟨g, i, none⟩ = false := by
  rcases h.2 with ⟨e, _⟩ | ⟨g', cap, cur, e, hb, hg, hn, hm, hs, ht⟩
  · simp at e
  · simp only [Value.slice.injEq, Option.some.injEq, Addr.mk.injEq, and_true] at e
    obtain ⟨rfl, _, _⟩ := e
    have hr : w.rowIs g E.T cur.size (fun i => cur.getD i (.bool false)) := ⟨cur, hg, rfl, fun i hi => by simp [hi]⟩
    exact hr.frozen i

set_option maxHeartbeats 4000000 in
theorem invApply_any (gu b0 B : Nat) (u : UV) (M : Mach) (K a b W : Int) (w : World) (hv : validB M = true) (ha0 : 0 ≤ a) (ha1 : a < 4096) (hb0 : 1 ≤ b) (hb1 : b ≤ 4096) (ht : M.tlb.length ≤ 256) (hc : M.wc.length ≤ 256) (h : UM w gu b0 B true u M) :
    Calls Tryz.prog 192 #[.agg #[.int .i64 K, .int .i64 a, .int .i64 b, .int .u64 W], .pointer (some ⟨gu, 0, none⟩)] w fun e w' => e = .returned (.tuple #[]) ∧ UM w' gu b0 B true u ⟨M.mem, M.pend, M.tlb.map (doomT a b), M.wc.map (doomW a b)⟩ ∧ Touch (fun q => u.o4 = some q ∨ u.o5 = some q) w w' := by
  obtain ⟨wb, hwb⟩ : ∃ wb, wb = w.alloc (.cells #[.int .i64 K, .int .i64 a, .int .i64 b, .int .u64 W] 202) := ⟨_, rfl⟩
  have hbb : Below w.heap.size w wb := by rw [hwb]; exact (Below.refl _ _).alloc (Nat.le_refl _) _
  have hzb : wb.heap.size = w.heap.size + 1 := by rw [hwb]; simp
  have hl4 : ∀ q, u.o4 = some q → q < w.heap.size := fun q hq => (h.t.ownA q hq).2
  have hl5 : ∀ q, u.o5 = some q → q < w.heap.size := fun q hq => (h.c.ownA q hq).2
  have HLT : Hid ((∀ q, u.o4 = some q → q < w.heap.size) ∧ (∀ q, u.o5 = some q → q < w.heap.size)) := ⟨hl4, hl5⟩
  have HBOX : Hid (∀ wX, Touch (fun q => u.o4 = some q ∨ u.o5 = some q) wb wX → wX.cell? ⟨w.heap.size, 0, none⟩ = some (.int .i64 K) ∧ wX.cell? ⟨w.heap.size, 1, none⟩ = some (.int .i64 a) ∧ wX.cell? ⟨w.heap.size, 2, none⟩ = some (.int .i64 b) ∧ wX.cell? ⟨w.heap.size, 3, none⟩ = some (.int .u64 W)) := fun wX hX => by
    have hk := hX.block w.heap.size (by omega) (fun e => by
      rcases e with e | e
      · have := hl4 _ e; omega
      · have := hl5 _ e; omega)
    refine ⟨?_, ?_, ?_, ?_⟩
    iterate 4 (exact (World.cell?_of_block hk).trans (by rw [hwb]; simp [go_sem]))
  have hSZ : Hid (∀ wX, Touch (fun q => u.o4 = some q ∨ u.o5 = some q) wb wX → w.heap.size < wX.heap.size) := fun wX hX => by have := hX.size; omega
  have humb := h.below hbb
  have q3 := h.q3
  have hlt := h.lt
  have HV : Hid (validB M = true) := hv
  have HWB : Hid (wb = _) := hwb
  have HBB : Hid (Below w.heap.size w wb) := hbb
  have HUB : Hid (UM wb gu b0 B true u ⟨M.mem, M.pend, mapTo (doomT a b) M.tlb 0, M.wc⟩) := by rw [mapTo_zero]; exact humb
  clear h hwb hbb hzb hl4 hl5 hv humb
  go_enter Tryz.func192, Tryz.ntmps192
  go_wp2_with fail
  rw [← HWB.out]
  clear q3
  go_loopw [11] (fun i wr => ∃ k : Nat, k ≤ M.tlb.length ∧ i = .int .i64 k ∧ UM wr gu b0 B true u ⟨M.mem, M.pend, mapTo (doomT a b) M.tlb k, M.wc⟩ ∧ Touch (fun q => u.o4 = some q) wb wr) (fun i _ => M.tlb.length - (intOf i).toNat)
  case atStart => exact ⟨0, Nat.zero_le _, rfl, HUB.out, Touch.of_below (Below.refl _ _)⟩
  case round =>
    obtain ⟨k, hk, rfl, hum, htw0⟩ := hrel
    have htw : Touch (fun q => u.o4 = some q ∨ u.o5 = some q) wb wr := ⟨htw0.os, htw0.tape, htw0.output, htw0.size, fun q hq hn => htw0.block q hq (fun e => hn (.inl e))⟩
    by_cases hlt2 : k < M.tlb.length
    · obtain ⟨E, hE'⟩ : ∃ E, eAt eTlb M.tlb k = E := ⟨_, rfl⟩
      have hEM : eAt eTlb (mapTo (doomT a b) M.tlb k) k = E := (mapTo_at eTE _ _ k).trans hE'
      have hml := mapTo_length (doomT a b) M.tlb k
      have hrow : ERow eTE wr B (.slice u.a4 (mapTo (doomT a b) M.tlb k).length u.c4) (mapTo (doomT a b) M.tlb k) := hum.t
      obtain ⟨g, hg1, hg2⟩ := tlb_cells hrow
      obtain ⟨hga, hgl⟩ := hg1 (by omega)
      have hfz : wr.frozen? ⟨g, k * 5 + 2, none⟩ = false := by rw [hga] at hrow; exact hrow.frz _
      have htv := valid_tlb HV.out k hlt2
      rw [hE'] at htv
      obtain ⟨P, S, O, R, D⟩ := E
      have hg3 := hg2 k P S O R D (by rw [hml]; exact hlt2) hEM wr.drew rfl
      have HKEEP : Hid (∀ wX, Touch (fun q => u.o4 = some q) wr wX → wX.cell? ⟨gu, 3, none⟩ = some (.slice (some ⟨g, 0, none⟩) M.tlb.length u.c4) ∧ (wX.cell? ⟨w.heap.size, 0, none⟩ = some (.int .i64 K) ∧ wX.cell? ⟨w.heap.size, 1, none⟩ = some (.int .i64 a) ∧ wX.cell? ⟨w.heap.size, 2, none⟩ = some (.int .i64 b) ∧ wX.cell? ⟨w.heap.size, 3, none⟩ = some (.int .u64 W))) := fun wX hX => by
        have hk := hX.block gu hum.lt (fun e => hum.ap.g4 e)
        have q := (World.cell?_of_block (a := ⟨gu, 3, none⟩) hk).trans hum.q3
        have hbx := hX.block w.heap.size (by have := hSZ.out wr htw; omega) (fun e => by have := HLT.out.1 _ e; omega)
        obtain ⟨x0, x1, x2, x3⟩ := HBOX.out wr htw
        refine ⟨by rw [← hga, ← hml]; exact q, (World.cell?_of_block hbx).trans x0, (World.cell?_of_block hbx).trans x1, (World.cell?_of_block hbx).trans x2, (World.cell?_of_block hbx).trans x3⟩
      have hts : (0 ≤ P ∧ P < 100000) ∧ (0 ≤ S ∧ S < 100000) := by
        simp only [tlbOkB, pageOk, Bool.and_eq_true, Bool.or_eq_true, decide_eq_true_eq] at htv
        omega
      have hdm := doom_any g (k * 5) P S a b D hts.1 hts.2 (by omega) (by omega) wr.drew hgl hg3.1 hg3.2.1 hg3.2.2.1 hfz
      obtain ⟨qa, bx0, bx1, bx2, bx3⟩ := HKEEP.out wr (Touch.of_below (Below.refl _ _))
      have HUM : Hid (UM wr gu b0 B true u ⟨M.mem, M.pend, mapTo (doomT a b) M.tlb k, M.wc⟩) := hum
      have HTW : Hid _ := htw0
      have L1 : (0 : Int) ≤ (k : Int) := by omega
      have L2 : (k : Int) < (M.tlb.length : Int) := by omega
      have HGA : Hid (u.a4 = _) := hga
      clear hum htw htw0 hrow hg1 hg2 hg3 htv hts hfz hga
      go_wp2_with fail
      refine wp_region_held_drew (S := (fun wX => wX.cell? ⟨gu, 3, none⟩ = some (.slice (some ⟨g, 0, none⟩) M.tlb.length u.c4) ∧ (wX.cell? ⟨w.heap.size, 0, none⟩ = some (.int .i64 K) ∧ wX.cell? ⟨w.heap.size, 1, none⟩ = some (.int .i64 a) ∧ wX.cell? ⟨w.heap.size, 2, none⟩ = some (.int .i64 b) ∧ wX.cell? ⟨w.heap.size, 3, none⟩ = some (.int .u64 W)))) (by kernel_rfl) (HKEEP.out _ (Touch.of_below ((Below.refl _ _).drew))) (fun hHeld => ?_)
      refine wpAnyH_take (i := 0) (v := ?_) rfl (by kernel_rfl) (by kernel_rfl) (by kernel_rfl) (fun _ _ _ h => h) (Or.inl ⟨by rfl, ?_⟩) (by assumption) ?_
      rotate_left
      · (intro w hSw; (try dsimp only at hSw); go_simp; try with_reducible rfl)
      simp only [Act.put, List.setIfInBounds_toArray, List.set_cons_zero, List.set_cons_succ, List.getElem_toArray, List.getElem_cons_zero]
      refine wpAnyH_take (i := 1) (v := ?_) rfl (by kernel_rfl) (by kernel_rfl) (by kernel_rfl) (fun _ _ _ h => h) (Or.inl ⟨by rfl, ?_⟩) (by assumption) ?_
      rotate_left
      · (intro w hSw; (try dsimp only at hSw); go_simp; try with_reducible rfl)
      simp only [Act.put, List.setIfInBounds_toArray, List.set_cons_zero, List.set_cons_succ, List.getElem_toArray, List.getElem_cons_zero, List.getElem_cons_succ]
      refine wpAnyH_take (i := 2) (v := ?_) rfl (by kernel_rfl) (by kernel_rfl) (by kernel_rfl) (fun _ _ _ h => h) (Or.inl ⟨by rfl, ?_⟩) (by assumption) ?_
      rotate_left
      · (intro w hSw; (try dsimp only at hSw); go_simp; try with_reducible rfl)
      simp only [Act.put, List.setIfInBounds_toArray, List.set_cons_zero, List.set_cons_succ, List.getElem_toArray, List.getElem_cons_zero, List.getElem_cons_succ]
      refine wpAnyH_take (i := 3) (v := ?_) rfl (by kernel_rfl) (by kernel_rfl) (by kernel_rfl) (fun _ _ _ h => h) (Or.inl ⟨by rfl, ?_⟩) (by assumption) ?_
      rotate_left
      · (intro w hSw; (try dsimp only at hSw); go_simp; try with_reducible rfl)
      simp only [Act.put, List.setIfInBounds_toArray, List.set_cons_zero, List.set_cons_succ, List.getElem_toArray, List.getElem_cons_zero, List.getElem_cons_succ]
      refine wpAnyH_take (i := 4) (v := ?_) rfl (by kernel_rfl) (by kernel_rfl) (by kernel_rfl) (fun _ _ _ h => h) (Or.inl ⟨by rfl, ?_⟩) (by assumption) ?_
      rotate_left
      · (intro w hSw; (try dsimp only at hSw); go_simp; try with_reducible rfl)
      simp only [Act.put, List.setIfInBounds_toArray, List.set_cons_zero, List.set_cons_succ, List.getElem_toArray, List.getElem_cons_zero, List.getElem_cons_succ]
      refine wpAnyH_take (i := 5) (v := ?_) rfl (by kernel_rfl) (by kernel_rfl) (by kernel_rfl) (fun _ _ _ h => h) (Or.inl ⟨by rfl, ?_⟩) (by assumption) ?_
      rotate_left
      · (intro w hSw; (try dsimp only at hSw); go_simp; try with_reducible rfl)
      simp only [Act.put, List.setIfInBounds_toArray, List.set_cons_zero, List.set_cons_succ, List.getElem_toArray, List.getElem_cons_zero, List.getElem_cons_succ]
      refine wpAnyH_take (i := 6) (v := ?_) rfl (by kernel_rfl) (by kernel_rfl) (by kernel_rfl) (fun _ _ _ h => h) (Or.inl ⟨by rfl, ?_⟩) (by assumption) ?_
      rotate_left
      · (intro w hSw; (try dsimp only at hSw); go_simp; try with_reducible rfl)
      simp only [Act.put, List.setIfInBounds_toArray, List.set_cons_zero, List.set_cons_succ, List.getElem_toArray, List.getElem_cons_zero, List.getElem_cons_succ]
      refine wpAnyH_take (i := 7) (v := ?_) rfl (by kernel_rfl) (by kernel_rfl) (by kernel_rfl) (fun _ _ _ h => h) (Or.inl ⟨by rfl, ?_⟩) (by assumption) ?_
      rotate_left
      · (intro w hSw; (try dsimp only at hSw); go_simp; try with_reducible rfl)
      simp only [Act.put, List.setIfInBounds_toArray, List.set_cons_zero, List.set_cons_succ, List.getElem_toArray, List.getElem_cons_zero, List.getElem_cons_succ]
      refine wpAnyH_take (i := 8) (v := ?_) rfl (by kernel_rfl) (by kernel_rfl) (by kernel_rfl) (fun _ _ _ h => h) (Or.inl ⟨by rfl, ?_⟩) (by assumption) ?_
      rotate_left
      · (intro w hSw; (try dsimp only at hSw); go_simp; try with_reducible rfl)
      simp only [Act.put, List.setIfInBounds_toArray, List.set_cons_zero, List.set_cons_succ, List.getElem_toArray, List.getElem_cons_zero, List.getElem_cons_succ]
      refine wpAnyH_take (i := 9) (v := ?_) rfl (by kernel_rfl) (by kernel_rfl) (by kernel_rfl) (fun _ _ _ h => h) (Or.inl ⟨by rfl, ?_⟩) (by assumption) ?_
      rotate_left
      · (intro w hSw; (try dsimp only at hSw); go_simp; try with_reducible rfl)
      simp only [Act.put, List.setIfInBounds_toArray, List.set_cons_zero, List.set_cons_succ, List.getElem_toArray, List.getElem_cons_zero, List.getElem_cons_succ]
      refine wpAnyH_take (i := 10) (v := ?_) rfl (by kernel_rfl) (by kernel_rfl) (by kernel_rfl) (fun _ _ _ h => h) (Or.inl ⟨by rfl, ?_⟩) (by assumption) ?_
      rotate_left
      · (intro w hSw; (try dsimp only at hSw); go_simp; try with_reducible rfl)
      simp only [Act.put, List.setIfInBounds_toArray, List.set_cons_zero, List.set_cons_succ, List.getElem_toArray, List.getElem_cons_zero, List.getElem_cons_succ]
      refine wpAnyH_ready (rs := [11]) (by kernel_rfl) (by simp) ?_
      refine AllReadyH.cons rfl (fun K hK => ?_) AllReadyH.nil
      go_simp
      go_at_call 194
      refine hdm.mono ?_
      rintro e w1 ⟨rfl, w2, hb2, he⟩
      obtain ⟨hum2, ht2⟩ := doomedT (M := M) (w1 := w1) hlt2 HGA.out HUM.out ((Below.refl _ _).drew.trans (hb2.mono (by simp))) (by rw [hE']; exact he)
      clear he hb2
      go_wp2_with fail
      refine hK.out _ _ (HKEEP.out w1 ht2) (fun hHeld2 => ?_)
      clear hK K
      refine wpAnyH_done (by kernel_rfl) ?_ _
      go_wp2_with fail
      go_roundw
      case rel => exact ⟨k + 1, by omega, by go_num, hum2, HTW.out.trans ht2⟩
      case measure => simp [intOf]; omega
    · obtain rfl : k = M.tlb.length := by omega
      rw [mapTo_all] at hum
      obtain ⟨wA, rfl⟩ : ∃ wA : World, wA = wr := ⟨_, rfl⟩
      have HUA : Hid (UM wA gu b0 B true u ⟨M.mem, M.pend, M.tlb.map (doomT a b), mapTo (doomW a b) M.wc 0⟩) := by rw [mapTo_zero]; exact hum
      have HTA : Hid (Touch (fun q => u.o4 = some q ∨ u.o5 = some q) wb wA) := htw
      have q4 : wA.cell? ⟨gu, 4, none⟩ = some (.slice u.a5 M.wc.length u.c5) := hum.q4
      clear hum htw htw0
      go_wp2_with fail
      clear q4
      go_loopw [32] (fun i wr => ∃ k : Nat, k ≤ M.wc.length ∧ i = .int .i64 k ∧ UM wr gu b0 B true u ⟨M.mem, M.pend, M.tlb.map (doomT a b), mapTo (doomW a b) M.wc k⟩ ∧ Touch (fun q => u.o4 = some q ∨ u.o5 = some q) wb wr) (fun i _ => M.wc.length - (intOf i).toNat)
      case atStart => exact ⟨0, Nat.zero_le _, rfl, HUA.out, HTA.out⟩
      case round =>
        obtain ⟨k, hk, rfl, hum, htw⟩ := hrel
        by_cases hlt2 : k < M.wc.length
        · obtain ⟨E, hE'⟩ : ∃ E, eAt eWc M.wc k = E := ⟨_, rfl⟩
          have hEM : eAt eWc (mapTo (doomW a b) M.wc k) k = E := (mapTo_at eWE _ _ k).trans hE'
          have hml := mapTo_length (doomW a b) M.wc k
          have hrow : ERow eWE wr B (.slice u.a5 (mapTo (doomW a b) M.wc k).length u.c5) (mapTo (doomW a b) M.wc k) := hum.c
          obtain ⟨g, hg1, hg2⟩ := wc_cells hrow
          obtain ⟨hga, hgl⟩ := hg1 (by omega)
          have hfz : wr.frozen? ⟨g, k * 5 + 2, none⟩ = false := by rw [hga] at hrow; exact hrow.frz _
          have htv := valid_wc HV.out k hlt2
          rw [hE'] at htv
          obtain ⟨L, P, T, D⟩ := E
          have hg3 := hg2 k L P T D (by rw [hml]; exact hlt2) hEM wr.drew rfl
          have HKEEP : Hid (∀ wX, Touch (fun q => u.o5 = some q) wr wX → wX.cell? ⟨gu, 4, none⟩ = some (.slice (some ⟨g, 0, none⟩) M.wc.length u.c5) ∧ (wX.cell? ⟨w.heap.size, 0, none⟩ = some (.int .i64 K) ∧ wX.cell? ⟨w.heap.size, 1, none⟩ = some (.int .i64 a) ∧ wX.cell? ⟨w.heap.size, 2, none⟩ = some (.int .i64 b) ∧ wX.cell? ⟨w.heap.size, 3, none⟩ = some (.int .u64 W))) := fun wX hX => by
            have hk := hX.block gu hum.lt (fun e => hum.ap.g5 e)
            have q := (World.cell?_of_block (a := ⟨gu, 4, none⟩) hk).trans hum.q4
            have hbx := hX.block w.heap.size (by have := hSZ.out wr htw; omega) (fun e => by have := HLT.out.2 _ e; omega)
            obtain ⟨x0, x1, x2, x3⟩ := HBOX.out wr htw
            refine ⟨by rw [← hga, ← hml]; exact q, (World.cell?_of_block hbx).trans x0, (World.cell?_of_block hbx).trans x1, (World.cell?_of_block hbx).trans x2, (World.cell?_of_block hbx).trans x3⟩
          have hts : (0 ≤ P ∧ P < 100000) ∧ (0 ≤ (16 * cov L) ∧ (16 * cov L) < 100000) := by
            simp only [wcOkB, pageOk, Bool.and_eq_true, Bool.or_eq_true, decide_eq_true_eq] at htv
            refine ⟨by omega, ?_⟩; rcases htv.1.1.1.1 with e | e <;> (rw [e]; decide)
          have hdm := doom_any g (k * 5) P (16 * cov L) a b D hts.1 hts.2 (by omega) (by omega) wr.drew hgl hg3.1 hg3.2.1 hg3.2.2.1 hfz
          obtain ⟨qa, bx0, bx1, bx2, bx3⟩ := HKEEP.out wr (Touch.of_below (Below.refl _ _))
          have HUM : Hid (UM wr gu b0 B true u ⟨M.mem, M.pend, M.tlb.map (doomT a b), mapTo (doomW a b) M.wc k⟩) := hum
          have HTW : Hid _ := htw
          have L1 : (0 : Int) ≤ (k : Int) := by omega
          have L2 : (k : Int) < (M.wc.length : Int) := by omega
          have HGA : Hid (u.a5 = _) := hga
          clear hum htw hrow hg1 hg2 hg3 htv hts hfz hga
          go_wp2_with fail
          refine wp_region_held_drew (S := (fun wX => wX.cell? ⟨gu, 4, none⟩ = some (.slice (some ⟨g, 0, none⟩) M.wc.length u.c5) ∧ (wX.cell? ⟨w.heap.size, 0, none⟩ = some (.int .i64 K) ∧ wX.cell? ⟨w.heap.size, 1, none⟩ = some (.int .i64 a) ∧ wX.cell? ⟨w.heap.size, 2, none⟩ = some (.int .i64 b) ∧ wX.cell? ⟨w.heap.size, 3, none⟩ = some (.int .u64 W)))) (by kernel_rfl) (HKEEP.out _ (Touch.of_below ((Below.refl _ _).drew))) (fun hHeld => ?_)
          refine wpAnyH_take (i := 0) (v := ?_) rfl (by kernel_rfl) (by kernel_rfl) (by kernel_rfl) (fun _ _ _ h => h) (Or.inl ⟨by rfl, ?_⟩) (by assumption) ?_
          rotate_left
          · (intro w hSw; (try dsimp only at hSw); go_simp; try with_reducible rfl)
          simp only [Act.put, List.setIfInBounds_toArray, List.set_cons_zero, List.set_cons_succ, List.getElem_toArray, List.getElem_cons_zero]
          refine wpAnyH_take (i := 1) (v := ?_) rfl (by kernel_rfl) (by kernel_rfl) (by kernel_rfl) (fun _ _ _ h => h) (Or.inl ⟨by rfl, ?_⟩) (by assumption) ?_
          rotate_left
          · (intro w hSw; (try dsimp only at hSw); go_simp; try with_reducible rfl)
          simp only [Act.put, List.setIfInBounds_toArray, List.set_cons_zero, List.set_cons_succ, List.getElem_toArray, List.getElem_cons_zero, List.getElem_cons_succ]
          refine wpAnyH_take (i := 2) (v := ?_) rfl (by kernel_rfl) (by kernel_rfl) (by kernel_rfl) (fun _ _ _ h => h) (Or.inl ⟨by rfl, ?_⟩) (by assumption) ?_
          rotate_left
          · (intro w hSw; (try dsimp only at hSw); go_simp; try with_reducible rfl)
          simp only [Act.put, List.setIfInBounds_toArray, List.set_cons_zero, List.set_cons_succ, List.getElem_toArray, List.getElem_cons_zero, List.getElem_cons_succ]
          refine wpAnyH_take (i := 3) (v := ?_) rfl (by kernel_rfl) (by kernel_rfl) (by kernel_rfl) (fun _ _ _ h => h) (Or.inl ⟨by rfl, ?_⟩) (by assumption) ?_
          rotate_left
          · (intro w hSw; (try dsimp only at hSw); go_simp; try with_reducible rfl)
          simp only [Act.put, List.setIfInBounds_toArray, List.set_cons_zero, List.set_cons_succ, List.getElem_toArray, List.getElem_cons_zero, List.getElem_cons_succ]
          refine wpAnyH_take (i := 4) (v := ?_) rfl (by kernel_rfl) (by kernel_rfl) (by kernel_rfl) (fun _ _ _ h => h) (Or.inl ⟨by rfl, ?_⟩) (by assumption) ?_
          rotate_left
          · (intro w hSw; (try dsimp only at hSw); go_simp; try with_reducible rfl)
          simp only [Act.put, List.setIfInBounds_toArray, List.set_cons_zero, List.set_cons_succ, List.getElem_toArray, List.getElem_cons_zero, List.getElem_cons_succ]
          refine wpAnyH_take (i := 5) (v := ?_) rfl (by kernel_rfl) (by kernel_rfl) (by kernel_rfl) (fun _ _ _ h => h) (Or.inl ⟨by rfl, ?_⟩) (by assumption) ?_
          rotate_left
          · (intro w hSw; (try dsimp only at hSw); go_simp; try with_reducible rfl)
          simp only [Act.put, List.setIfInBounds_toArray, List.set_cons_zero, List.set_cons_succ, List.getElem_toArray, List.getElem_cons_zero, List.getElem_cons_succ]
          refine wpAnyH_take (i := 6) (v := ?_) rfl (by kernel_rfl) (by kernel_rfl) (by kernel_rfl) (fun _ _ _ h => h) (Or.inl ⟨by rfl, ?_⟩) (by assumption) ?_
          rotate_left
          · (intro w hSw; (try dsimp only at hSw); go_simp; try with_reducible rfl)
          simp only [Act.put, List.setIfInBounds_toArray, List.set_cons_zero, List.set_cons_succ, List.getElem_toArray, List.getElem_cons_zero, List.getElem_cons_succ]
          refine wpAnyH_take (i := 7) (v := ?_) rfl (by kernel_rfl) (by kernel_rfl) (by kernel_rfl) (fun _ _ _ h => h) (Or.inl ⟨by rfl, ?_⟩) (by assumption) ?_
          rotate_left
          · (intro w hSw; (try dsimp only at hSw); go_simp; try with_reducible rfl)
          simp only [Act.put, List.setIfInBounds_toArray, List.set_cons_zero, List.set_cons_succ, List.getElem_toArray, List.getElem_cons_zero, List.getElem_cons_succ]
          refine wpAnyH_take (i := 8) (v := ?_) rfl (by kernel_rfl) (by kernel_rfl) (by kernel_rfl) (fun _ _ _ h => h) (Or.inl ⟨by rfl, ?_⟩) (by assumption) ?_
          rotate_left
          · (intro w hSw; (try dsimp only at hSw); go_simp; try with_reducible rfl)
          simp only [Act.put, List.setIfInBounds_toArray, List.set_cons_zero, List.set_cons_succ, List.getElem_toArray, List.getElem_cons_zero, List.getElem_cons_succ]
          refine wpAnyH_take (i := 9) (v := ?_) rfl (by kernel_rfl) (by kernel_rfl) (by kernel_rfl) (fun _ _ _ h => h) (Or.inl ⟨by rfl, ?_⟩) (by assumption) ?_
          rotate_left
          · (intro w hSw; (try dsimp only at hSw); go_simp; try with_reducible rfl)
          simp only [Act.put, List.setIfInBounds_toArray, List.set_cons_zero, List.set_cons_succ, List.getElem_toArray, List.getElem_cons_zero, List.getElem_cons_succ]
          refine wpAnyH_take (i := 10) (v := ?_) rfl (by kernel_rfl) (by kernel_rfl) (by kernel_rfl) (fun _ _ _ h => h) (Or.inl ⟨by rfl, ?_⟩) (by assumption) ?_
          rotate_left
          · (intro w hSw; (try dsimp only at hSw); go_simp; try with_reducible rfl)
          simp only [Act.put, List.setIfInBounds_toArray, List.set_cons_zero, List.set_cons_succ, List.getElem_toArray, List.getElem_cons_zero, List.getElem_cons_succ]
          refine wpAnyH_ready (rs := [11]) (by kernel_rfl) (by simp) ?_
          refine AllReadyH.cons rfl (fun K hK => ?_) AllReadyH.nil
          go_simp
          go_at_call 194
          refine hdm.mono ?_
          rintro e w1 ⟨rfl, w2, hb2, he⟩
          obtain ⟨hum2, ht2⟩ := doomedW (M := ⟨M.mem, M.pend, M.tlb.map (doomT a b), M.wc⟩) (w1 := w1) hlt2 HGA.out HUM.out ((Below.refl _ _).drew.trans (hb2.mono (by simp))) (by rw [hE']; exact he)
          clear he hb2
          go_wp2_with fail
          refine hK.out _ _ (HKEEP.out w1 ht2) (fun hHeld2 => ?_)
          clear hK K
          refine wpAnyH_done (by kernel_rfl) ?_ _
          go_wp2_with fail
          go_roundw
          case rel => exact ⟨k + 1, by omega, by go_num, hum2, HTW.out.then ht2 (fun q hq e => .inr e)⟩
          case measure => simp [intOf]; omega
        · obtain rfl : k = M.wc.length := by omega
          rw [mapTo_all] at hum
          have HUM : Hid _ := hum
          have HTW : Hid _ := htw
          clear hum htw
          go_wp2_with fail
          exact bodyPost_end (v := .tuple #[]) (by simp [results, Tryz.results192, go_sem]) rfl ⟨rfl, HUM.out, (Touch.of_below HBB.out).trans HTW.out⟩

theorem freeApply_any (gu : Nat) (K A B W : Int) (w : World) :
    Calls Tryz.prog 195 #[.agg #[.int .i64 K, .int .i64 A, .int .i64 B, .int .u64 W], .pointer (some ⟨gu, 0, none⟩)] w fun e w' => e = .returned (.tuple #[]) ∧ Below w.heap.size w w' := by
  go_enter Tryz.func195, Tryz.ntmps195
  go_wp2_with fail
  exact bodyPost_end (v := .tuple #[]) (by simp [results, Tryz.results195, go_sem]) rfl ⟨rfl, (Below.refl _ _).alloc (Nat.le_refl _) _⟩
end Go.Proofs.YtiiejckfcnmhoabGreat
namespace Go.Proofs.YtiiejckfcnmhoabGreat
open Go.ChangeShapes Go.WideShapes Go.ChangeAt Go.RowKit
set_option linter.unusedVariables false
attribute [local go_sem ↓] Go.wp_at_zero Go.wp_at_succ

theorem lateL_nil (zs : List Int) (a : List TlbE) (b : List WcE) : lateL ⟨zs, [], a, b⟩ = zs := rfl
/-- Memory has become the latest memory, and nothing is pending. -/
theorem UM.barrier {W W' : World} {gu b0 B : Nat} {u : UV} {M : Mach} (h : UM W gu b0 B true u M) (th : UThree u) (hT : Touch (fun k => k = gu ∨ u.o1 = some k) W W')
    (c0 : W'.cell? ⟨gu, 0, none⟩ = W.cell? ⟨gu, 0, none⟩) (c1 : W'.cell? ⟨gu, 1, none⟩ = W.cell? ⟨gu, 1, none⟩) (c2 : W'.cell? ⟨gu, 2, none⟩ = some (.slice none 0 0)) (c3 : W'.cell? ⟨gu, 3, none⟩ = W.cell? ⟨gu, 3, none⟩) (c4 : W'.cell? ⟨gu, 4, none⟩ = W.cell? ⟨gu, 4, none⟩)
    (fz : ∀ i, W'.frozen? ⟨gu, i, none⟩ = W.frozen? ⟨gu, i, none⟩) (hw : ERow eWord W' b0 (.slice u.a1 M.mem.length u.c1) (lateL M)) :
    UWide W W' gu b0 B u ⟨u.a1, u.c1, u.a2, u.n2, u.c2, none, 0, u.a4, u.c4, u.a5, u.c5⟩ ⟨lateL M, [], M.tlb, M.wc⟩ := by
  have hll := lateL_length M
  have hl := h.l rfl
  refine ⟨⟨Nat.lt_of_lt_of_le h.lt hT.size, ?_, c1.trans h.q1, c2, c3.trans h.q3, c4.trans h.q4, (fz 2).trans h.f2, (fz 3).trans h.f3, (fz 4).trans h.f4, ?_, fun _ => ⟨hl.1.trans hll.symm, ?_⟩, ⟨by simp [ecells], .inl ⟨rfl, rfl⟩⟩, ?_, ?_, ?_, fun k hk => Nat.lt_of_lt_of_le (h.o2 k hk) hT.size⟩, ?_, fun k hk => ?_, ?_⟩
  · show W'.cell? ⟨gu, 0, none⟩ = some (.slice u.a1 (lateL M).length u.c1)
    rw [hll]
    exact c0.trans h.q0
  · show ERow eWord W' b0 (.slice u.a1 (lateL M).length u.c1) (lateL M)
    rw [hll]
    exact hw
  · rw [lateL_nil]
    exact hl.2.touchA hT (fun k hk hx => hx.elim (fun e => h.ap.g2 (e ▸ hk)) (fun e => th.a12 k e hk))
  · exact h.t.touchA hT (fun k hk hx => hx.elim (fun e => h.ap.g4 (e ▸ hk)) (fun e => h.ap.t1 k hk e))
  · exact h.c.touchA hT (fun k hk hx => hx.elim (fun e => h.ap.g5 (e ▸ hk)) (fun e => h.ap.w1 k hk e))
  · exact ⟨h.ap.g1, h.ap.g2, fun e => (by cases e), h.ap.g4, h.ap.g5, h.ap.t1, h.ap.t2, fun k _ e => (by cases e), h.ap.t5, h.ap.w1, h.ap.w2, fun k _ e => (by cases e)⟩
  · exact ⟨hT.os, hT.tape, hT.output, hT.size, fun k hk hn => hT.block k hk (fun hx => hn (hx.elim .inl (fun e => .inr (.inl e))))⟩
  · rcases hk with e | e | e | e | e | e
    · exact .inl (.inl e)
    · exact .inl (.inr (.inl e))
    · exact .inl (.inr (.inr (.inl e)))
    · cases e
    · exact .inl (.inr (.inr (.inr (.inr (.inl e)))))
    · exact .inl (.inr (.inr (.inr (.inr (.inr e)))))
  · exact ⟨fun k _ e => (by cases e), th.a12, fun k _ e => (by cases e)⟩
def cw (zs : List Int) : List Value := zs.map (fun x => .int .u64 x)
theorem cw_one (zs : List Int) : ∀ v ∈ cw zs, v.oneCell' = true := by
  intro v hv
  unfold cw at hv
  rw [List.mem_map] at hv
  obtain ⟨x, _, rfl⟩ := hv
  rfl
theorem cw_at (zs : List Int) (j : Nat) (hj : j < zs.length) : (cw zs)[j]? = some (.int .u64 (zs.getD j 0)) := by
  unfold cw
  rw [List.getElem?_map, List.getElem?_eq_getElem hj, List.getD_eq_getElem?_getD, List.getElem?_eq_getElem hj]
  rfl

set_option maxRecDepth 100000 in
set_option maxHeartbeats 4000000 in
theorem barApply_any (gu b0 B : Nat) (u : UV) (M : Mach) (K0 A0 B0 W0 : Int) (w : World) (hok : WOk M) (th : UThree u) (h : UM w gu b0 B true u M) :
    Calls Tryz.prog 184 #[.agg #[.int .i64 K0, .int .i64 A0, .int .i64 B0, .int .u64 W0], .pointer (some ⟨gu, 0, none⟩)] w fun e w' => e = .returned (.tuple #[]) ∧ ∃ u', UWide w w' gu b0 B u u' ⟨lateL M, [], M.tlb.filter (fun e => !e.doom), M.wc.filter (fun e => !e.doom)⟩ := by
  have hmm := nfr_mul M.mem.length hok.n0
  have hml := nfr_le M.mem.length
  have hm0 : 0 < M.mem.length := by omega
  have hll := lateL_length M
  obtain ⟨wb, hwb⟩ : ∃ wb, wb = w.alloc (.cells #[.int .i64 K0, .int .i64 A0, .int .i64 B0, .int .u64 W0] 201) := ⟨_, rfl⟩
  have hbb : Below w.heap.size w wb := by rw [hwb]; exact (Below.refl _ _).alloc (Nat.le_refl _) _
  have hub := h.below hbb
  obtain ⟨g1, ha1, hc1, hl1, hbg1⟩ := eWord_c hub.w hm0
  obtain ⟨g2, ha2, hn2, hc2, hl2, hbg2⟩ := hub.lat hm0
  have o1g : u.o1 = some g1 := by unfold UV.o1; rw [ha1]; rfl
  have o2g : u.o2 = some g2 := by unfold UV.o2; rw [ha2]; rfl
  have hg1u : ¬ gu = g1 := fun e => hub.ap.g1 (by rw [e]; exact o1g)
  have h12 : ¬ g1 = g2 := fun e => th.a12 g1 o1g (by rw [e]; exact o2g)
  have hrow1 : ERow eWord wb b0 (.slice (some ⟨g1, 0, none⟩) M.mem.length u.c1) M.mem := by rw [← ha1]; exact hub.w
  obtain ⟨hB1, hlc1, hmx1, f1, hr1, hf1⟩ := hrow1.full
  have hr1d : wb.drew.rowIs g1 eWord.T (u.c1 * 1) f1 := hr1.drew
  have hcw : (cw (lateL M)).length = M.mem.length := by unfold cw; rw [List.length_map, hll]
  obtain ⟨w1, hw1⟩ : ∃ w1, w1 = wb.drew.setCells g1 0 (cw (lateL M)) := ⟨_, rfl⟩
  have hcopy : ∀ ty, (Builtin.copy_ #[22, 22] ty #[.slice (some ⟨g1, 0, none⟩) M.mem.length u.c1, .slice (some ⟨g2, 0, none⟩) M.mem.length u.c2]).run Tryz.prog wb.drew = .ok (goInt M.mem.length) w1 := fun ty => by
    have hk := run_copy_cells (P := Tryz.prog) wb.drew 22 22 ty 46 g1 0 M.mem.length u.c1 ⟨g2, 0, none⟩ M.mem.length u.c2 (cw (lateL M)) Tryz.underlying22 (by kernel_rfl) (by rw [hcw]; simp)
      (fun j v hv => by
        have hj : j < (lateL M).length := by
          have := (List.getElem?_eq_some_iff.1 hv).1
          rw [hcw] at this; omega
        rw [cw_at _ j hj] at hv
        rw [addr_add]
        rw [← hv]
        exact hc2.cells j hj)
      (fun j hj => by
        rw [hcw] at hj
        rw [hr1d.cell (i := 0 + j) (by omega)]; rfl) (fun j hj => hr1d.frozen _) (cw_one _)
    rw [hcw] at hk
    rw [hw1]
    exact hk
  have hg1r : wb.grownBy w1 (some g1) := by
    rw [hw1]
    have h := grown_setCells g1 (cw (lateL M)) 0 wb.drew
    exact ⟨h.os, h.tape, h.output, h.size, h.block⟩
  have hrow2 : ERow eWord w1 b0 (.slice u.a1 M.mem.length u.c1) (lateL M) := by
    rw [ha1]
    have hrs := rowIs_setCells (cw (lateL M)) 0 wb.drew f1 hr1d
    rw [← hw1] at hrs
    refine ERow.of_row (N := u.c1 * 1) hll hB1 hrs rfl hlc1 hmx1 (fun i hi j hj => ?_)
    have hj0 : j = 0 := by have : j < 1 := hj; omega
    subst hj0
    have e1 : i * eWord.sz + 0 = i := by show i * 1 + 0 = i; omega
    rw [e1, if_pos (by rw [hcw]; omega), List.getD_eq_getElem?_getD, show i - 0 = i by omega, cw_at _ i (by omega)]
    rfl
  have hbk : w1.heap[gu]? = wb.heap[gu]? := hg1r.block gu hub.lt (fun e => hg1u (by simpa using e))
  obtain ⟨w2, hw2⟩ : ∃ w2, w2 = w1.setCell ⟨gu, 2, none⟩ (.slice none 0 0) := ⟨_, rfl⟩
  have cell1 : ∀ i, w1.cell? ⟨gu, i, none⟩ = wb.cell? ⟨gu, i, none⟩ := fun i => World.cell?_of_block hbk
  have cell2 : ∀ i, i ≠ 2 → w2.cell? ⟨gu, i, none⟩ = wb.cell? ⟨gu, i, none⟩ := fun i hi => by
    rw [hw2, World.cell?_setCell_other _ _ _ _ (by intro e; injection e with _ e; exact hi e.symm)]
    exact cell1 i
  have hWB : UWide wb w2 gu b0 B u ⟨u.a1, u.c1, u.a2, u.n2, u.c2, none, 0, u.a4, u.c4, u.a5, u.c5⟩ ⟨lateL M, [], M.tlb, M.wc⟩ := by
    refine hub.barrier th ?_ (cell2 0 (by omega)) (cell2 1 (by omega)) ?_ (cell2 3 (by omega)) (cell2 4 (by omega)) ?_ ?_
    · rw [hw2]
      exact ⟨hg1r.os, hg1r.tape, hg1r.output, by simpa using hg1r.size, fun k hk hn => (Below.heap_setCell _ _ _ _ (fun e => hn (.inl e))).trans (hg1r.block k hk (fun e => hn (.inr (by rw [o1g]; exact e.symm))))⟩
    · rw [hw2]
      exact World.cell?_setCell_same _ _ _ ((cell1 2).trans hub.q2)
    · intro i
      rw [hw2, World.frozen?_setCell]
      exact World.frozen?_of_block (a := ⟨gu, i, none⟩) hbk
    · rw [hw2]
      exact hrow2.touchA (S := fun k => k = gu) ⟨rfl, rfl, rfl, by simp, fun k hk hn => Below.heap_setCell _ _ _ _ hn⟩ (fun k hk e => hub.ap.g1 (by rw [← e]; exact hk))
  have hdT := delFT_any u.a4 u.c4 B M.tlb w2 hok.t hWB.um.t
  have q3 : w1.cell? ⟨gu, 3, none⟩ = some (.slice u.a4 M.tlb.length u.c4) := (cell1 3).trans hub.q3
  have q2 : w1.cell? ⟨gu, 2, none⟩ = some (.slice u.a3 M.pend.length u.c3) := (cell1 2).trans hub.q2
  have f2 : w1.frozen? ⟨gu, 2, none⟩ = false := (World.frozen?_of_block (a := ⟨gu, 2, none⟩) hbk).trans hub.f2
  have HSB : Hid (wb.drew.cell? ⟨gu, 0, none⟩ = some (.slice (some ⟨g1, 0, none⟩) M.mem.length u.c1) ∧ wb.drew.cell? ⟨gu, 1, none⟩ = some (.slice (some ⟨g2, 0, none⟩) M.mem.length u.c2)) := ⟨by rw [← ha1]; exact hub.q0, by rw [← ha2, ← show u.n2 = M.mem.length from (hub.l rfl).1]; exact hub.q1⟩
  have HS1 : Hid (w1.cell? ⟨gu, 0, none⟩ = some (.slice (some ⟨g1, 0, none⟩) M.mem.length u.c1) ∧ w1.cell? ⟨gu, 1, none⟩ = some (.slice (some ⟨g2, 0, none⟩) M.mem.length u.c2)) := ⟨(cell1 0).trans HSB.out.1, (cell1 1).trans HSB.out.2⟩
  have HWB : Hid (wb = _) := hwb
  have HW1 : Hid (w1 = _) := hw1
  have HW2 : Hid (w2 = _) := hw2
  have HUW : Hid _ := hWB
  have HW0 : Hid (UWide w wb gu b0 B u u M) := UWide.refl h th hbb
  have hwcl := hok.c
  rw [hw2] at hdT
  have hgul : gu < w1.heap.size := Nat.lt_of_lt_of_le hub.lt hg1r.size
  clear h hub hbb hwb hw1 hw2 hc1 hc2 hr1 hf1 hr1d hrow1 hrow2 hg1r hbk cell1 cell2 hWB ha1 ha2 hn2 th o1g o2g hcw hll
  go_enter Tryz.func184, Tryz.ntmps184
  go_wp2_with fail
  rw [← HWB.out]
  refine wp_region_held_drew (S := (fun wX => wX.cell? ⟨gu, 0, none⟩ = some (.slice (some ⟨g1, 0, none⟩) M.mem.length u.c1) ∧ wX.cell? ⟨gu, 1, none⟩ = some (.slice (some ⟨g2, 0, none⟩) M.mem.length u.c2))) (by kernel_rfl) HSB.out (fun hHeld => ?_)
  refine wpAnyH_take (i := 0) (v := ?_) rfl (by kernel_rfl) (by kernel_rfl) (by kernel_rfl) (fun _ _ _ h => h) (Or.inl ⟨by rfl, ?_⟩) (by assumption) ?_
  rotate_left
  · (intro w hSw; (try dsimp only at hSw); go_simp; try with_reducible rfl)
  simp only [Act.put, List.setIfInBounds_toArray, List.set_cons_zero, List.set_cons_succ, List.getElem_toArray, List.getElem_cons_zero]
  refine wpAnyH_take (i := 1) (v := ?_) rfl (by kernel_rfl) (by kernel_rfl) (by kernel_rfl) (fun _ _ _ h => h) (Or.inl ⟨by rfl, ?_⟩) (by assumption) ?_
  rotate_left
  · (intro w hSw; (try dsimp only at hSw); go_simp; try with_reducible rfl)
  simp only [Act.put, List.setIfInBounds_toArray, List.set_cons_zero, List.set_cons_succ, List.getElem_toArray, List.getElem_cons_zero, List.getElem_cons_succ]
  refine wpAnyH_take (i := 2) (v := ?_) rfl (by kernel_rfl) (by kernel_rfl) (by kernel_rfl) (fun _ _ _ h => h) (Or.inl ⟨by rfl, ?_⟩) (by assumption) ?_
  rotate_left
  · (intro w hSw; (try dsimp only at hSw); go_simp; try with_reducible rfl)
  simp only [Act.put, List.setIfInBounds_toArray, List.set_cons_zero, List.set_cons_succ, List.getElem_toArray, List.getElem_cons_zero, List.getElem_cons_succ]
  refine wpAnyH_take (i := 3) (v := ?_) rfl (by kernel_rfl) (by kernel_rfl) (by kernel_rfl) (fun _ _ _ h => h) (Or.inl ⟨by rfl, ?_⟩) (by assumption) ?_
  rotate_left
  · (intro w hSw; (try dsimp only at hSw); go_simp; try with_reducible rfl)
  simp only [Act.put, List.setIfInBounds_toArray, List.set_cons_zero, List.set_cons_succ, List.getElem_toArray, List.getElem_cons_zero, List.getElem_cons_succ]
  refine wpAnyH_take (i := 4) (v := ?_) rfl (by kernel_rfl) (by kernel_rfl) (by kernel_rfl) (fun _ _ _ h => h) (Or.inl ⟨by rfl, ?_⟩) (by assumption) ?_
  rotate_left
  · (intro w hSw; (try dsimp only at hSw); go_simp; try with_reducible rfl)
  simp only [Act.put, List.setIfInBounds_toArray, List.set_cons_zero, List.set_cons_succ, List.getElem_toArray, List.getElem_cons_zero, List.getElem_cons_succ]
  refine wpAnyH_take (i := 5) (v := ?_) rfl (by kernel_rfl) (by kernel_rfl) (by kernel_rfl) (fun _ _ _ h => h) (Or.inl ⟨by rfl, ?_⟩) (by assumption) ?_
  rotate_left
  · (intro w hSw; (try dsimp only at hSw); go_simp; try with_reducible rfl)
  simp only [Act.put, List.setIfInBounds_toArray, List.set_cons_zero, List.set_cons_succ, List.getElem_toArray, List.getElem_cons_zero, List.getElem_cons_succ]
  refine wpAnyH_take (i := 6) (v := ?_) rfl (by kernel_rfl) (by kernel_rfl) (by kernel_rfl) (fun _ _ _ h => h) (Or.inl ⟨by rfl, ?_⟩) (by assumption) ?_
  rotate_left
  · (intro w hSw; (try dsimp only at hSw); go_simp; try with_reducible rfl)
  simp only [Act.put, List.setIfInBounds_toArray, List.set_cons_zero, List.set_cons_succ, List.getElem_toArray, List.getElem_cons_zero, List.getElem_cons_succ]
  refine wpAnyH_take (i := 7) (v := ?_) rfl (by kernel_rfl) (by kernel_rfl) (by kernel_rfl) (fun _ _ _ h => h) (Or.inl ⟨by rfl, ?_⟩) (by assumption) ?_
  rotate_left
  · (intro w hSw; (try dsimp only at hSw); go_simp; try with_reducible rfl)
  simp only [Act.put, List.setIfInBounds_toArray, List.set_cons_zero, List.set_cons_succ, List.getElem_toArray, List.getElem_cons_zero, List.getElem_cons_succ]
  refine wpAnyH_take (i := 8) (v := ?_) rfl (by kernel_rfl) (by kernel_rfl) (by kernel_rfl) (fun _ _ _ h => h) (Or.inl ⟨by rfl, ?_⟩) (by assumption) ?_
  rotate_left
  · (intro w hSw; (try dsimp only at hSw); go_simp; try with_reducible rfl)
  simp only [Act.put, List.setIfInBounds_toArray, List.set_cons_zero, List.set_cons_succ, List.getElem_toArray, List.getElem_cons_zero, List.getElem_cons_succ]
  refine wpAnyH_take (i := 9) (v := ?_) rfl (by kernel_rfl) (by kernel_rfl) (by kernel_rfl) (fun _ _ _ h => h) (Or.inl ⟨by rfl, ?_⟩) (by assumption) ?_
  rotate_left
  · (intro w hSw; (try dsimp only at hSw); go_simp; try with_reducible rfl)
  simp only [Act.put, List.setIfInBounds_toArray, List.set_cons_zero, List.set_cons_succ, List.getElem_toArray, List.getElem_cons_zero, List.getElem_cons_succ]
  refine wpAnyH_ready (rs := [10]) (by kernel_rfl) (by simp) ?_
  refine AllReadyH.cons rfl (fun K hK => ?_) AllReadyH.nil
  go_simp
  refine hK.out _ _ HS1.out (fun hHeld5 => ?_)
  clear hK K
  refine wpAnyH_done (by kernel_rfl) ?_ _
  clear hHeld hHeld5 hcopy
  go_wp2_with fail
  refine hdT.mono ?_
  rintro e w3 ⟨rfl, hr3, hg3⟩
  rw [← HW2.out] at hg3
  have hu2 := HUW.out.um
  have hk3 := hg3.block gu hu2.lt (fun e => hu2.ap.g4 e.symm)
  have s3 : w3.cell? ⟨gu, 3, none⟩ = some (.slice u.a4 M.tlb.length u.c4) := (World.cell?_of_block (a := ⟨gu, 3, none⟩) hk3).trans hu2.q3
  have z3 : w3.frozen? ⟨gu, 3, none⟩ = false := (World.frozen?_of_block (a := ⟨gu, 3, none⟩) hk3).trans hu2.f3
  have s4 : w3.cell? ⟨gu, 4, none⟩ = some (.slice u.a5 M.wc.length u.c5) := (World.cell?_of_block (a := ⟨gu, 4, none⟩) hk3).trans hu2.q4
  have st3 := hu2.newTlb hg3 u.a4 u.c4 _ hr3 (fun k hk => .inl hk)
  obtain ⟨w4, hw4⟩ : ∃ w4, w4 = w3.setCell ⟨gu, 3, none⟩ (.slice u.a4 (M.tlb.filter (fun e => !e.doom)).length u.c4) := ⟨_, rfl⟩
  rw [← hw4] at st3
  have hdW := delFW_any u.a5 u.c5 B M.wc w4 hwcl st3.um.c
  rw [hw4] at hdW
  have HST3 : Hid _ := st3
  have HW4 : Hid (w4 = _) := hw4
  clear hdT hr3 hg3 hu2 hk3 st3 hw4
  go_wp2_with fail
  refine hdW.mono ?_
  rintro e w5 ⟨rfl, hr5, hg5⟩
  rw [← HW4.out] at hg5
  have hu4 := HST3.out.um
  have hk5 := hg5.block gu hu4.lt (fun e => hu4.ap.g5 e.symm)
  have s5 : w5.cell? ⟨gu, 4, none⟩ = some (.slice u.a5 M.wc.length u.c5) := (World.cell?_of_block (a := ⟨gu, 4, none⟩) hk5).trans hu4.q4
  have z5 : w5.frozen? ⟨gu, 4, none⟩ = false := (World.frozen?_of_block (a := ⟨gu, 4, none⟩) hk5).trans hu4.f4
  have st5 := hu4.newWc hg5 u.a5 u.c5 _ hr5 (fun k hk => .inl hk)
  have HALL : Hid _ := ((HW0.out.trans HUW.out).trans (HST3.out.wide HUW.out.th))
  have hfin := HALL.out.trans (st5.wide HALL.out.th)
  have HFIN : Hid _ := hfin
  clear hdW hr5 hg5 hu4 hk5 st5 hfin
  go_wp2_with fail
  exact bodyPost_end (v := .tuple #[]) (by simp [results, Tryz.results184, go_sem]) rfl ⟨rfl, _, HFIN.out⟩
end Go.Proofs.YtiiejckfcnmhoabGreat
namespace Go.Proofs.YtiiejckfcnmhoabGreat
open Go.ChangeShapes Go.WideShapes Go.ChangeAt Go.RowKit
set_option linter.unusedVariables false
attribute [local go_sem ↓] Go.wp_at_zero Go.wp_at_succ

theorem lateL_snoc (M : Mach) (e : WriteE) : lateL ⟨M.mem, M.pend ++ [e], M.tlb, M.wc⟩ = (lateL M).set e.addr.toNat e.word := by
  unfold lateL
  rw [List.foldl_append]
  rfl
set_option maxHeartbeats 1000000 in
/-- A write has been made: what the machine is then. -/
theorem UM.wrote {W W' : World} {gu b0 B : Nat} {u : UV} {M : Mach} {A g2 : Nat} {wd : Int} (h : UM W gu b0 B true u M) (th : UThree u) (hA : A < M.mem.length) (hg2 : u.a2 = some ⟨g2, 0, none⟩) (hg : W.grownBy W' u.o3) (a' : Option Addr) (c' : Nat)
    (hc : ERow eWrite W' b0 (.slice a' (M.pend ++ [(⟨A, wd⟩ : WriteE)]).length c') (M.pend ++ [(⟨A, wd⟩ : WriteE)])) (ho : ∀ k, oOf a' = some k → u.o3 = some k ∨ W.heap.size ≤ k) :
    UWide W ((W'.setCell ⟨gu, 2, none⟩ (.slice a' (M.pend ++ [(⟨A, wd⟩ : WriteE)]).length c')).setCell ⟨g2, A, none⟩ (.int .u64 wd)) gu b0 B u ⟨u.a1, u.c1, u.a2, u.n2, u.c2, a', c', u.a4, u.c4, u.a5, u.c5⟩ ⟨M.mem, M.pend ++ [(⟨A, wd⟩ : WriteE)], M.tlb, M.wc⟩ := by
  have l1 : ∀ k, u.o1 = some k → k < W.heap.size := fun k hk => (h.w.ownA k hk).2
  have l2 := h.o2
  have l4 : ∀ k, u.o4 = some k → k < W.heap.size := fun k hk => (h.t.ownA k hk).2
  have l5 : ∀ k, u.o5 = some k → k < W.heap.size := fun k hk => (h.c.ownA k hk).2
  have hlt := h.lt
  have o2g : u.o2 = some g2 := by unfold UV.o2; rw [hg2]; rfl
  have g2l := l2 g2 o2g
  have hsz := hg.size
  obtain ⟨W1, hW1⟩ : ∃ W1, W1 = W'.setCell ⟨gu, 2, none⟩ (.slice a' (M.pend ++ [(⟨A, wd⟩ : WriteE)]).length c') := ⟨_, rfl⟩
  obtain ⟨W2, hW2⟩ : ∃ W2, W2 = W1.setCell ⟨g2, A, none⟩ (.int .u64 wd) := ⟨_, rfl⟩
  rw [← hW1, ← hW2]
  have hne : ¬ gu = g2 := fun e => h.ap.g2 (by rw [e]; exact o2g)
  have t1 : Touch (fun k => k = gu ∨ u.o3 = some k) W W1 := by
    rw [hW1]
    exact ⟨hg.os, hg.tape, hg.output, by simpa using hg.size, fun k hk hn => (Below.heap_setCell _ _ _ _ (fun e => hn (.inl e))).trans (hg.block k hk (fun e => hn (.inr e.symm)))⟩
  have t2 : Touch (fun k => k = g2) W1 W2 := by
    rw [hW2]
    exact ⟨rfl, rfl, rfl, by simp, fun k hk hn => Below.heap_setCell _ _ _ _ hn⟩
  have hb2 : W2.heap[gu]? = W1.heap[gu]? := t2.block gu (Nat.lt_of_lt_of_le hlt t1.size) hne
  have hblk : W'.heap[gu]? = W.heap[gu]? := hg.block gu hlt (fun e => h.ap.g3 e.symm)
  have cells : ∀ i, i ≠ 2 → W2.cell? ⟨gu, i, none⟩ = W.cell? ⟨gu, i, none⟩ := fun i hi => by
    rw [World.cell?_of_block (a := ⟨gu, i, none⟩) hb2, hW1, World.cell?_setCell_other _ _ _ _ (by intro e; injection e with _ e; exact hi e.symm)]
    exact World.cell?_of_block hblk
  have cnew : W2.cell? ⟨gu, 2, none⟩ = some (.slice a' (M.pend ++ [(⟨A, wd⟩ : WriteE)]).length c') := by
    rw [World.cell?_of_block (a := ⟨gu, 2, none⟩) hb2, hW1]
    exact World.cell?_setCell_same _ _ _ ((World.cell?_of_block (a := ⟨gu, 2, none⟩) hblk).trans h.q2)
  have frz : ∀ i, W2.frozen? ⟨gu, i, none⟩ = W.frozen? ⟨gu, i, none⟩ := fun i => by
    rw [World.frozen?_of_block (a := ⟨gu, i, none⟩) hb2, hW1, World.frozen?_setCell]
    exact World.frozen?_of_block (a := ⟨gu, i, none⟩) hblk
  have hTT : Touch (fun k => k = gu ∨ u.o3 = some k ∨ k = g2) W W2 :=
    ⟨t2.os.trans t1.os, t2.tape.trans t1.tape, t2.output.trans t1.output, Nat.le_trans t1.size t2.size, fun k hk hn => (t2.block k (Nat.lt_of_lt_of_le hk t1.size) (fun e => hn (.inr (.inr e)))).trans (t1.block k hk (fun e => hn (e.elim .inl (fun e => .inr (.inl e)))))⟩
  have hng : oOf a' ≠ some gu := fun e => by
    rcases ho gu e with h' | h'
    · exact h.ap.g3 h'
    · omega
  have hn2 : oOf a' ≠ some g2 := fun e => by
    rcases ho g2 e with h' | h'
    · exact th.a23 g2 o2g h'
    · omega
  have nb : ∀ (o : Option Nat), (∀ k, o = some k → k < W.heap.size) → (∀ k, u.o3 = some k → o ≠ some k) → ∀ k, oOf a' = some k → o ≠ some k := fun o h1 h2 k hk e => by
    rcases ho k hk with h' | h'
    · exact h2 k h' e
    · have := h1 k e; omega
  have hlate : lateL ⟨M.mem, M.pend ++ [(⟨A, wd⟩ : WriteE)], M.tlb, M.wc⟩ = (lateL M).set A wd := lateL_snoc M ⟨A, wd⟩
  have hlrow : ERow eWord W2 b0 (.slice u.a2 u.n2 u.c2) ((lateL M).set A wd) := by
    have r1 := (h.l rfl).2.touchA t1 (fun k hk hx => hx.elim (fun e => h.ap.g2 (e ▸ hk)) (fun e => th.a23 k hk e))
    rw [hg2] at r1 ⊢
    rw [hW2]
    exact r1.setWord A (by rw [lateL_length]; exact hA) wd
  refine ⟨⟨Nat.lt_of_lt_of_le hlt hTT.size, (cells 0 (by omega)).trans h.q0, (cells 1 (by omega)).trans h.q1, cnew, (cells 3 (by omega)).trans h.q3, (cells 4 (by omega)).trans h.q4, (frz 2).trans h.f2, (frz 3).trans h.f3, (frz 4).trans h.f4, ?_, fun _ => ⟨(h.l rfl).1, ?_⟩, ?_, ?_, ?_, ?_, fun k hk => Nat.lt_of_lt_of_le (l2 k hk) hTT.size⟩, ?_, fun k hk => ?_, ?_⟩
  · exact h.w.touchA hTT (fun k hk hx => hx.elim (fun e => h.ap.g1 (e ▸ hk)) (fun hx => hx.elim (fun e => th.a13 k hk e) (fun e => th.a12 k hk (by rw [e]; exact o2g))))
  · rw [hlate]; exact hlrow
  · have r1 : ERow eWrite W1 b0 (.slice a' (M.pend ++ [(⟨A, wd⟩ : WriteE)]).length c') (M.pend ++ [(⟨A, wd⟩ : WriteE)]) := by
      rw [hW1]
      exact hc.touchA (S := fun k => k = gu) ⟨rfl, rfl, rfl, by simp, fun k hk hn => Below.heap_setCell _ _ _ _ hn⟩ (fun k hk e => hng (by rw [← e]; exact hk))
    exact r1.touchA t2 (fun k hk e => hn2 (by rw [← e]; exact hk))
  · exact h.t.touchA hTT (fun k hk hx => hx.elim (fun e => h.ap.g4 (e ▸ hk)) (fun hx => hx.elim (fun e => h.ap.t3 k hk e) (fun e => h.ap.t2 k hk (by rw [e]; exact o2g))))
  · exact h.c.touchA hTT (fun k hk hx => hx.elim (fun e => h.ap.g5 (e ▸ hk)) (fun hx => hx.elim (fun e => h.ap.w3 k hk e) (fun e => h.ap.w2 k hk (by rw [e]; exact o2g))))
  · exact ⟨h.ap.g1, h.ap.g2, hng, h.ap.g4, h.ap.g5, h.ap.t1, h.ap.t2, fun k hk e => nb u.o4 l4 (fun j hj e' => h.ap.t3 j e' hj) k e hk, h.ap.t5, h.ap.w1, h.ap.w2, fun k hk e => nb u.o5 l5 (fun j hj e' => h.ap.w3 j e' hj) k e hk⟩
  · exact ⟨hTT.os, hTT.tape, hTT.output, hTT.size, fun k hk hn => hTT.block k hk (fun hx => hn (hx.elim .inl (fun hx => hx.elim (fun e => .inr (.inr (.inr (.inl e)))) (fun e => .inr (.inr (.inl (by rw [e]; exact o2g)))))))⟩
  · rcases hk with e | e | e | e | e | e
    · exact .inl (.inl e)
    · exact .inl (.inr (.inl e))
    · exact .inl (.inr (.inr (.inl e)))
    · rcases ho k e with h' | h'
      · exact .inl (.inr (.inr (.inr (.inl h'))))
      · exact .inr h'
    · exact .inl (.inr (.inr (.inr (.inr (.inl e)))))
    · exact .inl (.inr (.inr (.inr (.inr (.inr e)))))
  · exact ⟨fun k h1 h3 => nb u.o1 l1 (fun j hj e' => th.a13 j e' hj) k h3 h1, th.a12, fun k h2' h3 => nb u.o2 l2 (fun j hj e' => th.a23 j e' hj) k h3 h2'⟩

set_option maxRecDepth 100000 in
set_option maxHeartbeats 4000000 in
theorem wrApply_any (gu b0 B : Nat) (u : UV) (M : Mach) (K0 B0 wd : Int) (A : Nat) (w : World) (hA : A < M.mem.length) (hml : M.mem.length ≤ 8192) (hp : M.pend.length < 10000) (th : UThree u) (h : UM w gu b0 B true u M) :
    Calls Tryz.prog 182 #[.agg #[.int .i64 K0, .int .i64 A, .int .i64 B0, .int .u64 wd], .pointer (some ⟨gu, 0, none⟩)] w fun e w' => e = .returned (.tuple #[]) ∧ ∃ u', UWide w w' gu b0 B u u' ⟨M.mem, M.pend ++ [(⟨A, wd⟩ : WriteE)], M.tlb, M.wc⟩ := by
  obtain ⟨iE, hiE, hz0, hz1, hz2⟩ := info_parts infoWrite
  obtain ⟨wb, hwb⟩ : ∃ wb, wb = w.alloc (.cells #[.int .i64 K0, .int .i64 A, .int .i64 B0, .int .u64 wd] 200) := ⟨_, rfl⟩
  have hbb : Below w.heap.size w wb := by rw [hwb]; exact (Below.refl _ _).alloc (Nat.le_refl _) _
  have hzb : wb.heap.size = w.heap.size + 1 := by rw [hwb]; simp
  have hub := h.below hbb
  have hm0 : 0 < M.mem.length := by omega
  obtain ⟨g2, ha2, hn2, hc2, hl2, hbg2⟩ := h.lat hm0
  have g2l := hc2.lt
  have b0l : b0 ≤ w.heap.size := by omega
  have bx0 : wb.cell? ⟨w.heap.size, 1, none⟩ = some (.int .i64 A) ∧ wb.cell? ⟨w.heap.size, 3, none⟩ = some (.int .u64 wd) := by rw [hwb]; constructor <;> simp [go_sem]
  obtain ⟨wx, hwx⟩ : ∃ wx, wx = wb.drew.alloc (.cells #[.int .i64 A, .int .u64 wd] 110) := ⟨_, rfl⟩
  have bxx : Below wb.heap.size wb wx := by rw [hwx]; exact (Below.refl _ _).drew.alloc (by simp) _
  have hux := hub.below bxx
  have hzx : wx.heap.size = wb.heap.size + 1 := by rw [hwx]; simp
  have hl3 : ∀ k, u.o3 = some k → k < w.heap.size := fun k hk => (h.p.ownA k hk).2
  have HKB : Hid (∀ wX, Below wb.heap.size wb wX → wX.cell? ⟨w.heap.size, 1, none⟩ = some (.int .i64 A) ∧ wX.cell? ⟨w.heap.size, 3, none⟩ = some (.int .u64 wd)) := fun wX hX => ⟨(hX.cell (by simp; omega)).trans bx0.1, (hX.cell (by simp; omega)).trans bx0.2⟩
  have HKG : Hid (∀ wX, wx.grownBy wX u.o3 → wX.cell? ⟨w.heap.size, 1, none⟩ = some (.int .i64 A) ∧ wX.cell? ⟨w.heap.size, 3, none⟩ = some (.int .u64 wd)) := fun wX hX => by
    have hk := hX.block w.heap.size (by omega) (fun e => by have := hl3 w.heap.size e.symm; omega)
    exact ⟨(World.cell?_of_block hk).trans (HKB.out wx bxx).1, (World.cell?_of_block hk).trans (HKB.out wx bxx).2⟩
  have HKS : Hid (∀ wX, wx.grownBy wX u.o3 → ∀ v, (wX.setCell ⟨gu, 2, none⟩ v).cell? ⟨w.heap.size, 1, none⟩ = some (.int .i64 A) ∧ (wX.setCell ⟨gu, 2, none⟩ v).cell? ⟨w.heap.size, 3, none⟩ = some (.int .u64 wd)) := fun wX hX v => by
    have hk : (wX.setCell ⟨gu, 2, none⟩ v).heap[w.heap.size]? = wX.heap[w.heap.size]? := Below.heap_setCell _ _ _ _ (by have := h.lt; show ¬ w.heap.size = gu; omega)
    exact ⟨(World.cell?_of_block hk).trans (HKG.out wX hX).1, (World.cell?_of_block hk).trans (HKG.out wX hX).2⟩
  have HOWN : Hid (wx.ownsRow b0 110 2 (.slice u.a3 M.pend.length u.c3) M.pend.length (ecells eWrite M.pend)) := hux.p
  have HNEWS : Hid (∀ j v, ([.int .i64 A, .int .u64 wd] : List Value)[j]? = some v → wx.cell? ((⟨wb.heap.size, 0, none⟩ : Addr).add j) = some v) := by
    rw [hwx]
    exact World.news_of_block (heap_alloc_new wb.drew (.cells #[.int .i64 A, .int .u64 wd] 110))
  have HQ2 : Hid (wx.cell? ⟨gu, 2, none⟩ = some (.slice u.a3 M.pend.length u.c3)) := hux.q2
  have HF2 : Hid (wx.frozen? ⟨gu, 2, none⟩ = false) := hux.f2
  have HG3 : Hid (u.o3 ≠ some gu) := h.ap.g3
  have q2b := hub.q2
  have hlt := h.lt
  have HFIN : Hid (∀ g1 cap1 (wn : World), wn.ownsRow b0 110 2 (.slice (some ⟨g1, 0, none⟩) (M.pend.length + 1) cap1) (M.pend.length + 1) (ecells eWrite M.pend ++ [.int .i64 A, .int .u64 wd]) → wx.grownBy wn u.o3 → (u.o3 = some g1 ∨ g1 = wb.heap.size + 1) → UWide w ((wn.setCell ⟨gu, 2, none⟩ (.slice (some ⟨g1, 0, none⟩) (M.pend.length + 1) cap1)).setCell ⟨g2, A, none⟩ (.int .u64 wd)) gu b0 B u ⟨u.a1, u.c1, u.a2, u.n2, u.c2, some ⟨g1, 0, none⟩, cap1, u.a4, u.c4, u.a5, u.c5⟩ ⟨M.mem, M.pend ++ [(⟨A, wd⟩ : WriteE)], M.tlb, M.wc⟩) := fun g1 cap1 wn hown hgrow hat => by
    have hl : (M.pend ++ [(⟨A, wd⟩ : WriteE)]).length = M.pend.length + 1 := by simp
    have hnew : ERow eWrite wn b0 (.slice (some ⟨g1, 0, none⟩) (M.pend ++ [(⟨A, wd⟩ : WriteE)]).length cap1) (M.pend ++ [(⟨A, wd⟩ : WriteE)]) := by
      rw [hl]
      exact ERow.snocL (m := M.pend.length + 1) rfl hown
    have hW := UM.wrote hux th hA ha2 hgrow (some ⟨g1, 0, none⟩) cap1 hnew (fun k hk => by
      have : g1 = k := by simpa [oOf, Value.ownBlock] using hk
      subst this
      rcases hat with h' | h'
      · exact .inl h'
      · exact .inr (by omega))
    rw [hl] at hW
    exact (UWide.refl h th (hbb.trans (bxx.mono (by omega)))).trans hW
  have n2e : u.n2 = M.mem.length := (h.l rfl).1
  have HQ1 : Hid (∀ wn : World, wx.grownBy wn u.o3 → wn.cell? ⟨gu, 1, none⟩ = some (.slice (some ⟨g2, 0, none⟩) M.mem.length u.c2)) := fun wn hg => by
    rw [World.cell?_of_block (a := ⟨gu, 1, none⟩) (hg.block gu (by omega) (fun e => h.ap.g3 e.symm)), hux.q1, ha2, n2e]
  have HC2 : Hid (∀ wn : World, wx.grownBy wn u.o3 → wn.cell? ⟨g2, A, none⟩ = some (.int .u64 ((lateL M).getD A 0)) ∧ wn.frozen? ⟨g2, A, none⟩ = false) := fun wn hg => by
    have o2g : u.o2 = some g2 := by unfold UV.o2; rw [ha2]; rfl
    have hk := hg.block g2 (by omega) (fun e => th.a23 g2 o2g e.symm)
    have hcx := hc2.below (hbb.trans (bxx.mono (by omega))) g2l
    have hfz : wx.frozen? ⟨g2, A, none⟩ = false := by
      have hr := (hux.l rfl).2
      rw [ha2] at hr
      rcases hr.2 with ⟨e, _⟩ | ⟨g', cap, cur, e, hb, hg', hn, hm, hs, ht⟩
      · cases e
      · simp only [Value.slice.injEq, Option.some.injEq, Addr.mk.injEq] at e
        obtain ⟨⟨rfl, _⟩, _, rfl⟩ := e
        have hr' : wx.rowIs g2 eWord.T cur.size (fun i => cur.getD i (.bool false)) := ⟨cur, hg', rfl, fun i hi => by simp [hi]⟩
        exact hr'.frozen A
    exact ⟨(World.cell?_of_block hk).trans (hcx.cell (by rw [lateL_length]; exact hA)), (World.frozen?_of_block hk).trans hfz⟩
  have hg2ne : ¬ g2 = gu := fun e => h.ap.g2 (by rw [← e]; unfold UV.o2; rw [ha2]; rfl)
  have HWB : Hid (wb = _) := hwb
  have HWX : Hid (wx = _) := hwx
  have HZX : Hid (wx.heap.size = _) := hzx
  have HZB : Hid (wb.heap.size = _) := hzb
  have hgub : gu < wb.heap.size := by omega
  have hb0b : b0 ≤ wb.heap.size := by omega
  have L1 : (0 : Int) ≤ (A : Int) := by omega
  have L2 : (A : Int) < (M.mem.length : Int) := by omega
  rw [hwx] at HKG HKS HOWN HNEWS HQ2 HF2 HFIN HQ1 HC2
  clear h hub hux hbb bxx hwb hwx hzb hzx hc2 hl2 hn2 ha2 n2e th hl3 bx0
  go_enter Tryz.func182, Tryz.ntmps182
  go_wp2_with fail
  rw [← HWB.out]
  go_cut [2] (fun d wy => d = .pointer (some ⟨w.heap.size, 0, none⟩) ∧ ∃ g1 cap1 wn, wn.ownsRow b0 110 2 (.slice (some ⟨g1, 0, none⟩) (M.pend.length + 1) cap1) (M.pend.length + 1) (ecells eWrite M.pend ++ [.int .i64 A, .int .u64 wd]) ∧ (wb.drew.alloc (.cells #[.int .i64 A, .int .u64 wd] 110)).grownBy wn u.o3 ∧ (u.o3 = some g1 ∨ g1 = wb.heap.size + 1) ∧ wy = wn.setCell ⟨gu, 2, none⟩ (.slice (some ⟨g1, 0, none⟩) (M.pend.length + 1) cap1))
  case first =>
    refine wp_region_held_drew (S := (fun wX => wX.cell? ⟨w.heap.size, 1, none⟩ = some (.int .i64 A) ∧ wX.cell? ⟨w.heap.size, 3, none⟩ = some (.int .u64 wd))) (by kernel_rfl) (HKB.out _ ((Below.refl _ _).drew)) (fun hHeld => ?_)
    refine wpAnyH_take (i := 0) (v := ?_) rfl (by kernel_rfl) (by kernel_rfl) (by kernel_rfl) (fun _ _ _ h => h) (Or.inl ⟨by rfl, ?_⟩) (by assumption) ?_
    rotate_left
    · (intro w hSw; (try dsimp only at hSw); go_simp; try with_reducible rfl)
    simp only [Act.put, List.setIfInBounds_toArray, List.set_cons_zero, List.set_cons_succ, List.getElem_toArray, List.getElem_cons_zero]
    refine wpAnyH_take (i := 1) (v := ?_) rfl (by kernel_rfl) (by kernel_rfl) (by kernel_rfl) (fun _ _ _ h => h) (Or.inl ⟨by rfl, ?_⟩) (by assumption) ?_
    rotate_left
    · (intro w hSw; (try dsimp only at hSw); go_simp; try with_reducible rfl)
    simp only [Act.put, List.setIfInBounds_toArray, List.set_cons_zero, List.set_cons_succ, List.getElem_toArray, List.getElem_cons_zero, List.getElem_cons_succ]
    refine wpAnyH_take (i := 2) (v := ?_) rfl (by kernel_rfl) (by kernel_rfl) (by kernel_rfl) (fun _ _ _ h => h) (Or.inl ⟨by rfl, ?_⟩) (by assumption) ?_
    rotate_left
    · (intro w hSw; (try dsimp only at hSw); go_simp; try with_reducible rfl)
    simp only [Act.put, List.setIfInBounds_toArray, List.set_cons_zero, List.set_cons_succ, List.getElem_toArray, List.getElem_cons_zero, List.getElem_cons_succ]
    refine wpAnyH_take (i := 3) (v := ?_) rfl (by kernel_rfl) (by kernel_rfl) (by kernel_rfl) (fun _ _ _ h => h) (Or.inl ⟨by rfl, ?_⟩) (by assumption) ?_
    rotate_left
    · (intro w hSw; (try dsimp only at hSw); go_simp; try with_reducible rfl)
    simp only [Act.put, List.setIfInBounds_toArray, List.set_cons_zero, List.set_cons_succ, List.getElem_toArray, List.getElem_cons_zero, List.getElem_cons_succ]
    refine wpAnyH_take (i := 5) (v := ?_) rfl (by kernel_rfl) (by kernel_rfl) (by kernel_rfl) (fun _ _ _ h => h) (Or.inl ⟨by rfl, ?_⟩) (by assumption) ?_
    rotate_left
    · (intro w hSw; (try dsimp only at hSw); go_simp; try with_reducible rfl)
    simp only [Act.put, List.setIfInBounds_toArray, List.set_cons_zero, List.set_cons_succ, List.getElem_toArray, List.getElem_cons_zero, List.getElem_cons_succ]
    refine wpAnyH_take (i := 6) (v := ?_) rfl (by kernel_rfl) (by kernel_rfl) (by kernel_rfl) (fun _ _ _ h => h) (Or.inl ⟨by rfl, ?_⟩) (by assumption) ?_
    rotate_left
    · (intro w hSw; (try dsimp only at hSw); go_simp; try with_reducible rfl)
    simp only [Act.put, List.setIfInBounds_toArray, List.set_cons_zero, List.set_cons_succ, List.getElem_toArray, List.getElem_cons_zero, List.getElem_cons_succ]
    refine wpAnyH_take (i := 7) (v := ?_) rfl (by kernel_rfl) (by kernel_rfl) (by kernel_rfl) (fun _ _ _ h => h) (Or.inl ⟨by rfl, ?_⟩) (by assumption) ?_
    rotate_left
    · (intro w hSw; (try dsimp only at hSw); go_simp; try with_reducible rfl)
    simp only [Act.put, List.setIfInBounds_toArray, List.set_cons_zero, List.set_cons_succ, List.getElem_toArray, List.getElem_cons_zero, List.getElem_cons_succ]
    refine wpAnyH_take (i := 8) (v := ?_) rfl (by kernel_rfl) (by kernel_rfl) (by kernel_rfl) (fun _ _ _ h => h) (Or.inl ⟨by rfl, ?_⟩) (by assumption) ?_
    rotate_left
    · (intro w hSw; (try dsimp only at hSw); go_simp; try with_reducible rfl)
    simp only [Act.put, List.setIfInBounds_toArray, List.set_cons_zero, List.set_cons_succ, List.getElem_toArray, List.getElem_cons_zero, List.getElem_cons_succ]
    refine wpAnyH_take (i := 9) (v := ?_) rfl (by kernel_rfl) (by kernel_rfl) (by kernel_rfl) (fun _ _ _ h => h) (Or.inl ⟨by rfl, ?_⟩) (by assumption) ?_
    rotate_left
    · (intro w hSw; (try dsimp only at hSw); go_simp; try with_reducible rfl)
    simp only [Act.put, List.setIfInBounds_toArray, List.set_cons_zero, List.set_cons_succ, List.getElem_toArray, List.getElem_cons_zero, List.getElem_cons_succ]
    refine wpAnyH_ready (rs := [4, 10]) (by kernel_rfl) (by simp) ?_
    refine AllReadyH.cons rfl (fun K hK => ?_) (AllReadyH.cons rfl (fun K hK => ?_) AllReadyH.nil)
    · go_simp
      refine hK.out _ _ (HKB.out _ ((Below.refl _ _).drew)) (fun hHeld2 => ?_)
      clear hK K
      refine wpAnyH_ready (rs := [10]) (by kernel_rfl) (by simp) ?_
      refine AllReadyH.cons rfl (fun K hK => ?_) AllReadyH.nil
      go_simp
      refine hK.out _ _ (HKB.out _ ((Below.refl _ _).drew.alloc (by simp) _)) (fun hHeld3 => ?_)
      clear hK K
      refine wpAnyH_ready (rs := [11]) (by kernel_rfl) (by simp) ?_
      refine AllReadyH.cons rfl (fun K hK => ?_) AllReadyH.nil
      refine step_append_lies _ (by rfl) (.tmp 8) (.tmp 14) 32 (by rfl) b0 110 iE _ 2 16 Tryz.underlying32 hiE hz0 hz1 hz2 rfl (by omega) _ _ _ (by rfl) HOWN.out ⟨wb.heap.size, 0, none⟩ 1 1 [.int .i64 A, .int .u64 wd] (by rfl) rfl HNEWS.out (by intro v hv; simp at hv; rcases hv with rfl | rfl <;> rfl) (by omega) (by unfold maxLen; omega) (by omega) (by simp; omega) (wb.heap.size + 1) (by simp) ?_
      intro g1 cap1 wn hown hgrow hat hlt3
      rw [own_slice] at hgrow hat
      refine hK.out _ _ (HKG.out wn hgrow) (fun hHeld4 => ?_)
      clear hK K
      have cq2 := (World.cell?_of_block (a := ⟨gu, 2, none⟩) (hgrow.block gu (by simp; omega) (fun e => HG3.out e.symm))).trans HQ2.out
      have cf2 := (World.frozen?_of_block (a := ⟨gu, 2, none⟩) (hgrow.block gu (by simp; omega) (fun e => HG3.out e.symm))).trans HF2.out
      refine wpAnyH_take (i := 12) (v := ?_) rfl (by kernel_rfl) (by kernel_rfl) (by kernel_rfl) (fun _ _ _ h => h) (Or.inl ⟨by rfl, ?_⟩) (by assumption) ?_
      rotate_left
      · (intro w hSw; (try dsimp only at hSw); go_simp; try with_reducible rfl)
      simp only [Act.put, List.setIfInBounds_toArray, List.set_cons_zero, List.set_cons_succ, List.getElem_toArray, List.getElem_cons_zero, List.getElem_cons_succ]
      refine wpAnyH_take (i := 13) (v := ?_) rfl (by kernel_rfl) (by kernel_rfl) (by kernel_rfl) (fun _ _ _ h => h) (Or.inl ⟨by rfl, ?_⟩) (by assumption) ?_
      rotate_left
      · (intro w hSw; (try dsimp only at hSw); go_simp; try with_reducible rfl)
      simp only [Act.put, List.setIfInBounds_toArray, List.set_cons_zero, List.set_cons_succ, List.getElem_toArray, List.getElem_cons_zero, List.getElem_cons_succ]
      refine wpAnyH_ready (rs := [14]) (by kernel_rfl) (by simp) ?_
      refine AllReadyH.cons rfl (fun K hK => ?_) AllReadyH.nil
      go_simp
      refine hK.out _ _ (HKS.out wn hgrow _) (fun hHeld5 => ?_)
      clear hK K
      refine wpAnyH_done (by kernel_rfl) ?_ _
      go_wp2_with fail
      go_meet
      case rel => exact ⟨rfl, g1, cap1, wn, hown, hgrow, hat, rfl⟩
    · go_simp
      refine hK.out _ _ (HKB.out _ ((Below.refl _ _).drew.alloc (by simp) _)) (fun hHeld2 => ?_)
      clear hK K
      refine wpAnyH_ready (rs := [4]) (by kernel_rfl) (by simp) ?_
      refine AllReadyH.cons rfl (fun K hK => ?_) AllReadyH.nil
      go_simp
      refine hK.out _ _ (HKB.out _ ((Below.refl _ _).drew.alloc (by simp) _)) (fun hHeld3 => ?_)
      clear hK K
      refine wpAnyH_ready (rs := [11]) (by kernel_rfl) (by simp) ?_
      refine AllReadyH.cons rfl (fun K hK => ?_) AllReadyH.nil
      refine step_append_lies _ (by rfl) (.tmp 8) (.tmp 14) 32 (by rfl) b0 110 iE _ 2 16 Tryz.underlying32 hiE hz0 hz1 hz2 rfl (by omega) _ _ _ (by rfl) HOWN.out ⟨wb.heap.size, 0, none⟩ 1 1 [.int .i64 A, .int .u64 wd] (by rfl) rfl HNEWS.out (by intro v hv; simp at hv; rcases hv with rfl | rfl <;> rfl) (by omega) (by unfold maxLen; omega) (by omega) (by simp; omega) (wb.heap.size + 1) (by simp) ?_
      intro g1 cap1 wn hown hgrow hat hlt3
      rw [own_slice] at hgrow hat
      refine hK.out _ _ (HKG.out wn hgrow) (fun hHeld4 => ?_)
      clear hK K
      have cq2 := (World.cell?_of_block (a := ⟨gu, 2, none⟩) (hgrow.block gu (by simp; omega) (fun e => HG3.out e.symm))).trans HQ2.out
      have cf2 := (World.frozen?_of_block (a := ⟨gu, 2, none⟩) (hgrow.block gu (by simp; omega) (fun e => HG3.out e.symm))).trans HF2.out
      refine wpAnyH_take (i := 12) (v := ?_) rfl (by kernel_rfl) (by kernel_rfl) (by kernel_rfl) (fun _ _ _ h => h) (Or.inl ⟨by rfl, ?_⟩) (by assumption) ?_
      rotate_left
      · (intro w hSw; (try dsimp only at hSw); go_simp; try with_reducible rfl)
      simp only [Act.put, List.setIfInBounds_toArray, List.set_cons_zero, List.set_cons_succ, List.getElem_toArray, List.getElem_cons_zero, List.getElem_cons_succ]
      refine wpAnyH_take (i := 13) (v := ?_) rfl (by kernel_rfl) (by kernel_rfl) (by kernel_rfl) (fun _ _ _ h => h) (Or.inl ⟨by rfl, ?_⟩) (by assumption) ?_
      rotate_left
      · (intro w hSw; (try dsimp only at hSw); go_simp; try with_reducible rfl)
      simp only [Act.put, List.setIfInBounds_toArray, List.set_cons_zero, List.set_cons_succ, List.getElem_toArray, List.getElem_cons_zero, List.getElem_cons_succ]
      refine wpAnyH_ready (rs := [14]) (by kernel_rfl) (by simp) ?_
      refine AllReadyH.cons rfl (fun K hK => ?_) AllReadyH.nil
      go_simp
      refine hK.out _ _ (HKS.out wn hgrow _) (fun hHeld5 => ?_)
      clear hK K
      refine wpAnyH_done (by kernel_rfl) ?_ _
      go_wp2_with fail
      go_meet
      case rel => exact ⟨rfl, g1, cap1, wn, hown, hgrow, hat, rfl⟩
  case rest =>
    obtain ⟨wy, rfl⟩ : ∃ wy : World, wy = wc := ⟨_, rfl⟩
    obtain ⟨rfl, g1, cap1, wn, hown, hgrow, hat, hwy⟩ := hcut
    have hfin := HFIN.out g1 cap1 wn hown hgrow hat
    have cq1 := HQ1.out wn hgrow
    obtain ⟨cc2, cf2⟩ := HC2.out wn hgrow
    have hnl := hgrow.size
    simp at hnl
    rw [← hwy] at hfin
    have y1 : wy.cell? ⟨gu, 1, none⟩ = some (.slice (some ⟨g2, 0, none⟩) M.mem.length u.c2) := by rw [hwy, World.cell?_setCell_other _ _ _ _ (by simp)]; exact cq1
    have hk2 : wy.heap[g2]? = wn.heap[g2]? := by rw [hwy]; exact Below.heap_setCell _ _ _ _ hg2ne
    have y2 := (World.cell?_of_block (a := ⟨g2, A, none⟩) hk2).trans cc2
    have y3 := (World.frozen?_of_block (a := ⟨g2, A, none⟩) hk2).trans cf2
    have yb := HKS.out wn hgrow (.slice (some ⟨g1, 0, none⟩) (M.pend.length + 1) cap1)
    rw [← hwy] at yb
    have HY : Hid (∀ wX : World, (∀ k, k ≠ g2 → wX.heap[k]? = wy.heap[k]?) → wX.cell? ⟨gu, 1, none⟩ = some (.slice (some ⟨g2, 0, none⟩) M.mem.length u.c2) ∧ (wX.cell? ⟨w.heap.size, 1, none⟩ = some (.int .i64 A) ∧ wX.cell? ⟨w.heap.size, 3, none⟩ = some (.int .u64 wd))) := fun wX hX =>
      ⟨(World.cell?_of_block (hX gu (fun e => hg2ne e.symm))).trans y1, (World.cell?_of_block (hX w.heap.size (by have := HZB.out; omega))).trans yb.1, (World.cell?_of_block (hX w.heap.size (by have := HZB.out; omega))).trans yb.2⟩
    have HFI : Hid _ := hfin
    clear hown hgrow hat hfin cq1 cc2 cf2 hwy hk2 hnl
    go_wp2_with fail
    refine wp_region_held_drew (S := (fun wX => wX.cell? ⟨gu, 1, none⟩ = some (.slice (some ⟨g2, 0, none⟩) M.mem.length u.c2) ∧ (wX.cell? ⟨w.heap.size, 1, none⟩ = some (.int .i64 A) ∧ wX.cell? ⟨w.heap.size, 3, none⟩ = some (.int .u64 wd)))) (by kernel_rfl) (HY.out wy.drew (fun k hk => rfl)) (fun hHeld => ?_)
    refine wpAnyH_take (i := 0) (v := ?_) rfl (by kernel_rfl) (by kernel_rfl) (by kernel_rfl) (fun _ _ _ h => h) (Or.inl ⟨by rfl, ?_⟩) (by assumption) ?_
    rotate_left
    · (intro w hSw; (try dsimp only at hSw); go_simp; try with_reducible rfl)
    simp only [Act.put, List.setIfInBounds_toArray, List.set_cons_zero, List.set_cons_succ, List.getElem_toArray, List.getElem_cons_zero]
    refine wpAnyH_take (i := 1) (v := ?_) rfl (by kernel_rfl) (by kernel_rfl) (by kernel_rfl) (fun _ _ _ h => h) (Or.inl ⟨by rfl, ?_⟩) (by assumption) ?_
    rotate_left
    · (intro w hSw; (try dsimp only at hSw); go_simp; try with_reducible rfl)
    simp only [Act.put, List.setIfInBounds_toArray, List.set_cons_zero, List.set_cons_succ, List.getElem_toArray, List.getElem_cons_zero, List.getElem_cons_succ]
    refine wpAnyH_take (i := 2) (v := ?_) rfl (by kernel_rfl) (by kernel_rfl) (by kernel_rfl) (fun _ _ _ h => h) (Or.inl ⟨by rfl, ?_⟩) (by assumption) ?_
    rotate_left
    · (intro w hSw; (try dsimp only at hSw); go_simp; try with_reducible rfl)
    simp only [Act.put, List.setIfInBounds_toArray, List.set_cons_zero, List.set_cons_succ, List.getElem_toArray, List.getElem_cons_zero, List.getElem_cons_succ]
    refine wpAnyH_take (i := 3) (v := ?_) rfl (by kernel_rfl) (by kernel_rfl) (by kernel_rfl) (fun _ _ _ h => h) (Or.inl ⟨by rfl, ?_⟩) (by assumption) ?_
    rotate_left
    · (intro w hSw; (try dsimp only at hSw); go_simp; try with_reducible rfl)
    simp only [Act.put, List.setIfInBounds_toArray, List.set_cons_zero, List.set_cons_succ, List.getElem_toArray, List.getElem_cons_zero, List.getElem_cons_succ]
    refine wpAnyH_take (i := 4) (v := ?_) rfl (by kernel_rfl) (by kernel_rfl) (by kernel_rfl) (fun _ _ _ h => h) (Or.inl ⟨by rfl, ?_⟩) (by assumption) ?_
    rotate_left
    · (intro w hSw; (try dsimp only at hSw); go_simp; try with_reducible rfl)
    simp only [Act.put, List.setIfInBounds_toArray, List.set_cons_zero, List.set_cons_succ, List.getElem_toArray, List.getElem_cons_zero, List.getElem_cons_succ]
    refine wpAnyH_take (i := 5) (v := ?_) rfl (by kernel_rfl) (by kernel_rfl) (by kernel_rfl) (fun _ _ _ h => h) (Or.inl ⟨by rfl, ?_⟩) (by assumption) ?_
    rotate_left
    · (intro w hSw; (try dsimp only at hSw); go_simp; try with_reducible rfl)
    simp only [Act.put, List.setIfInBounds_toArray, List.set_cons_zero, List.set_cons_succ, List.getElem_toArray, List.getElem_cons_zero, List.getElem_cons_succ]
    refine wpAnyH_take (i := 6) (v := ?_) rfl (by kernel_rfl) (by kernel_rfl) (by kernel_rfl) (fun _ _ _ h => h) (Or.inl ⟨by rfl, ?_⟩) (by assumption) ?_
    rotate_left
    · (intro w hSw; (try dsimp only at hSw); go_simp; try with_reducible rfl)
    simp only [Act.put, List.setIfInBounds_toArray, List.set_cons_zero, List.set_cons_succ, List.getElem_toArray, List.getElem_cons_zero, List.getElem_cons_succ]
    refine wpAnyH_take (i := 7) (v := ?_) rfl (by kernel_rfl) (by kernel_rfl) (by kernel_rfl) (fun _ _ _ h => h) (Or.inl ⟨by rfl, ?_⟩) (by assumption) ?_
    rotate_left
    · (intro w hSw; (try dsimp only at hSw); go_simp; try with_reducible rfl)
    simp only [Act.put, List.setIfInBounds_toArray, List.set_cons_zero, List.set_cons_succ, List.getElem_toArray, List.getElem_cons_zero, List.getElem_cons_succ]
    refine wpAnyH_take (i := 8) (v := ?_) rfl (by kernel_rfl) (by kernel_rfl) (by kernel_rfl) (fun _ _ _ h => h) (Or.inl ⟨by rfl, ?_⟩) (by assumption) ?_
    rotate_left
    · (intro w hSw; (try dsimp only at hSw); go_simp; try with_reducible rfl)
    simp only [Act.put, List.setIfInBounds_toArray, List.set_cons_zero, List.set_cons_succ, List.getElem_toArray, List.getElem_cons_zero, List.getElem_cons_succ]
    refine wpAnyH_take (i := 9) (v := ?_) rfl (by kernel_rfl) (by kernel_rfl) (by kernel_rfl) (fun _ _ _ h => h) (Or.inl ⟨by rfl, ?_⟩) (by assumption) ?_
    rotate_left
    · (intro w hSw; (try dsimp only at hSw); go_simp; try with_reducible rfl)
    simp only [Act.put, List.setIfInBounds_toArray, List.set_cons_zero, List.set_cons_succ, List.getElem_toArray, List.getElem_cons_zero, List.getElem_cons_succ]
    refine wpAnyH_ready (rs := [10]) (by kernel_rfl) (by simp) ?_
    refine AllReadyH.cons rfl (fun K hK => ?_) AllReadyH.nil
    go_simp
    refine hK.out _ _ (HY.out _ (fun k hk => Below.heap_setCell _ _ _ _ hk)) (fun hHeld5 => ?_)
    clear hK K
    refine wpAnyH_done (by kernel_rfl) ?_ _
    go_wp2_with fail
    refine bodyPost_end (v := .tuple #[]) (by simp [results, Tryz.results182, go_sem]) rfl ⟨rfl, ⟨u.a1, u.c1, u.a2, u.n2, u.c2, some ⟨g1, 0, none⟩, cap1, u.a4, u.c4, u.a5, u.c5⟩, ?_⟩
    exact ⟨⟨HFI.out.um.lt, HFI.out.um.q0, HFI.out.um.q1, HFI.out.um.q2, HFI.out.um.q3, HFI.out.um.q4, HFI.out.um.f2, HFI.out.um.f3, HFI.out.um.f4, HFI.out.um.w, HFI.out.um.l, HFI.out.um.p, HFI.out.um.t, HFI.out.um.c, HFI.out.um.ap, HFI.out.um.o2⟩, ⟨HFI.out.tch.os, HFI.out.tch.tape, HFI.out.tch.output, HFI.out.tch.size, HFI.out.tch.block⟩, HFI.out.old, HFI.out.th⟩
end Go.Proofs.YtiiejckfcnmhoabGreat
