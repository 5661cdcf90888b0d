import Derived.Test.YtnmhkgmmpkjjeabUBits
import Derived.Test.YtnmhkgmmpkjjeabSValid
namespace Go.Proofs.Ytnmhkgmmpkjjeab
open Go.ChangeShapes Go.WideShapes Go.ChangeAt Go.RowKit
set_option linter.unusedVariables false
attribute [local go_sem ↓] Go.wp_at_zero Go.wp_at_succ

theorem validTlb_size (a1 a2 a3 a4 : Int) (a5 : Bool) (h : ¬ (a2 = 1 ∨ a2 = 16)) (w : World) :
    Calls Try.prog 140 #[.agg #[.int .i64 a1, .int .i64 a2, .int .i64 a3, .int .i64 a4, .bool a5]] w fun r w' => r = .returned (.bool false) ∧ Below w.heap.size w w' := by
  have h1 : (a2 != 1) = true := by simp; omega
  have h2 : (a2 != 16) = true := by simp; omega
  clear h
  go_enter Try.func140, Try.ntmps140
  go_wp2_with fail
  go_ret
  exact ⟨rfl, (Below.refl _ _).alloc (Nat.le_refl _) _⟩

theorem validTlb_1 (a1 a3 a4 : Int) (a5 : Bool) (w : World) :
    Calls Try.prog 140 #[.agg #[.int .i64 a1, .int .i64 1, .int .i64 a3, .int .i64 a4, .bool a5]] w fun r w' => r = .returned (.bool (tlbOkB ⟨a1, 1, a3, a4, a5⟩)) ∧ Below w.heap.size w w' := by
  have hpk := validPage_any a1
  cases hp : pageOk a1
  · rw [hp] at hpk
    have hr : tlbOkB ⟨a1, 1, a3, a4, a5⟩ = false := by simp [tlbOkB, hp]
    rw [hr]
    clear hr hp
    go_enter Try.func140, Try.ntmps140
    go_wp2_with (go_at_call 62; refine (hpk _).mono ?_; rintro e w1 ⟨rfl, hw1⟩; obtain rfl := hw1.symm)
    go_ret
    exact ⟨rfl, (Below.refl _ _).alloc (Nat.le_refl _) _⟩
  · rw [hp] at hpk
    have hp0 : 0 ≤ a1 ∧ a1 < 4096 := by simpa [pageOk] using hp
    by_cases hm : a1 % 1 = 0
    · have hm' : (a1 % 1 == 0) = true := by simp
      by_cases h1 : 1 ≤ a4
      · have h1' : decide (1 ≤ a4) = true := by simpa using h1
        by_cases h7 : a4 ≤ 7
        · have h7' : decide (a4 ≤ 7) = true := by simpa using h7
          by_cases o0 : 0 ≤ a3
          · have o0' : decide (0 ≤ a3) = true := by simpa using o0
            by_cases o1 : a3 < 65536
            · have o1' : decide (a3 < 65536) = true := by simpa using o1
              by_cases om : a3 % 1 = 0
              · have om' : (a3 % 1 == 0) = true := by simp
                have hr : tlbOkB ⟨a1, 1, a3, a4, a5⟩ = true := by simp [tlbOkB, hp, hm, h1, h7, o0, o1, om]
                rw [hr]
                clear hr hp
                go_enter Try.func140, Try.ntmps140
                go_wp2_with (go_at_call 62; refine (hpk _).mono ?_; rintro e w1 ⟨rfl, hw1⟩; obtain rfl := hw1.symm)
                go_ret
                exact ⟨rfl, (Below.refl _ _).alloc (Nat.le_refl _) _⟩
              · exact absurd (by omega) om
            · have o1' : decide (a3 < 65536) = false := by simpa using o1
              have hr : tlbOkB ⟨a1, 1, a3, a4, a5⟩ = false := by simp [tlbOkB, o1]
              rw [hr]
              clear hr hp o1
              go_enter Try.func140, Try.ntmps140
              go_wp2_with (go_at_call 62; refine (hpk _).mono ?_; rintro e w1 ⟨rfl, hw1⟩; obtain rfl := hw1.symm)
              go_ret
              exact ⟨rfl, (Below.refl _ _).alloc (Nat.le_refl _) _⟩
          · have o0' : decide (0 ≤ a3) = false := by simpa using o0
            have hr : tlbOkB ⟨a1, 1, a3, a4, a5⟩ = false := by simp [tlbOkB, o0]
            rw [hr]
            clear hr hp o0
            go_enter Try.func140, Try.ntmps140
            go_wp2_with (go_at_call 62; refine (hpk _).mono ?_; rintro e w1 ⟨rfl, hw1⟩; obtain rfl := hw1.symm)
            go_ret
            exact ⟨rfl, (Below.refl _ _).alloc (Nat.le_refl _) _⟩
        · have h7' : decide (a4 ≤ 7) = false := by simpa using h7
          have hr : tlbOkB ⟨a1, 1, a3, a4, a5⟩ = false := by simp [tlbOkB, h7]
          rw [hr]
          clear hr hp h7
          go_enter Try.func140, Try.ntmps140
          go_wp2_with (go_at_call 62; refine (hpk _).mono ?_; rintro e w1 ⟨rfl, hw1⟩; obtain rfl := hw1.symm)
          go_ret
          exact ⟨rfl, (Below.refl _ _).alloc (Nat.le_refl _) _⟩
      · have h1' : decide (1 ≤ a4) = false := by simpa using h1
        have hr : tlbOkB ⟨a1, 1, a3, a4, a5⟩ = false := by simp [tlbOkB, h1]
        rw [hr]
        clear hr hp h1
        go_enter Try.func140, Try.ntmps140
        go_wp2_with (go_at_call 62; refine (hpk _).mono ?_; rintro e w1 ⟨rfl, hw1⟩; obtain rfl := hw1.symm)
        go_ret
        exact ⟨rfl, (Below.refl _ _).alloc (Nat.le_refl _) _⟩
    · exact absurd (by omega) hm

theorem validTlb_16 (a1 a3 a4 : Int) (a5 : Bool) (w : World) :
    Calls Try.prog 140 #[.agg #[.int .i64 a1, .int .i64 16, .int .i64 a3, .int .i64 a4, .bool a5]] w fun r w' => r = .returned (.bool (tlbOkB ⟨a1, 16, a3, a4, a5⟩)) ∧ Below w.heap.size w w' := by
  have hpk := validPage_any a1
  cases hp : pageOk a1
  · rw [hp] at hpk
    have hr : tlbOkB ⟨a1, 16, a3, a4, a5⟩ = false := by simp [tlbOkB, hp]
    rw [hr]
    clear hr hp
    go_enter Try.func140, Try.ntmps140
    go_wp2_with (go_at_call 62; refine (hpk _).mono ?_; rintro e w1 ⟨rfl, hw1⟩; obtain rfl := hw1.symm)
    go_ret
    exact ⟨rfl, (Below.refl _ _).alloc (Nat.le_refl _) _⟩
  · rw [hp] at hpk
    have hp0 : 0 ≤ a1 ∧ a1 < 4096 := by simpa [pageOk] using hp
    by_cases hm : a1 % 16 = 0
    · have hm' : (a1 % 16 == 0) = true := by simpa using hm
      by_cases h1 : 1 ≤ a4
      · have h1' : decide (1 ≤ a4) = true := by simpa using h1
        by_cases h7 : a4 ≤ 7
        · have h7' : decide (a4 ≤ 7) = true := by simpa using h7
          by_cases o0 : 0 ≤ a3
          · have o0' : decide (0 ≤ a3) = true := by simpa using o0
            by_cases o1 : a3 < 65536
            · have o1' : decide (a3 < 65536) = true := by simpa using o1
              by_cases om : a3 % 16 = 0
              · have om' : (a3 % 16 == 0) = true := by simpa using om
                have hr : tlbOkB ⟨a1, 16, a3, a4, a5⟩ = true := by simp [tlbOkB, hp, hm, h1, h7, o0, o1, om]
                rw [hr]
                clear hr hp
                go_enter Try.func140, Try.ntmps140
                go_wp2_with (go_at_call 62; refine (hpk _).mono ?_; rintro e w1 ⟨rfl, hw1⟩; obtain rfl := hw1.symm)
                go_ret
                exact ⟨rfl, (Below.refl _ _).alloc (Nat.le_refl _) _⟩
              · have om' : (a3 % 16 == 0) = false := by simpa using om
                have hr : tlbOkB ⟨a1, 16, a3, a4, a5⟩ = false := by simp [tlbOkB, om]
                rw [hr]
                clear hr hp om
                go_enter Try.func140, Try.ntmps140
                go_wp2_with (go_at_call 62; refine (hpk _).mono ?_; rintro e w1 ⟨rfl, hw1⟩; obtain rfl := hw1.symm)
                go_ret
                exact ⟨rfl, (Below.refl _ _).alloc (Nat.le_refl _) _⟩
            · have o1' : decide (a3 < 65536) = false := by simpa using o1
              have hr : tlbOkB ⟨a1, 16, a3, a4, a5⟩ = false := by simp [tlbOkB, o1]
              rw [hr]
              clear hr hp o1
              go_enter Try.func140, Try.ntmps140
              go_wp2_with (go_at_call 62; refine (hpk _).mono ?_; rintro e w1 ⟨rfl, hw1⟩; obtain rfl := hw1.symm)
              go_ret
              exact ⟨rfl, (Below.refl _ _).alloc (Nat.le_refl _) _⟩
          · have o0' : decide (0 ≤ a3) = false := by simpa using o0
            have hr : tlbOkB ⟨a1, 16, a3, a4, a5⟩ = false := by simp [tlbOkB, o0]
            rw [hr]
            clear hr hp o0
            go_enter Try.func140, Try.ntmps140
            go_wp2_with (go_at_call 62; refine (hpk _).mono ?_; rintro e w1 ⟨rfl, hw1⟩; obtain rfl := hw1.symm)
            go_ret
            exact ⟨rfl, (Below.refl _ _).alloc (Nat.le_refl _) _⟩
        · have h7' : decide (a4 ≤ 7) = false := by simpa using h7
          have hr : tlbOkB ⟨a1, 16, a3, a4, a5⟩ = false := by simp [tlbOkB, h7]
          rw [hr]
          clear hr hp h7
          go_enter Try.func140, Try.ntmps140
          go_wp2_with (go_at_call 62; refine (hpk _).mono ?_; rintro e w1 ⟨rfl, hw1⟩; obtain rfl := hw1.symm)
          go_ret
          exact ⟨rfl, (Below.refl _ _).alloc (Nat.le_refl _) _⟩
      · have h1' : decide (1 ≤ a4) = false := by simpa using h1
        have hr : tlbOkB ⟨a1, 16, a3, a4, a5⟩ = false := by simp [tlbOkB, h1]
        rw [hr]
        clear hr hp h1
        go_enter Try.func140, Try.ntmps140
        go_wp2_with (go_at_call 62; refine (hpk _).mono ?_; rintro e w1 ⟨rfl, hw1⟩; obtain rfl := hw1.symm)
        go_ret
        exact ⟨rfl, (Below.refl _ _).alloc (Nat.le_refl _) _⟩
    · have hm' : (a1 % 16 == 0) = false := by simpa using hm
      have hr : tlbOkB ⟨a1, 16, a3, a4, a5⟩ = false := by simp [tlbOkB, hm]
      rw [hr]
      clear hr hp hm
      go_enter Try.func140, Try.ntmps140
      go_wp2_with (go_at_call 62; refine (hpk _).mono ?_; rintro e w1 ⟨rfl, hw1⟩; obtain rfl := hw1.symm)
      go_ret
      exact ⟨rfl, (Below.refl _ _).alloc (Nat.le_refl _) _⟩

theorem validTlb_any (e : TlbE) (w : World) :
    Calls Try.prog 140 #[.agg #[.int .i64 e.page, .int .i64 e.size, .int .i64 e.out, .int .i64 e.perm, .bool e.doom]] w fun r w' => r = .returned (.bool (tlbOkB e)) ∧ Below w.heap.size w w' := by
  obtain ⟨a1, a2, a3, a4, a5⟩ := e
  by_cases h : a2 = 1 ∨ a2 = 16
  · rcases h with rfl | rfl
    · exact validTlb_1 a1 a3 a4 a5 w
    · exact validTlb_16 a1 a3 a4 a5 w
  · have hr : tlbOkB ⟨a1, a2, a3, a4, a5⟩ = false := by
      have h1 : ¬ a2 = 1 := fun h' => h (.inl h')
      have h2 : ¬ a2 = 16 := fun h' => h (.inr h')
      simp [tlbOkB, h1, h2]
    rw [hr]
    exact validTlb_size a1 a2 a3 a4 a5 h w
theorem hasFrame_all (a : Option Addr) (m c : Nat) (o n : Int) (hn : n * 16 = m) (hm : m ≤ 8192) (w : World) :
    Calls Try.prog 125 #[.agg #[.slice a m c], .int .i64 o] w fun e w' => e = .returned (.bool (decide (0 ≤ o) && decide (o < n))) ∧ Below w.heap.size w w' := by
  by_cases ho : 0 ≤ o
  · refine (hasFrame_any a m c o n hn ho hm w).mono ?_
    rintro e w' ⟨rfl, h⟩
    exact ⟨by simp [ho], h⟩
  · have h0 : decide (0 ≤ o) = false := by simpa using ho
    rw [h0]
    clear ho
    go_enter Try.func125, Try.ntmps125
    go_wp2
    go_ret
    exact ⟨by simp, (Below.refl _ _).alloc (Nat.le_refl _) _⟩
theorem validWc_level (a : Option Addr) (m c : Nat) (a1 a2 a3 : Int) (a4 : Bool) (h : ¬ (a1 = 2 ∨ a1 = 3)) (w : World) :
    Calls Try.prog 141 #[.agg #[.slice a m c], .agg #[.int .i64 a1, .int .i64 a2, .int .i64 a3, .bool a4]] w fun r w' => r = .returned (.bool false) ∧ Below w.heap.size w w' := by
  have h1 : (a1 != 2) = true := by simp; omega
  have h2 : (a1 != 3) = true := by simp; omega
  clear h
  go_enter Try.func141, Try.ntmps141
  go_wp2_with fail
  go_ret
  exact ⟨rfl, ((Below.refl _ _).alloc (Nat.le_refl _) _).alloc (by simp) _⟩

theorem validWc_2 (a : Option Addr) (m c : Nat) (n a2 a3 : Int) (a4 : Bool) (hn : n * 16 = m) (hm : m ≤ 8192) (w : World) :
    Calls Try.prog 141 #[.agg #[.slice a m c], .agg #[.int .i64 2, .int .i64 a2, .int .i64 a3, .bool a4]] w fun r w' => r = .returned (.bool (wcOkB n ⟨2, a2, a3, a4⟩)) ∧ Below w.heap.size w w' := by
  have hpk := validPage_any a2
  have htp : ∀ w, Calls Try.prog 128 #[.int .i64 2] w fun e w' => e = .returned (.int .i64 256) ∧ w' = w := tablePages_any 2
  have hcv : cov 1 = 256 := by decide
  cases hp : pageOk a2
  · rw [hp] at hpk
    have hr : wcOkB n ⟨2, a2, a3, a4⟩ = false := by simp [wcOkB, hp]
    rw [hr]
    clear hr hp
    go_enter Try.func141, Try.ntmps141
    go_wp2_with fail
    go_quiet ((first | (go_at_call 62; exact Calls.quiet_of_same (hpk _)) | (go_at_call 128; exact Calls.quiet_of_same (htp _))))
    go_wp2
    go_ret
    exact ⟨rfl, bDrewN (((Below.refl _ _).alloc (Nat.le_refl _) _).alloc (by simp) _) _⟩
  · rw [hp] at hpk
    have hp0 : 0 ≤ a2 ∧ a2 < 4096 := by simpa [pageOk] using hp
    by_cases hmd : a2 % 256 = 0
    · have hmd' : (a2 % 256 == 0) = true := by simpa using hmd
      have hr : wcOkB n ⟨2, a2, a3, a4⟩ = (decide (0 ≤ a3) && decide (a3 < n)) := by simp [wcOkB, hp, hmd, hcv]
      rw [hr]
      have hhf := hasFrame_all a m c a3 n hn hm
      generalize (decide (0 ≤ a3) && decide (a3 < n)) = T at *
      obtain ⟨wb, hwb⟩ : ∃ wb, wb = (w.alloc (.cells #[.slice a m c] 29)).alloc (.cells #[.int .i64 2, .int .i64 a2, .int .i64 a3, .bool a4] 120) := ⟨_, rfl⟩
      have hbb : Below w.heap.size w wb := by rw [hwb]; exact ((Below.refl _ _).alloc (Nat.le_refl _) _).alloc (by simp) _
      have HK : Hid (∀ wX, Below wb.heap.size wb wX → wX.cell? ⟨w.heap.size, 0, none⟩ = some (.slice a m c) ∧ wX.cell? ⟨w.heap.size + 1, 0, none⟩ = some (.int .i64 2) ∧ wX.cell? ⟨w.heap.size + 1, 1, none⟩ = some (.int .i64 a2) ∧ wX.cell? ⟨w.heap.size + 1, 2, none⟩ = some (.int .i64 a3)) := fun wX hX => by
        refine ⟨?_, ?_, ?_, ?_⟩
        iterate 4 (exact (hX.cell (by rw [hwb]; simp <;> omega)).trans (by rw [hwb]; simp [go_sem]))
      have HWB : Hid (wb = _) := hwb
      have HBB : Hid _ := hbb
      have hT : a2.tmod 256 = a2 % 256 := Int.tmod_eq_emod_of_nonneg hp0.1
      clear hr hp hwb hbb hmd
      go_enter Try.func141, Try.ntmps141
      go_upto_region 3 with fail
      rw [← HWB.out]
      go_region_held3 (fun wX => wX.cell? ⟨w.heap.size, 0, none⟩ = some (.slice a m c) ∧ wX.cell? ⟨w.heap.size + 1, 0, none⟩ = some (.int .i64 2) ∧ wX.cell? ⟨w.heap.size + 1, 1, none⟩ = some (.int .i64 a2) ∧ wX.cell? ⟨w.heap.size + 1, 2, none⟩ = some (.int .i64 a3))
        ((refine HK.out _ ?_; repeat (first | exact Below.refl _ _ | with_reducible refine Below.drew ?_ | refine Below.trans ?_ (hb1.mono (by first | omega | (simp <;> omega))))))
        (first
          | (go_at_call 62; refine (hpk _).mono ?_; rintro e wE ⟨rfl, hwE⟩; obtain rfl := hwE.symm)
          | (go_at_call 128; refine (htp _).mono ?_; rintro e wF ⟨rfl, hwF⟩; obtain rfl := hwF.symm)
          | (go_at_call 125; refine (hhf _).mono ?_; rintro e w1 ⟨rfl, hb1⟩))
      go_wp2_with fail
      go_ret
      exact ⟨rfl, HBB.out.trans (((Below.refl _ _).drew.trans (hb1.mono (by simp))).mono HBB.out.size)⟩
    · have hmd' : (a2 % 256 == 0) = false := by simpa using hmd
      have hr : wcOkB n ⟨2, a2, a3, a4⟩ = false := by simp [wcOkB, hp, hmd, hcv]
      rw [hr]
      clear hr hp hmd
      go_enter Try.func141, Try.ntmps141
      go_wp2_with fail
      go_quiet ((first | (go_at_call 62; exact Calls.quiet_of_same (hpk _)) | (go_at_call 128; exact Calls.quiet_of_same (htp _))))
      go_wp2
      go_ret
      exact ⟨rfl, bDrewN (((Below.refl _ _).alloc (Nat.le_refl _) _).alloc (by simp) _) _⟩

theorem validWc_3 (a : Option Addr) (m c : Nat) (n a2 a3 : Int) (a4 : Bool) (hn : n * 16 = m) (hm : m ≤ 8192) (w : World) :
    Calls Try.prog 141 #[.agg #[.slice a m c], .agg #[.int .i64 3, .int .i64 a2, .int .i64 a3, .bool a4]] w fun r w' => r = .returned (.bool (wcOkB n ⟨3, a2, a3, a4⟩)) ∧ Below w.heap.size w w' := by
  have hpk := validPage_any a2
  have htp : ∀ w, Calls Try.prog 128 #[.int .i64 3] w fun e w' => e = .returned (.int .i64 16) ∧ w' = w := tablePages_any 3
  have hcv : cov 2 = 16 := by decide
  cases hp : pageOk a2
  · rw [hp] at hpk
    have hr : wcOkB n ⟨3, a2, a3, a4⟩ = false := by simp [wcOkB, hp]
    rw [hr]
    clear hr hp
    go_enter Try.func141, Try.ntmps141
    go_wp2_with fail
    go_quiet ((first | (go_at_call 62; exact Calls.quiet_of_same (hpk _)) | (go_at_call 128; exact Calls.quiet_of_same (htp _))))
    go_wp2
    go_ret
    exact ⟨rfl, bDrewN (((Below.refl _ _).alloc (Nat.le_refl _) _).alloc (by simp) _) _⟩
  · rw [hp] at hpk
    have hp0 : 0 ≤ a2 ∧ a2 < 4096 := by simpa [pageOk] using hp
    by_cases hmd : a2 % 16 = 0
    · have hmd' : (a2 % 16 == 0) = true := by simpa using hmd
      have hr : wcOkB n ⟨3, a2, a3, a4⟩ = (decide (0 ≤ a3) && decide (a3 < n)) := by simp [wcOkB, hp, hmd, hcv]
      rw [hr]
      have hhf := hasFrame_all a m c a3 n hn hm
      generalize (decide (0 ≤ a3) && decide (a3 < n)) = T at *
      obtain ⟨wb, hwb⟩ : ∃ wb, wb = (w.alloc (.cells #[.slice a m c] 29)).alloc (.cells #[.int .i64 3, .int .i64 a2, .int .i64 a3, .bool a4] 120) := ⟨_, rfl⟩
      have hbb : Below w.heap.size w wb := by rw [hwb]; exact ((Below.refl _ _).alloc (Nat.le_refl _) _).alloc (by simp) _
      have HK : Hid (∀ wX, Below wb.heap.size wb wX → wX.cell? ⟨w.heap.size, 0, none⟩ = some (.slice a m c) ∧ wX.cell? ⟨w.heap.size + 1, 0, none⟩ = some (.int .i64 3) ∧ wX.cell? ⟨w.heap.size + 1, 1, none⟩ = some (.int .i64 a2) ∧ wX.cell? ⟨w.heap.size + 1, 2, none⟩ = some (.int .i64 a3)) := fun wX hX => by
        refine ⟨?_, ?_, ?_, ?_⟩
        iterate 4 (exact (hX.cell (by rw [hwb]; simp <;> omega)).trans (by rw [hwb]; simp [go_sem]))
      have HWB : Hid (wb = _) := hwb
      have HBB : Hid _ := hbb
      have hT : a2.tmod 16 = a2 % 16 := Int.tmod_eq_emod_of_nonneg hp0.1
      clear hr hp hwb hbb hmd
      go_enter Try.func141, Try.ntmps141
      go_upto_region 3 with fail
      rw [← HWB.out]
      go_region_held3 (fun wX => wX.cell? ⟨w.heap.size, 0, none⟩ = some (.slice a m c) ∧ wX.cell? ⟨w.heap.size + 1, 0, none⟩ = some (.int .i64 3) ∧ wX.cell? ⟨w.heap.size + 1, 1, none⟩ = some (.int .i64 a2) ∧ wX.cell? ⟨w.heap.size + 1, 2, none⟩ = some (.int .i64 a3))
        ((refine HK.out _ ?_; repeat (first | exact Below.refl _ _ | with_reducible refine Below.drew ?_ | refine Below.trans ?_ (hb1.mono (by first | omega | (simp <;> omega))))))
        (first
          | (go_at_call 62; refine (hpk _).mono ?_; rintro e wE ⟨rfl, hwE⟩; obtain rfl := hwE.symm)
          | (go_at_call 128; refine (htp _).mono ?_; rintro e wF ⟨rfl, hwF⟩; obtain rfl := hwF.symm)
          | (go_at_call 125; refine (hhf _).mono ?_; rintro e w1 ⟨rfl, hb1⟩))
      go_wp2_with fail
      go_ret
      exact ⟨rfl, HBB.out.trans (((Below.refl _ _).drew.trans (hb1.mono (by simp))).mono HBB.out.size)⟩
    · have hmd' : (a2 % 16 == 0) = false := by simpa using hmd
      have hr : wcOkB n ⟨3, a2, a3, a4⟩ = false := by simp [wcOkB, hp, hmd, hcv]
      rw [hr]
      clear hr hp hmd
      go_enter Try.func141, Try.ntmps141
      go_wp2_with fail
      go_quiet ((first | (go_at_call 62; exact Calls.quiet_of_same (hpk _)) | (go_at_call 128; exact Calls.quiet_of_same (htp _))))
      go_wp2
      go_ret
      exact ⟨rfl, bDrewN (((Below.refl _ _).alloc (Nat.le_refl _) _).alloc (by simp) _) _⟩

theorem validWc_any (a : Option Addr) (m c : Nat) (n : Int) (hn : n * 16 = m) (hm : m ≤ 8192) (e : WcE) (w : World) :
    Calls Try.prog 141 #[.agg #[.slice a m c], .agg #[.int .i64 e.level, .int .i64 e.page, .int .i64 e.table, .bool e.doom]] w fun r w' => r = .returned (.bool (wcOkB n e)) ∧ Below w.heap.size w w' := by
  obtain ⟨a1, a2, a3, a4⟩ := e
  by_cases h : a1 = 2 ∨ a1 = 3
  · rcases h with rfl | rfl
    · exact validWc_2 a m c n a2 a3 a4 hn hm w
    · exact validWc_3 a m c n a2 a3 a4 hn hm w
  · have hr : wcOkB n ⟨a1, a2, a3, a4⟩ = false := by
      have h1 : ¬ a1 = 2 := fun h' => h (.inl h')
      have h2 : ¬ a1 = 3 := fun h' => h (.inr h')
      simp [wcOkB, h1, h2]
    rw [hr]
    exact validWc_level a m c a1 a2 a3 a4 h w
end Go.Proofs.Ytnmhkgmmpkjjeab
