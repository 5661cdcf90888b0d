import Derived.Test.YtnmhkgmmpkjjeaaG13
import Derived.Deep.RegionHeld3
namespace Go.Proofs.Ytnmhkgmmpkjjeaa
open Go.ChangeShapes Go.WideShapes Go.ChangeAt Go.RowKit
set_option linter.unusedVariables false
attribute [local go_sem ↓] Go.wp_at_zero Go.wp_at_succ

theorem spanEnd_any (p c o r : Int) (g : Bool) (h0 : 0 ≤ p) (h1 : p ≤ 100000) (h2 : 0 ≤ c) (h3 : c ≤ 100000) (w : World) :
    Calls Try.prog 66 #[.agg #[.int .i64 p, .int .i64 c, .int .i64 o, .int .i64 r, .bool g]] w fun e w' => e = .returned (.int .i64 (p + c)) ∧ Below w.heap.size w w' := by
  go_enter Try.func66, Try.ntmps66
  go_wp2_with fail
  go_ret
  exact ⟨rfl, (Below.refl _ _).alloc (Nat.le_refl _) _⟩

set_option maxHeartbeats 2000000 in
theorem l4JoinsW_any (p c o r : Int) (g : Bool) (p2 c2 o2 r2 : Int) (g2 : Bool) (w : World) (k1 : 0 ≤ p) (k2 : p ≤ 1000000) (k3 : 0 ≤ c) (k4 : c ≤ 1000000) (k5 : -3000000 ≤ o) (k6 : o ≤ 3000000) :
    Calls Try.prog 125 #[.agg #[.int .i64 p, .int .i64 c, .int .i64 o, .int .i64 r, .bool g], .agg #[.int .i64 p2, .int .i64 c2, .int .i64 o2, .int .i64 r2, .bool g2]] w fun e w' => e = .returned (.bool (joinsB ⟨p, c, o, r, g⟩ ⟨p2, c2, o2, r2, g2⟩)) ∧ Below w.heap.size w w' := by
  by_cases h0 : p2 = p + c
  · subst h0
    by_cases h1 : o2 = o + c
    · subst h1
      by_cases h2 : r = r2
      · subst h2
        by_cases h3 : g = g2
        · subst h3
          have hr : joinsB ⟨p, c, o, r, g⟩ ⟨(p + c), c2, (o + c), r, g⟩ = true := decide_eq_true (by dsimp only; exact ⟨rfl, rfl, rfl, rfl⟩)
          rw [hr]
          clear hr
          go_enter Try.func125, Try.ntmps125
          go_wp2_with fail
          go_ret
          exact ⟨rfl, ((Below.refl _ _).alloc (Nat.le_refl _) _).alloc (by simp) _⟩
        · have d3 : (g == g2) = false := by cases g <;> cases g2 <;> simp_all
          have hr : joinsB ⟨p, c, o, r, g⟩ ⟨(p + c), c2, (o + c), r, g2⟩ = false := decide_eq_false (by dsimp only; first | omega | (intro hh; exact h3 hh.2.2.2.symm))
          rw [hr]
          clear hr h3
          go_enter Try.func125, Try.ntmps125
          go_wp2_with fail
          go_ret
          exact ⟨rfl, ((Below.refl _ _).alloc (Nat.le_refl _) _).alloc (by simp) _⟩
      · have d2 : (r == r2) = false := by simp; omega
        have hr : joinsB ⟨p, c, o, r, g⟩ ⟨(p + c), c2, (o + c), r2, g2⟩ = false := decide_eq_false (by dsimp only; first | omega | (intro hh; exact h2 hh.2.2.2.symm))
        rw [hr]
        clear hr h2
        go_enter Try.func125, Try.ntmps125
        go_wp2_with fail
        go_ret
        exact ⟨rfl, ((Below.refl _ _).alloc (Nat.le_refl _) _).alloc (by simp) _⟩
    · have d1 : (o + c == o2) = false := by simp; omega
      have hr : joinsB ⟨p, c, o, r, g⟩ ⟨(p + c), c2, o2, r2, g2⟩ = false := decide_eq_false (by dsimp only; first | omega | (intro hh; exact h1 hh.2.2.2.symm))
      rw [hr]
      clear hr h1
      go_enter Try.func125, Try.ntmps125
      go_wp2_with fail
      go_ret
      exact ⟨rfl, ((Below.refl _ _).alloc (Nat.le_refl _) _).alloc (by simp) _⟩
  · have d0 : (p + c == p2) = false := by simp; omega
    have hr : joinsB ⟨p, c, o, r, g⟩ ⟨p2, c2, o2, r2, g2⟩ = false := decide_eq_false (by dsimp only; first | omega | (intro hh; exact h0 hh.2.2.2.symm))
    rw [hr]
    clear hr h0
    go_enter Try.func125, Try.ntmps125
    go_wp2_with fail
    go_ret
    exact ⟨rfl, ((Below.refl _ _).alloc (Nat.le_refl _) _).alloc (by simp) _⟩

theorem l4Joins_any (p c o r : Int) (g : Bool) (p2 c2 o2 r2 : Int) (g2 : Bool) (w : World) (hk : spanOk ⟨p, c, o, r, g⟩ = true) :
    Calls Try.prog 125 #[.agg #[.int .i64 p, .int .i64 c, .int .i64 o, .int .i64 r, .bool g], .agg #[.int .i64 p2, .int .i64 c2, .int .i64 o2, .int .i64 r2, .bool g2]] w fun e w' => e = .returned (.bool (joinsB ⟨p, c, o, r, g⟩ ⟨p2, c2, o2, r2, g2⟩)) ∧ Below w.heap.size w w' := by
  rw [spanOk_iff] at hk
  obtain ⟨k1, k2, k3, k4, k5, k6, k7⟩ := hk
  dsimp only at k1 k2 k3 k4 k5 k6 k7
  exact l4JoinsW_any p c o r g p2 c2 o2 r2 g2 w (by omega) (by omega) (by omega) (by omega) (by omega) (by omega)

set_option maxHeartbeats 2000000 in
theorem joins_any (p c o r : Int) (g : Bool) (p2 c2 o2 r2 : Int) (g2 : Bool) (w : World) (hk : spanOk ⟨p, c, o, r, g⟩ = true) :
    Calls Try.prog 67 #[.agg #[.int .i64 p, .int .i64 c, .int .i64 o, .int .i64 r, .bool g], .agg #[.int .i64 p2, .int .i64 c2, .int .i64 o2, .int .i64 r2, .bool g2]] w fun e w' => e = .returned (.bool (joinsB ⟨p, c, o, r, g⟩ ⟨p2, c2, o2, r2, g2⟩)) ∧ Below w.heap.size w w' := by
  rw [spanOk_iff] at hk
  obtain ⟨k1, k2, k3, k4, k5, k6, k7⟩ := hk
  dsimp only at k1 k2 k3 k4 k5 k6 k7
  have hse := spanEnd_any p c o r g (by omega) (by omega) (by omega) (by omega)
  have hwr : IntKind.i64.wrap (o + c) = o + c := by rw [IntKind.wrap_i64]; omega
  by_cases h0 : p2 = p + c
  · subst h0
    by_cases h1 : o2 = o + c
    · subst h1
      by_cases h2 : r = r2
      · subst h2
        by_cases h3 : g = g2
        · subst h3
          have d1w : (o + c == IntKind.i64.wrap (o + c)) = true := by rw [hwr]; simp
          have hr : joinsB ⟨p, c, o, r, g⟩ ⟨(p + c), c2, (o + c), r, g⟩ = true := decide_eq_true (by dsimp only; exact ⟨rfl, rfl, rfl, rfl⟩)
          rw [hr]
          clear hr
          obtain ⟨wb, hwb⟩ : ∃ wb, wb = (w.alloc (.cells #[.int .i64 p, .int .i64 c, .int .i64 o, .int .i64 r, .bool g] 125)).alloc (.cells #[.int .i64 ((p + c)), .int .i64 c2, .int .i64 ((o + c)), .int .i64 r, .bool g] 125) := ⟨_, rfl⟩
          have hbb : Below w.heap.size w wb := by rw [hwb]; exact ((Below.refl _ _).alloc (Nat.le_refl _) _).alloc (by simp) _
          have hzb : wb.heap.size = w.heap.size + 2 := by rw [hwb]; simp
          have HK : Hid (∀ wX, Below wb.heap.size wb wX → wX.cell? ⟨w.heap.size, 0, none⟩ = some (.int .i64 p) ∧ wX.cell? ⟨w.heap.size, 1, none⟩ = some (.int .i64 c) ∧ wX.cell? ⟨w.heap.size, 2, none⟩ = some (.int .i64 o) ∧ wX.cell? ⟨w.heap.size, 3, none⟩ = some (.int .i64 r) ∧ wX.cell? ⟨w.heap.size, 4, none⟩ = some (.bool g) ∧ wX.cell? ⟨w.heap.size + 1, 0, none⟩ = some (.int .i64 (p + c)) ∧ wX.cell? ⟨w.heap.size + 1, 1, none⟩ = some (.int .i64 c2) ∧ wX.cell? ⟨w.heap.size + 1, 2, none⟩ = some (.int .i64 (o + c)) ∧ wX.cell? ⟨w.heap.size + 1, 3, none⟩ = some (.int .i64 r) ∧ wX.cell? ⟨w.heap.size + 1, 4, none⟩ = some (.bool g)) := fun wX hX => by
            refine ⟨?_, ?_, ?_, ?_, ?_, ?_, ?_, ?_, ?_, ?_⟩
            iterate 10 (exact (hX.cell (by simp; omega)).trans (by rw [hwb]; simp [go_sem]))
          have HWB : Hid (wb = _) := hwb
          have HBB : Hid (Below _ w wb) := hbb
          have HZ : Hid (wb.heap.size = _) := hzb
          clear hwb hbb hzb
          go_enter Try.func67, Try.ntmps67
          go_wp2_with fail
          rw [← HWB.out]
          refine wp_region_held_drew (S := (fun wX => wX.cell? ⟨w.heap.size, 0, none⟩ = some (.int .i64 p) ∧ wX.cell? ⟨w.heap.size, 1, none⟩ = some (.int .i64 c) ∧ wX.cell? ⟨w.heap.size, 2, none⟩ = some (.int .i64 o) ∧ wX.cell? ⟨w.heap.size, 3, none⟩ = some (.int .i64 r) ∧ wX.cell? ⟨w.heap.size, 4, none⟩ = some (.bool g) ∧ wX.cell? ⟨w.heap.size + 1, 0, none⟩ = some (.int .i64 (p + c)) ∧ wX.cell? ⟨w.heap.size + 1, 1, none⟩ = some (.int .i64 c2) ∧ wX.cell? ⟨w.heap.size + 1, 2, none⟩ = some (.int .i64 (o + c)) ∧ wX.cell? ⟨w.heap.size + 1, 3, none⟩ = some (.int .i64 r) ∧ wX.cell? ⟨w.heap.size + 1, 4, none⟩ = some (.bool g))) (by kernel_rfl) (HK.out _ ((Below.refl _ _).drew)) (fun hHeld => ?_)
          refine tk 0 ?_
          refine tk 1 ?_
          refine tk 2 ?_
          refine wpAnyH_ready (rs := [3]) (by kernel_rfl) (by simp) ?_
          refine AllReadyH.cons rfl (fun K hK => ?_) AllReadyH.nil
          go_simp
          go_at_call 66
          refine (hse _).mono ?_
          rintro e w1 ⟨rfl, hb1⟩
          go_wp2_with fail
          refine hK.out _ _ (by refine HK.out _ ?_; exact (Below.refl _ _).drew.trans (hb1.mono (by simp))) (fun hHeld2 => ?_)
          clear hK K
          refine tk 4 ?_
          refine tk 5 ?_
          refine tk 6 ?_
          refine tk 7 ?_
          refine tk 8 ?_
          refine tk 9 ?_
          refine tk 10 ?_
          refine tk 11 ?_
          refine tk 12 ?_
          refine tk 13 ?_
          refine tk 14 ?_
          refine tk 15 ?_
          refine tk 16 ?_
          refine tk 17 ?_
          refine tk 18 ?_
          refine tk 19 ?_
          refine tk 20 ?_
          refine tk 21 ?_
          refine tk 22 ?_
          refine tk 23 ?_
          refine tk 24 ?_
          refine tk 25 ?_
          refine tk 26 ?_
          refine tk 27 ?_
          refine tk 28 ?_
          refine tk 29 ?_
          refine wpAnyH_done (by kernel_rfl) ?_ _
          go_wp2_with fail
          go_ret
          refine ⟨rfl, HBB.out.trans (Below.mono ?_ (by have := HZ.out; omega : w.heap.size ≤ wb.heap.size))⟩
          exact (Below.refl _ _).drew.trans (hb1.mono (by simp))
        · have d3 : (g2 == g) = false := by cases g <;> cases g2 <;> simp_all
          have hr : joinsB ⟨p, c, o, r, g⟩ ⟨(p + c), c2, (o + c), r, g2⟩ = false := decide_eq_false (by dsimp only; first | omega | (intro hh; exact h3 hh.2.2.2.symm))
          rw [hr]
          clear hr h3
          obtain ⟨wb, hwb⟩ : ∃ wb, wb = (w.alloc (.cells #[.int .i64 p, .int .i64 c, .int .i64 o, .int .i64 r, .bool g] 125)).alloc (.cells #[.int .i64 ((p + c)), .int .i64 c2, .int .i64 ((o + c)), .int .i64 r, .bool g2] 125) := ⟨_, rfl⟩
          have hbb : Below w.heap.size w wb := by rw [hwb]; exact ((Below.refl _ _).alloc (Nat.le_refl _) _).alloc (by simp) _
          have hzb : wb.heap.size = w.heap.size + 2 := by rw [hwb]; simp
          have HK : Hid (∀ wX, Below wb.heap.size wb wX → wX.cell? ⟨w.heap.size, 0, none⟩ = some (.int .i64 p) ∧ wX.cell? ⟨w.heap.size, 1, none⟩ = some (.int .i64 c) ∧ wX.cell? ⟨w.heap.size, 2, none⟩ = some (.int .i64 o) ∧ wX.cell? ⟨w.heap.size, 3, none⟩ = some (.int .i64 r) ∧ wX.cell? ⟨w.heap.size, 4, none⟩ = some (.bool g) ∧ wX.cell? ⟨w.heap.size + 1, 0, none⟩ = some (.int .i64 (p + c)) ∧ wX.cell? ⟨w.heap.size + 1, 1, none⟩ = some (.int .i64 c2) ∧ wX.cell? ⟨w.heap.size + 1, 2, none⟩ = some (.int .i64 (o + c)) ∧ wX.cell? ⟨w.heap.size + 1, 3, none⟩ = some (.int .i64 r) ∧ wX.cell? ⟨w.heap.size + 1, 4, none⟩ = some (.bool g2)) := fun wX hX => by
            refine ⟨?_, ?_, ?_, ?_, ?_, ?_, ?_, ?_, ?_, ?_⟩
            iterate 10 (exact (hX.cell (by simp; omega)).trans (by rw [hwb]; simp [go_sem]))
          have HWB : Hid (wb = _) := hwb
          have HBB : Hid (Below _ w wb) := hbb
          have HZ : Hid (wb.heap.size = _) := hzb
          clear hwb hbb hzb
          go_enter Try.func67, Try.ntmps67
          go_wp2_with fail
          rw [← HWB.out]
          refine wp_region_held_drew (S := (fun wX => wX.cell? ⟨w.heap.size, 0, none⟩ = some (.int .i64 p) ∧ wX.cell? ⟨w.heap.size, 1, none⟩ = some (.int .i64 c) ∧ wX.cell? ⟨w.heap.size, 2, none⟩ = some (.int .i64 o) ∧ wX.cell? ⟨w.heap.size, 3, none⟩ = some (.int .i64 r) ∧ wX.cell? ⟨w.heap.size, 4, none⟩ = some (.bool g) ∧ wX.cell? ⟨w.heap.size + 1, 0, none⟩ = some (.int .i64 (p + c)) ∧ wX.cell? ⟨w.heap.size + 1, 1, none⟩ = some (.int .i64 c2) ∧ wX.cell? ⟨w.heap.size + 1, 2, none⟩ = some (.int .i64 (o + c)) ∧ wX.cell? ⟨w.heap.size + 1, 3, none⟩ = some (.int .i64 r) ∧ wX.cell? ⟨w.heap.size + 1, 4, none⟩ = some (.bool g2))) (by kernel_rfl) (HK.out _ ((Below.refl _ _).drew)) (fun hHeld => ?_)
          refine tk 0 ?_
          refine tk 1 ?_
          refine tk 2 ?_
          refine wpAnyH_ready (rs := [3]) (by kernel_rfl) (by simp) ?_
          refine AllReadyH.cons rfl (fun K hK => ?_) AllReadyH.nil
          go_simp
          go_at_call 66
          refine (hse _).mono ?_
          rintro e w1 ⟨rfl, hb1⟩
          go_wp2_with fail
          refine hK.out _ _ (by refine HK.out _ ?_; exact (Below.refl _ _).drew.trans (hb1.mono (by simp))) (fun hHeld2 => ?_)
          clear hK K
          refine tk 4 ?_
          refine tk 5 ?_
          refine tk 6 ?_
          refine tk 7 ?_
          refine tk 8 ?_
          refine tk 9 ?_
          refine tk 10 ?_
          refine tk 11 ?_
          refine tk 12 ?_
          refine tk 13 ?_
          refine tk 14 ?_
          refine tk 15 ?_
          refine tk 16 ?_
          refine tk 17 ?_
          refine tk 18 ?_
          refine tk 19 ?_
          refine tk 20 ?_
          refine tk 21 ?_
          refine tk 22 ?_
          refine tk 23 ?_
          refine tk 24 ?_
          refine tk 25 ?_
          refine tk 26 ?_
          refine tk 27 ?_
          refine tk 28 ?_
          refine tk 29 ?_
          refine wpAnyH_done (by kernel_rfl) ?_ _
          go_wp2_with fail
          go_ret
          refine ⟨rfl, HBB.out.trans (Below.mono ?_ (by have := HZ.out; omega : w.heap.size ≤ wb.heap.size))⟩
          exact (Below.refl _ _).drew.trans (hb1.mono (by simp))
      · have d2 : (r2 == r) = false := by simp; omega
        have hr : joinsB ⟨p, c, o, r, g⟩ ⟨(p + c), c2, (o + c), r2, g2⟩ = false := decide_eq_false (by dsimp only; first | omega | (intro hh; exact h2 hh.2.2.2.symm))
        rw [hr]
        clear hr h2
        obtain ⟨wb, hwb⟩ : ∃ wb, wb = (w.alloc (.cells #[.int .i64 p, .int .i64 c, .int .i64 o, .int .i64 r, .bool g] 125)).alloc (.cells #[.int .i64 ((p + c)), .int .i64 c2, .int .i64 ((o + c)), .int .i64 r2, .bool g2] 125) := ⟨_, rfl⟩
        have hbb : Below w.heap.size w wb := by rw [hwb]; exact ((Below.refl _ _).alloc (Nat.le_refl _) _).alloc (by simp) _
        have hzb : wb.heap.size = w.heap.size + 2 := by rw [hwb]; simp
        have HK : Hid (∀ wX, Below wb.heap.size wb wX → wX.cell? ⟨w.heap.size, 0, none⟩ = some (.int .i64 p) ∧ wX.cell? ⟨w.heap.size, 1, none⟩ = some (.int .i64 c) ∧ wX.cell? ⟨w.heap.size, 2, none⟩ = some (.int .i64 o) ∧ wX.cell? ⟨w.heap.size, 3, none⟩ = some (.int .i64 r) ∧ wX.cell? ⟨w.heap.size, 4, none⟩ = some (.bool g) ∧ wX.cell? ⟨w.heap.size + 1, 0, none⟩ = some (.int .i64 (p + c)) ∧ wX.cell? ⟨w.heap.size + 1, 1, none⟩ = some (.int .i64 c2) ∧ wX.cell? ⟨w.heap.size + 1, 2, none⟩ = some (.int .i64 (o + c)) ∧ wX.cell? ⟨w.heap.size + 1, 3, none⟩ = some (.int .i64 r2) ∧ wX.cell? ⟨w.heap.size + 1, 4, none⟩ = some (.bool g2)) := fun wX hX => by
          refine ⟨?_, ?_, ?_, ?_, ?_, ?_, ?_, ?_, ?_, ?_⟩
          iterate 10 (exact (hX.cell (by simp; omega)).trans (by rw [hwb]; simp [go_sem]))
        have HWB : Hid (wb = _) := hwb
        have HBB : Hid (Below _ w wb) := hbb
        have HZ : Hid (wb.heap.size = _) := hzb
        clear hwb hbb hzb
        go_enter Try.func67, Try.ntmps67
        go_wp2_with fail
        rw [← HWB.out]
        refine wp_region_held_drew (S := (fun wX => wX.cell? ⟨w.heap.size, 0, none⟩ = some (.int .i64 p) ∧ wX.cell? ⟨w.heap.size, 1, none⟩ = some (.int .i64 c) ∧ wX.cell? ⟨w.heap.size, 2, none⟩ = some (.int .i64 o) ∧ wX.cell? ⟨w.heap.size, 3, none⟩ = some (.int .i64 r) ∧ wX.cell? ⟨w.heap.size, 4, none⟩ = some (.bool g) ∧ wX.cell? ⟨w.heap.size + 1, 0, none⟩ = some (.int .i64 (p + c)) ∧ wX.cell? ⟨w.heap.size + 1, 1, none⟩ = some (.int .i64 c2) ∧ wX.cell? ⟨w.heap.size + 1, 2, none⟩ = some (.int .i64 (o + c)) ∧ wX.cell? ⟨w.heap.size + 1, 3, none⟩ = some (.int .i64 r2) ∧ wX.cell? ⟨w.heap.size + 1, 4, none⟩ = some (.bool g2))) (by kernel_rfl) (HK.out _ ((Below.refl _ _).drew)) (fun hHeld => ?_)
        refine tk 0 ?_
        refine tk 1 ?_
        refine tk 2 ?_
        refine wpAnyH_ready (rs := [3]) (by kernel_rfl) (by simp) ?_
        refine AllReadyH.cons rfl (fun K hK => ?_) AllReadyH.nil
        go_simp
        go_at_call 66
        refine (hse _).mono ?_
        rintro e w1 ⟨rfl, hb1⟩
        go_wp2_with fail
        refine hK.out _ _ (by refine HK.out _ ?_; exact (Below.refl _ _).drew.trans (hb1.mono (by simp))) (fun hHeld2 => ?_)
        clear hK K
        refine tk 4 ?_
        refine tk 5 ?_
        refine tk 6 ?_
        refine tk 7 ?_
        refine tk 8 ?_
        refine tk 9 ?_
        refine tk 10 ?_
        refine tk 11 ?_
        refine tk 12 ?_
        refine tk 13 ?_
        refine tk 14 ?_
        refine tk 15 ?_
        refine tk 16 ?_
        refine tk 17 ?_
        refine tk 18 ?_
        refine tk 19 ?_
        refine tk 20 ?_
        refine tk 21 ?_
        refine tk 22 ?_
        refine sk 23 ?_
        refine sk 24 ?_
        refine sk 25 ?_
        refine sk 26 ?_
        refine sk 27 ?_
        refine tk 28 ?_
        refine tk 29 ?_
        refine wpAnyH_done (by kernel_rfl) ?_ _
        go_wp2_with fail
        go_ret
        refine ⟨rfl, HBB.out.trans (Below.mono ?_ (by have := HZ.out; omega : w.heap.size ≤ wb.heap.size))⟩
        exact (Below.refl _ _).drew.trans (hb1.mono (by simp))
    · have d1 : (o2 == o + c) = false := by simp; omega
      have d1w : (o2 == IntKind.i64.wrap (o + c)) = false := by rw [hwr]; exact d1
      have hr : joinsB ⟨p, c, o, r, g⟩ ⟨(p + c), c2, o2, r2, g2⟩ = false := decide_eq_false (by dsimp only; first | omega | (intro hh; exact h1 hh.2.2.2.symm))
      rw [hr]
      clear hr h1
      obtain ⟨wb, hwb⟩ : ∃ wb, wb = (w.alloc (.cells #[.int .i64 p, .int .i64 c, .int .i64 o, .int .i64 r, .bool g] 125)).alloc (.cells #[.int .i64 ((p + c)), .int .i64 c2, .int .i64 (o2), .int .i64 r2, .bool g2] 125) := ⟨_, rfl⟩
      have hbb : Below w.heap.size w wb := by rw [hwb]; exact ((Below.refl _ _).alloc (Nat.le_refl _) _).alloc (by simp) _
      have hzb : wb.heap.size = w.heap.size + 2 := by rw [hwb]; simp
      have HK : Hid (∀ wX, Below wb.heap.size wb wX → wX.cell? ⟨w.heap.size, 0, none⟩ = some (.int .i64 p) ∧ wX.cell? ⟨w.heap.size, 1, none⟩ = some (.int .i64 c) ∧ wX.cell? ⟨w.heap.size, 2, none⟩ = some (.int .i64 o) ∧ wX.cell? ⟨w.heap.size, 3, none⟩ = some (.int .i64 r) ∧ wX.cell? ⟨w.heap.size, 4, none⟩ = some (.bool g) ∧ wX.cell? ⟨w.heap.size + 1, 0, none⟩ = some (.int .i64 (p + c)) ∧ wX.cell? ⟨w.heap.size + 1, 1, none⟩ = some (.int .i64 c2) ∧ wX.cell? ⟨w.heap.size + 1, 2, none⟩ = some (.int .i64 o2) ∧ wX.cell? ⟨w.heap.size + 1, 3, none⟩ = some (.int .i64 r2) ∧ wX.cell? ⟨w.heap.size + 1, 4, none⟩ = some (.bool g2)) := fun wX hX => by
        refine ⟨?_, ?_, ?_, ?_, ?_, ?_, ?_, ?_, ?_, ?_⟩
        iterate 10 (exact (hX.cell (by simp; omega)).trans (by rw [hwb]; simp [go_sem]))
      have HWB : Hid (wb = _) := hwb
      have HBB : Hid (Below _ w wb) := hbb
      have HZ : Hid (wb.heap.size = _) := hzb
      clear hwb hbb hzb
      go_enter Try.func67, Try.ntmps67
      go_wp2_with fail
      rw [← HWB.out]
      refine wp_region_held_drew (S := (fun wX => wX.cell? ⟨w.heap.size, 0, none⟩ = some (.int .i64 p) ∧ wX.cell? ⟨w.heap.size, 1, none⟩ = some (.int .i64 c) ∧ wX.cell? ⟨w.heap.size, 2, none⟩ = some (.int .i64 o) ∧ wX.cell? ⟨w.heap.size, 3, none⟩ = some (.int .i64 r) ∧ wX.cell? ⟨w.heap.size, 4, none⟩ = some (.bool g) ∧ wX.cell? ⟨w.heap.size + 1, 0, none⟩ = some (.int .i64 (p + c)) ∧ wX.cell? ⟨w.heap.size + 1, 1, none⟩ = some (.int .i64 c2) ∧ wX.cell? ⟨w.heap.size + 1, 2, none⟩ = some (.int .i64 o2) ∧ wX.cell? ⟨w.heap.size + 1, 3, none⟩ = some (.int .i64 r2) ∧ wX.cell? ⟨w.heap.size + 1, 4, none⟩ = some (.bool g2))) (by kernel_rfl) (HK.out _ ((Below.refl _ _).drew)) (fun hHeld => ?_)
      refine tk 0 ?_
      refine tk 1 ?_
      refine tk 2 ?_
      refine wpAnyH_ready (rs := [3]) (by kernel_rfl) (by simp) ?_
      refine AllReadyH.cons rfl (fun K hK => ?_) AllReadyH.nil
      go_simp
      go_at_call 66
      refine (hse _).mono ?_
      rintro e w1 ⟨rfl, hb1⟩
      go_wp2_with fail
      refine hK.out _ _ (by refine HK.out _ ?_; exact (Below.refl _ _).drew.trans (hb1.mono (by simp))) (fun hHeld2 => ?_)
      clear hK K
      refine tk 4 ?_
      refine tk 5 ?_
      refine tk 6 ?_
      refine tk 7 ?_
      refine tk 8 ?_
      refine tk 9 ?_
      refine tk 10 ?_
      refine tk 11 ?_
      refine tk 12 ?_
      refine tk 13 ?_
      refine tk 14 ?_
      refine tk 15 ?_
      refine sk 16 ?_
      refine sk 17 ?_
      refine sk 18 ?_
      refine sk 19 ?_
      refine sk 20 ?_
      refine tk 21 ?_
      refine tk 22 ?_
      refine sk 23 ?_
      refine sk 24 ?_
      refine sk 25 ?_
      refine sk 26 ?_
      refine sk 27 ?_
      refine tk 28 ?_
      refine tk 29 ?_
      refine wpAnyH_done (by kernel_rfl) ?_ _
      go_wp2_with fail
      go_ret
      refine ⟨rfl, HBB.out.trans (Below.mono ?_ (by have := HZ.out; omega : w.heap.size ≤ wb.heap.size))⟩
      exact (Below.refl _ _).drew.trans (hb1.mono (by simp))
  · have d0 : (p2 == p + c) = false := by simp; omega
    have hr : joinsB ⟨p, c, o, r, g⟩ ⟨p2, c2, o2, r2, g2⟩ = false := decide_eq_false (by dsimp only; first | omega | (intro hh; exact h0 hh.2.2.2.symm))
    rw [hr]
    clear hr h0
    obtain ⟨wb, hwb⟩ : ∃ wb, wb = (w.alloc (.cells #[.int .i64 p, .int .i64 c, .int .i64 o, .int .i64 r, .bool g] 125)).alloc (.cells #[.int .i64 (p2), .int .i64 c2, .int .i64 (o2), .int .i64 r2, .bool g2] 125) := ⟨_, rfl⟩
    have hbb : Below w.heap.size w wb := by rw [hwb]; exact ((Below.refl _ _).alloc (Nat.le_refl _) _).alloc (by simp) _
    have hzb : wb.heap.size = w.heap.size + 2 := by rw [hwb]; simp
    have HK : Hid (∀ wX, Below wb.heap.size wb wX → wX.cell? ⟨w.heap.size, 0, none⟩ = some (.int .i64 p) ∧ wX.cell? ⟨w.heap.size, 1, none⟩ = some (.int .i64 c) ∧ wX.cell? ⟨w.heap.size, 2, none⟩ = some (.int .i64 o) ∧ wX.cell? ⟨w.heap.size, 3, none⟩ = some (.int .i64 r) ∧ wX.cell? ⟨w.heap.size, 4, none⟩ = some (.bool g) ∧ wX.cell? ⟨w.heap.size + 1, 0, none⟩ = some (.int .i64 p2) ∧ wX.cell? ⟨w.heap.size + 1, 1, none⟩ = some (.int .i64 c2) ∧ wX.cell? ⟨w.heap.size + 1, 2, none⟩ = some (.int .i64 o2) ∧ wX.cell? ⟨w.heap.size + 1, 3, none⟩ = some (.int .i64 r2) ∧ wX.cell? ⟨w.heap.size + 1, 4, none⟩ = some (.bool g2)) := fun wX hX => by
      refine ⟨?_, ?_, ?_, ?_, ?_, ?_, ?_, ?_, ?_, ?_⟩
      iterate 10 (exact (hX.cell (by simp; omega)).trans (by rw [hwb]; simp [go_sem]))
    have HWB : Hid (wb = _) := hwb
    have HBB : Hid (Below _ w wb) := hbb
    have HZ : Hid (wb.heap.size = _) := hzb
    clear hwb hbb hzb
    go_enter Try.func67, Try.ntmps67
    go_wp2_with fail
    rw [← HWB.out]
    refine wp_region_held_drew (S := (fun wX => wX.cell? ⟨w.heap.size, 0, none⟩ = some (.int .i64 p) ∧ wX.cell? ⟨w.heap.size, 1, none⟩ = some (.int .i64 c) ∧ wX.cell? ⟨w.heap.size, 2, none⟩ = some (.int .i64 o) ∧ wX.cell? ⟨w.heap.size, 3, none⟩ = some (.int .i64 r) ∧ wX.cell? ⟨w.heap.size, 4, none⟩ = some (.bool g) ∧ wX.cell? ⟨w.heap.size + 1, 0, none⟩ = some (.int .i64 p2) ∧ wX.cell? ⟨w.heap.size + 1, 1, none⟩ = some (.int .i64 c2) ∧ wX.cell? ⟨w.heap.size + 1, 2, none⟩ = some (.int .i64 o2) ∧ wX.cell? ⟨w.heap.size + 1, 3, none⟩ = some (.int .i64 r2) ∧ wX.cell? ⟨w.heap.size + 1, 4, none⟩ = some (.bool g2))) (by kernel_rfl) (HK.out _ ((Below.refl _ _).drew)) (fun hHeld => ?_)
    refine tk 0 ?_
    refine tk 1 ?_
    refine tk 2 ?_
    refine wpAnyH_ready (rs := [3]) (by kernel_rfl) (by simp) ?_
    refine AllReadyH.cons rfl (fun K hK => ?_) AllReadyH.nil
    go_simp
    go_at_call 66
    refine (hse _).mono ?_
    rintro e w1 ⟨rfl, hb1⟩
    go_wp2_with fail
    refine hK.out _ _ (by refine HK.out _ ?_; exact (Below.refl _ _).drew.trans (hb1.mono (by simp))) (fun hHeld2 => ?_)
    clear hK K
    refine tk 4 ?_
    refine tk 5 ?_
    refine sk 6 ?_
    refine sk 7 ?_
    refine sk 8 ?_
    refine sk 9 ?_
    refine sk 10 ?_
    refine sk 11 ?_
    refine sk 12 ?_
    refine sk 13 ?_
    refine tk 14 ?_
    refine tk 15 ?_
    refine sk 16 ?_
    refine sk 17 ?_
    refine sk 18 ?_
    refine sk 19 ?_
    refine sk 20 ?_
    refine tk 21 ?_
    refine tk 22 ?_
    refine sk 23 ?_
    refine sk 24 ?_
    refine sk 25 ?_
    refine sk 26 ?_
    refine sk 27 ?_
    refine tk 28 ?_
    refine tk 29 ?_
    refine wpAnyH_done (by kernel_rfl) ?_ _
    go_wp2_with fail
    go_ret
    refine ⟨rfl, HBB.out.trans (Below.mono ?_ (by have := HZ.out; omega : w.heap.size ≤ wb.heap.size))⟩
    exact (Below.refl _ _).drew.trans (hb1.mono (by simp))
end Go.Proofs.Ytnmhkgmmpkjjeaa
