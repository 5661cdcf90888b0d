import Derived.Test.YtnmhkgmmpkjjeaaG51
import Derived.Test.YtnmhkgmmpkjjeaaG52
namespace Go.Proofs.Ytnmhkgmmpkjjeaa
open Go.ChangeShapes Go.WideShapes Go.ChangeAt Go.RowKit
set_option linter.unusedVariables false
attribute [local go_sem ↓] Go.wp_at_zero Go.wp_at_succ

theorem pgS_any (p : Int) (w : World) : Calls Try.prog 41 #[.int .i64 p] w fun e w' => e = .returned (.bool (decide (0 ≤ p ∧ p < 4096))) ∧ w' = w := by
  by_cases h0 : 0 ≤ p
  · by_cases h1 : p < 4096
    · have d1 : decide (p < 4096) = true := decide_eq_true h1
      rw [decide_eq_true ⟨h0, h1⟩]
      go_enter Try.func41, Try.ntmps41
      go_wp2_with fail
      go_ret
      exact ⟨rfl, rfl⟩
    · have d1 : decide (p < 4096) = false := decide_eq_false h1
      rw [decide_eq_false (fun h => h1 h.2)]
      go_enter Try.func41, Try.ntmps41
      go_wp2_with fail
      go_ret
      exact ⟨rfl, rfl⟩
  · have d0 : decide (0 ≤ p) = false := decide_eq_false h0
    rw [decide_eq_false (fun h => h0 h.1)]
    clear h0
    go_enter Try.func41, Try.ntmps41
    go_wp2_with fail
    go_ret
    exact ⟨rfl, rfl⟩

set_option maxHeartbeats 2000000 in
theorem specAt_any (a : Option Addr) (cap b : Nat) (xs : List SpanE) (page : Int) (w : World) (hn : xs.length ≤ 1048576) (hwf : ∀ i, i < xs.length → wfS (eAt eSpan xs i)) (h : ERow eSpan w b (.slice a xs.length cap) xs) :
    Calls Try.prog 23 #[.slice a xs.length cap, .int .i64 page] w fun e w' => e = .returned (.agg #[.int .i64 (atA xs page).k, .int .i64 (atA xs page).o, .int .i64 (atA xs page).p, .int .i64 (atA xs page).s]) ∧ Below w.heap.size w w' := by
  obtain ⟨wb, hwb⟩ : ∃ wb, wb = w.alloc (.cells #[.int .i64 0, .int .i64 0, .int .i64 0, .int .i64 0] 32) := ⟨_, rfl⟩
  have hbb : Below w.heap.size w wb := by rw [hwb]; exact (Below.refl _ _).alloc (Nat.le_refl _) _
  have hzb : wb.heap.size = w.heap.size + 1 := by rw [hwb]; simp
  have HRS : Hid (∀ wX, Below wb.heap.size wb wX → (wX.cell? ⟨w.heap.size, 0, none⟩ = some (.int .i64 0) ∧ wX.cell? ⟨w.heap.size, 1, none⟩ = some (.int .i64 0) ∧ wX.cell? ⟨w.heap.size, 2, none⟩ = some (.int .i64 0) ∧ wX.cell? ⟨w.heap.size, 3, none⟩ = some (.int .i64 0)) ∧ wX.frozen? ⟨w.heap.size, 0, none⟩ = false ∧ wX.frozen? ⟨w.heap.size, 1, none⟩ = false ∧ wX.frozen? ⟨w.heap.size, 2, none⟩ = false ∧ wX.frozen? ⟨w.heap.size, 3, none⟩ = false) := fun wX hX => by
    refine ⟨⟨?_, ?_, ?_, ?_⟩, ?_, ?_, ?_, ?_⟩
    iterate 4 (exact (hX.cell (by simp; omega)).trans (by rw [hwb]; simp [go_sem]))
    iterate 4 (exact (hX.frozen (by simp; omega)).trans (by rw [hwb]; simp [go_sem]))
  have hv := specVS_any a cap b xs wb hn hwf (h.below hbb)
  have hpk := pgS_any page
  have HAT : Hid (∀ wX, Below wb.heap.size wb wX → VS xs → 0 ≤ page → page < 4096 → Calls Try.prog 70 #[.slice a xs.length cap, .int .i64 page] wX fun e w' => e = .returned (.agg #[.int .i64 (atL xs page).k, .int .i64 (atL xs page).o, .int .i64 (atL xs page).p, .int .i64 (atL xs page).s]) ∧ Below wX.heap.size wX w') := fun wX hX h1 h2 h3 => l4At_any a cap b xs page wX hn h1 h2 h3 (h.below (hbb.trans (hX.mono (by omega))))
  rw [hwb] at hv
  have HWB : Hid (wb = _) := hwb
  have HBB : Hid (Below w.heap.size w wb) := hbb
  have HZ : Hid (wb.heap.size = w.heap.size + 1) := hzb
  clear h hwf hwb hbb hzb
  cases hvb : vsB xs <;> rw [hvb] at hv
  · have HA : Hid (atA xs page = zHt) := by unfold atA; rw [if_neg (by rw [hvb]; simp)]; rfl
    clear hvb hpk HAT
    go_enter Try.func23, Try.ntmps23
    go_wp2_with fail
    refine hv.mono ?_
    rintro e w1 ⟨rfl, hb1'⟩
    have hb1 : Below wb.heap.size wb w1 := by rw [HWB.out]; exact hb1'
    obtain ⟨⟨r0, r1, r2, r3⟩, f0, f1, f2, f3⟩ := HRS.out w1 hb1
    have N0 : w.heap.size < w1.heap.size := by have := hb1.size; have := HZ.out; omega
    have HB4 : Hid (Below w.heap.size w w1) := HBB.out.trans (hb1.mono (by have := HZ.out; omega))
    clear hb1 hb1' hv
    go_wp2_with fail
    refine bodyPost_ret (v := .agg #[.int .i64 0, .int .i64 0, .int .i64 0, .int .i64 0]) (by simp [results, Try.results23, go_sem, r0, r1, r2, r3]) rfl ⟨by rw [HA.out]; rfl, ?_⟩
    exact (((HB4.out.setCell (by simp) _).setCell (by simp) _).setCell (by simp) _).setCell (by simp) _
  · by_cases hp : 0 ≤ page ∧ page < 4096
    · have hvs := VS.of_true hvb
      have HA : Hid (atA xs page = atL xs page) := by unfold atA; rw [if_pos ⟨hvb, hp⟩]; rfl
      rw [decide_eq_true hp] at hpk
      obtain ⟨hp0, hp1⟩ := hp
      clear hvb
      go_enter Try.func23, Try.ntmps23
      go_wp2_with fail
      refine hv.mono ?_
      rintro e w1 ⟨rfl, hb1'⟩
      have hb1 : Below wb.heap.size wb w1 := by rw [HWB.out]; exact hb1'
      clear hb1' hv
      go_wp2_with (go_at_call 41; refine (hpk _).mono ?_; rintro e w2 ⟨rfl, hw2⟩; obtain rfl := hw2.symm)
      refine (HAT.out _ hb1 hvs hp0 hp1).mono ?_
      rintro e w3 ⟨rfl, hb3⟩
      have b3 : Below wb.heap.size wb w3 := hb1.trans (hb3.mono hb1.size)
      obtain ⟨⟨r0, r1, r2, r3⟩, f0, f1, f2, f3⟩ := HRS.out w3 b3
      have N0 : w.heap.size < w3.heap.size := by have := b3.size; have := HZ.out; omega
      have HB4 : Hid (Below w.heap.size w w3) := HBB.out.trans (b3.mono (by have := HZ.out; omega))
      clear hb1 hb3 b3 hvs
      go_wp2_with fail
      refine bodyPost_ret (v := .agg #[.int .i64 (atL xs page).k, .int .i64 (atL xs page).o, .int .i64 (atL xs page).p, .int .i64 (atL xs page).s]) (by simp [results, Try.results23, go_sem, r0, r1, r2, r3]) rfl ⟨by rw [HA.out], ?_⟩
      exact (((HB4.out.setCell (by simp) _).setCell (by simp) _).setCell (by simp) _).setCell (by simp) _
    · have HA : Hid (atA xs page = zHt) := by unfold atA; rw [if_neg (fun h => hp h.2)]; rfl
      rw [decide_eq_false hp] at hpk
      clear hvb HAT hp
      go_enter Try.func23, Try.ntmps23
      go_wp2_with fail
      refine hv.mono ?_
      rintro e w1 ⟨rfl, hb1'⟩
      have hb1 : Below wb.heap.size wb w1 := by rw [HWB.out]; exact hb1'
      obtain ⟨⟨r0, r1, r2, r3⟩, f0, f1, f2, f3⟩ := HRS.out w1 hb1
      have N0 : w.heap.size < w1.heap.size := by have := hb1.size; have := HZ.out; omega
      have HB4 : Hid (Below w.heap.size w w1) := HBB.out.trans (hb1.mono (by have := HZ.out; omega))
      clear hb1 hb1' hv
      go_wp2_with (go_at_call 41; refine (hpk _).mono ?_; rintro e w2 ⟨rfl, hw2⟩; obtain rfl := hw2.symm)
      refine bodyPost_ret (v := .agg #[.int .i64 0, .int .i64 0, .int .i64 0, .int .i64 0]) (by simp [results, Try.results23, go_sem, r0, r1, r2, r3]) rfl ⟨by rw [HA.out]; rfl, ?_⟩
      exact (((HB4.out.setCell (by simp) _).setCell (by simp) _).setCell (by simp) _).setCell (by simp) _

theorem pgI_any (p : Int) (w : World) : Calls Try.prog 44 #[.int .i64 p] w fun e w' => e = .returned (.bool (decide (0 ≤ p ∧ p < 4096))) ∧ w' = w := by
  by_cases h0 : 0 ≤ p
  · by_cases h1 : p < 4096
    · have d1 : decide (p < 4096) = true := decide_eq_true h1
      rw [decide_eq_true ⟨h0, h1⟩]
      go_enter Try.func44, Try.ntmps44
      go_wp2_with fail
      go_ret
      exact ⟨rfl, rfl⟩
    · have d1 : decide (p < 4096) = false := decide_eq_false h1
      rw [decide_eq_false (fun h => h1 h.2)]
      go_enter Try.func44, Try.ntmps44
      go_wp2_with fail
      go_ret
      exact ⟨rfl, rfl⟩
  · have d0 : decide (0 ≤ p) = false := decide_eq_false h0
    rw [decide_eq_false (fun h => h0 h.1)]
    clear h0
    go_enter Try.func44, Try.ntmps44
    go_wp2_with fail
    go_ret
    exact ⟨rfl, rfl⟩

set_option maxHeartbeats 2000000 in
theorem implAt_any (a : Option Addr) (cap b : Nat) (xs : List SpanE) (page : Int) (w : World) (hn : xs.length ≤ 1048576) (hwf : ∀ i, i < xs.length → wfS (eAt eSpan xs i)) (h : ERow eSpan w b (.slice a xs.length cap) xs) :
    Calls Try.prog 22 #[.slice a xs.length cap, .int .i64 page] w fun e w' => e = .returned (.agg #[.int .i64 (atA xs page).k, .int .i64 (atA xs page).o, .int .i64 (atA xs page).p, .int .i64 (atA xs page).s]) ∧ Below w.heap.size w w' := by
  obtain ⟨wb, hwb⟩ : ∃ wb, wb = w.alloc (.cells #[.int .i64 0, .int .i64 0, .int .i64 0, .int .i64 0] 32) := ⟨_, rfl⟩
  have hbb : Below w.heap.size w wb := by rw [hwb]; exact (Below.refl _ _).alloc (Nat.le_refl _) _
  have hzb : wb.heap.size = w.heap.size + 1 := by rw [hwb]; simp
  have HRS : Hid (∀ wX, Below wb.heap.size wb wX → (wX.cell? ⟨w.heap.size, 0, none⟩ = some (.int .i64 0) ∧ wX.cell? ⟨w.heap.size, 1, none⟩ = some (.int .i64 0) ∧ wX.cell? ⟨w.heap.size, 2, none⟩ = some (.int .i64 0) ∧ wX.cell? ⟨w.heap.size, 3, none⟩ = some (.int .i64 0)) ∧ wX.frozen? ⟨w.heap.size, 0, none⟩ = false ∧ wX.frozen? ⟨w.heap.size, 1, none⟩ = false ∧ wX.frozen? ⟨w.heap.size, 2, none⟩ = false ∧ wX.frozen? ⟨w.heap.size, 3, none⟩ = false) := fun wX hX => by
    refine ⟨⟨?_, ?_, ?_, ?_⟩, ?_, ?_, ?_, ?_⟩
    iterate 4 (exact (hX.cell (by simp; omega)).trans (by rw [hwb]; simp [go_sem]))
    iterate 4 (exact (hX.frozen (by simp; omega)).trans (by rw [hwb]; simp [go_sem]))
  have hv := implVS_any a cap b xs wb hn hwf (h.below hbb)
  have hpk := pgI_any page
  have HAT : Hid (∀ wX, Below wb.heap.size wb wX → VS xs → 0 ≤ page → page < 4096 → Calls Try.prog 68 #[.slice a xs.length cap, .int .i64 page] wX fun e w' => e = .returned (.agg #[.int .i64 (atL xs page).k, .int .i64 (atL xs page).o, .int .i64 (atL xs page).p, .int .i64 (atL xs page).s]) ∧ Below wX.heap.size wX w') := fun wX hX h1 h2 h3 => hitAt_any a cap b xs page wX hn h1 h2 h3 (h.below (hbb.trans (hX.mono (by omega))))
  rw [hwb] at hv
  have HWB : Hid (wb = _) := hwb
  have HBB : Hid (Below w.heap.size w wb) := hbb
  have HZ : Hid (wb.heap.size = w.heap.size + 1) := hzb
  clear h hwf hwb hbb hzb
  cases hvb : vsB xs <;> rw [hvb] at hv
  · have HA : Hid (atA xs page = zHt) := by unfold atA; rw [if_neg (by rw [hvb]; simp)]; rfl
    clear hvb hpk HAT
    go_enter Try.func22, Try.ntmps22
    go_wp2_with fail
    refine hv.mono ?_
    rintro e w1 ⟨rfl, hb1'⟩
    have hb1 : Below wb.heap.size wb w1 := by rw [HWB.out]; exact hb1'
    obtain ⟨⟨r0, r1, r2, r3⟩, f0, f1, f2, f3⟩ := HRS.out w1 hb1
    have N0 : w.heap.size < w1.heap.size := by have := hb1.size; have := HZ.out; omega
    have HB4 : Hid (Below w.heap.size w w1) := HBB.out.trans (hb1.mono (by have := HZ.out; omega))
    clear hb1 hb1' hv
    go_wp2_with fail
    refine bodyPost_ret (v := .agg #[.int .i64 0, .int .i64 0, .int .i64 0, .int .i64 0]) (by simp [results, Try.results22, go_sem, r0, r1, r2, r3]) rfl ⟨by rw [HA.out]; rfl, ?_⟩
    exact (((HB4.out.setCell (by simp) _).setCell (by simp) _).setCell (by simp) _).setCell (by simp) _
  · by_cases hp : 0 ≤ page ∧ page < 4096
    · have hvs := VS.of_true hvb
      have HA : Hid (atA xs page = atL xs page) := by unfold atA; rw [if_pos ⟨hvb, hp⟩]; rfl
      rw [decide_eq_true hp] at hpk
      obtain ⟨hp0, hp1⟩ := hp
      clear hvb
      go_enter Try.func22, Try.ntmps22
      go_wp2_with fail
      refine hv.mono ?_
      rintro e w1 ⟨rfl, hb1'⟩
      have hb1 : Below wb.heap.size wb w1 := by rw [HWB.out]; exact hb1'
      clear hb1' hv
      go_wp2_with (go_at_call 44; refine (hpk _).mono ?_; rintro e w2 ⟨rfl, hw2⟩; obtain rfl := hw2.symm)
      refine (HAT.out _ hb1 hvs hp0 hp1).mono ?_
      rintro e w3 ⟨rfl, hb3⟩
      have b3 : Below wb.heap.size wb w3 := hb1.trans (hb3.mono hb1.size)
      obtain ⟨⟨r0, r1, r2, r3⟩, f0, f1, f2, f3⟩ := HRS.out w3 b3
      have N0 : w.heap.size < w3.heap.size := by have := b3.size; have := HZ.out; omega
      have HB4 : Hid (Below w.heap.size w w3) := HBB.out.trans (b3.mono (by have := HZ.out; omega))
      clear hb1 hb3 b3 hvs
      go_wp2_with fail
      refine bodyPost_ret (v := .agg #[.int .i64 (atL xs page).k, .int .i64 (atL xs page).o, .int .i64 (atL xs page).p, .int .i64 (atL xs page).s]) (by simp [results, Try.results22, go_sem, r0, r1, r2, r3]) rfl ⟨by rw [HA.out], ?_⟩
      exact (((HB4.out.setCell (by simp) _).setCell (by simp) _).setCell (by simp) _).setCell (by simp) _
    · have HA : Hid (atA xs page = zHt) := by unfold atA; rw [if_neg (fun h => hp h.2)]; rfl
      rw [decide_eq_false hp] at hpk
      clear hvb HAT hp
      go_enter Try.func22, Try.ntmps22
      go_wp2_with fail
      refine hv.mono ?_
      rintro e w1 ⟨rfl, hb1'⟩
      have hb1 : Below wb.heap.size wb w1 := by rw [HWB.out]; exact hb1'
      obtain ⟨⟨r0, r1, r2, r3⟩, f0, f1, f2, f3⟩ := HRS.out w1 hb1
      have N0 : w.heap.size < w1.heap.size := by have := hb1.size; have := HZ.out; omega
      have HB4 : Hid (Below w.heap.size w w1) := HBB.out.trans (hb1.mono (by have := HZ.out; omega))
      clear hb1 hb1' hv
      go_wp2_with (go_at_call 44; refine (hpk _).mono ?_; rintro e w2 ⟨rfl, hw2⟩; obtain rfl := hw2.symm)
      refine bodyPost_ret (v := .agg #[.int .i64 0, .int .i64 0, .int .i64 0, .int .i64 0]) (by simp [results, Try.results22, go_sem, r0, r1, r2, r3]) rfl ⟨by rw [HA.out]; rfl, ?_⟩
      exact (((HB4.out.setCell (by simp) _).setCell (by simp) _).setCell (by simp) _).setCell (by simp) _
end Go.Proofs.Ytnmhkgmmpkjjeaa
