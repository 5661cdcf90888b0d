import Derived.Test.YtnmhkgmmpkjjeabTnS
import Derived.Test.YtnmhkgmmpkjjeabIAdd
namespace Go.Proofs.Ytnmhkgmmpkjjeab
open Go.ChangeShapes Go.WideShapes Go.ChangeAt Go.RowKit
set_option linter.unusedVariables false
set_option maxRecDepth 100000
attribute [local go_sem ↓] Go.wp_at_zero Go.wp_at_succ

def eSeat : Elt (Nat × Nat) := ⟨213, 2, fun x => [.int .i64 x.1, .int .i64 x.2], (0, 0), by omega, fun _ => rfl⟩
theorem infoSeat : (Try.prog.info? 213).map (fun i => (i.zero, i.size, i.bytes)) = some (some (.agg #[.int .i64 0, .int .i64 0]), 2, 16) := by kernel_rfl
/-- A layout in memory. -/
structure LayIs (w : World) (g : Nat) (H : Nat → Ht) : Prop where
  lt : g < w.heap.size
  cells : ∀ p, p < 4096 → w.cell? ⟨g, p * 4, none⟩ = some (.int .i64 (H p).k) ∧ w.cell? ⟨g, p * 4 + 1, none⟩ = some (.int .i64 (H p).o) ∧ w.cell? ⟨g, p * 4 + 2, none⟩ = some (.int .i64 (H p).p) ∧ w.cell? ⟨g, p * 4 + 3, none⟩ = some (.int .i64 (H p).s)
theorem LayIs.of_block {w w' : World} {g : Nat} {H : Nat → Ht} (h : LayIs w g H) (hs : w.heap.size ≤ w'.heap.size) (hb : w'.heap[g]? = w.heap[g]?) : LayIs w' g H :=
  ⟨Nat.lt_of_lt_of_le h.lt hs, fun p hp => ⟨(cob hb).trans (h.cells p hp).1, (cob hb).trans (h.cells p hp).2.1, (cob hb).trans (h.cells p hp).2.2.1, (cob hb).trans (h.cells p hp).2.2.2⟩⟩
theorem LayIs.below {w w' : World} {g : Nat} {H : Nat → Ht} (h : LayIs w g H) (hb : Below w.heap.size w w') : LayIs w' g H := h.of_block hb.size (hb.block g h.lt)

set_option maxHeartbeats 2000000 in
theorem seatBelow_any (l p i : Int) (hl1 : 1 ≤ l) (hl2 : l ≤ 3) (hp0 : 0 ≤ p) (hp1 : p ≤ 8192) (hi0 : 0 ≤ i) (hi1 : i ≤ 16) (w : World) :
    Calls Try.prog 196 #[.agg #[.int .i64 l, .int .i64 p], .int .i64 i] w fun e w' => e = .returned (.agg #[.int .i64 (l + 1), .int .i64 (p + i * cov l)]) ∧ Below w.heap.size w w' := by
  obtain ⟨wb, hwb⟩ : ∃ wb, wb = (w.alloc (.cells #[.int .i64 l, .int .i64 p] 213)).alloc (.cells #[.int .i64 0, .int .i64 0] 213) := ⟨_, rfl⟩
  have hbb : Below w.heap.size w wb := by rw [hwb]; exact ((Below.refl _ _).alloc (Nat.le_refl _) _).alloc (by simp) _
  have hzb : wb.heap.size = w.heap.size + 2 := by rw [hwb]; simp
  have q0 : wb.cell? ⟨w.heap.size, 0, none⟩ = some (.int .i64 l) := by rw [hwb]; simp [go_sem]
  have q1 : wb.cell? ⟨w.heap.size, 1, none⟩ = some (.int .i64 p) := by rw [hwb]; simp [go_sem]
  have r0 : wb.cell? ⟨w.heap.size + 1, 0, none⟩ = some (.int .i64 0) := by rw [hwb]; simp [go_sem]
  have r1 : wb.cell? ⟨w.heap.size + 1, 1, none⟩ = some (.int .i64 0) := by rw [hwb]; simp [go_sem]
  have f0 : wb.frozen? ⟨w.heap.size + 1, 0, none⟩ = false := by rw [hwb]; simp [go_sem]
  have f1 : wb.frozen? ⟨w.heap.size + 1, 1, none⟩ = false := by rw [hwb]; simp [go_sem]
  have HK : Hid (∀ wX, Below (w.heap.size + 1) wb wX → wX.cell? ⟨w.heap.size, 0, none⟩ = some (.int .i64 l) ∧ wX.cell? ⟨w.heap.size, 1, none⟩ = some (.int .i64 p)) := fun wX hX => ⟨(hX.cell (by simp)).trans q0, (hX.cell (by simp)).trans q1⟩
  have hcv := entryPages_any l
  have hcb := cov_bd l
  generalize cov l = C at *
  have hm0 : 0 ≤ i * C := Int.mul_nonneg hi0 hcb.1
  have hm1 : i * C ≤ 16 * 256 := Int.mul_le_mul hi1 hcb.2 hcb.1 (by decide)
  have W1 : IntKind.i64.wrap (i * C) = i * C := by rw [IntKind.wrap_i64]; omega
  have W2 : IntKind.i64.wrap (p + i * C) = p + i * C := by rw [IntKind.wrap_i64]; omega
  have W3 : IntKind.i64.wrap (l + 1) = l + 1 := by rw [IntKind.wrap_i64]; omega
  have HWB : Hid (wb = _) := hwb
  have HBB : Hid (Below w.heap.size w wb) := hbb
  have HZ : Hid (wb.heap.size = w.heap.size + 2) := hzb
  have N0 : w.heap.size + 1 < wb.heap.size := by omega
  clear hwb hbb hzb q0 q1
  go_enter Try.func196, Try.ntmps196
  go_wp2_with fail
  rw [← HWB.out]
  go_region_held3 (fun wX => wX.cell? ⟨w.heap.size, 0, none⟩ = some (.int .i64 l) ∧ wX.cell? ⟨w.heap.size, 1, none⟩ = some (.int .i64 p))
    ((refine HK.out _ ?_; repeat (first | exact Below.refl _ _ | with_reducible refine Below.drew ?_ | with_reducible refine Below.setCell ?_ (by first | omega | (simp <;> omega)) _)))
    (first | (go_at_call 173; refine (hcv _).mono ?_; rintro e w1 ⟨rfl, hw1⟩; subst hw1))
  go_wp2_with fail
  refine bodyPost_ret (v := .agg #[.int .i64 (l + 1), .int .i64 (p + i * C)]) (by simp [results, Try.results196, go_sem, r0, r1]) rfl ⟨rfl, ?_⟩
  exact (HBB.out.drew.setCell (Nat.le_succ _) _).setCell (Nat.le_succ _) _
end Go.Proofs.Ytnmhkgmmpkjjeab
