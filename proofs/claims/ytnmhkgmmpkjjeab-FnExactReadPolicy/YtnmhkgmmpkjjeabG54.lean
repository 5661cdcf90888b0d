import Derived.Test.YtnmhkgmmpkjjeabG53
namespace Go.Proofs.Ytnmhkgmmpkjjeab
open Go.ChangeShapes Go.WideShapes Go.ChangeAt Go.RowKit
set_option linter.unusedVariables false
attribute [local go_sem ↓] Go.wp_at_zero Go.wp_at_succ

/-- What is in cell j of element i when the slice has been marked from s on. -/
def markSpan (s : Int) (i j : Nat) : Value :=
  match j with
  | 0 => .int .i64 (s + i * 5)
  | 1 => .int .i64 (s + i * 5 + 1)
  | 2 => .int .i64 (s + i * 5 + 1 + 1)
  | 3 => .int .i64 (s + i * 5 + 1 + 1 + 1)
  | 4 => .bool ((s + i * 5 + 1 + 1 + 1 + 1) % 3 == 0)
  | _ => .bool false

theorem markSpanS_any (v : Value) (bv : Nat) (xs : List SpanE) (s : Int) (w : World) (hs0 : 0 ≤ s) (hs1 : s ≤ 100000000) (hn : xs.length ≤ 1048576) (hv : ERow eSpan w bv v xs) :
    Calls Try.prog 45 #[v, .int .i64 s] w fun e w' => e = .returned (.int .i64 (s + xs.length * 5)) ∧ EHas eSpan w' v xs.length (markSpan s) ∧ w.grownBy w' v.ownBlock := by
  obtain ⟨a, c, rfl, ha⟩ := hv.form
  by_cases h0 : xs.length = 0
  · rw [h0]
    clear ha hv
    go_enter Try.func45, Try.ntmps45
    go_wp2
    go_loopw [1, 5] (fun m i wr => i = .int .i64 0 ∧ m = .int .i64 s ∧ wr = w) (fun _ i _ => 0)
    case atStart => exact ⟨rfl, rfl, rfl⟩
    case round =>
      obtain ⟨rfl, rfl, rfl⟩ := hrel
      go_wp2
      go_ret
      exact ⟨by simp, ⟨a, c, rfl, fun h => absurd h (by omega)⟩, World.grownBy.refl _ _⟩
  · obtain ⟨g, N, f, rfl, _, hr, hN, hf⟩ := ha (by omega)
    have hN' : xs.length * 5 ≤ N := hN
    clear ha hf hv hN
    go_enter Try.func45, Try.ntmps45
    go_wp2
    go_loopw [1, 5] (fun m i wr => ∃ k : Nat, k ≤ xs.length ∧ i = .int .i64 k ∧ m = .int .i64 (s + k * 5) ∧ (∃ f, wr.rowIs g 127 N f ∧ ∀ i, i < k → ∀ j, j < 5 → f (i * 5 + j) = markSpan s i j) ∧ w.grownBy wr (some g)) (fun _ i _ => xs.length - (intOf i).toNat)
    case atStart => exact ⟨0, Nat.zero_le _, rfl, by simp, ⟨_, hr, fun i hi => absurd hi (by omega)⟩, World.grownBy.refl _ _⟩
    case round =>
      obtain ⟨k, hk, rfl, rfl, ⟨f, hrow, hf⟩, hb⟩ := hrel
      by_cases hlt : k < xs.length
      · have HF : Hid _ := hf
        have HROW : Hid (wr.rowIs g _ N f) := hrow
        have HB : Hid (w.grownBy wr _) := hb
        have f0 := hrow.frozen (k * 5)
        have o0 := hrow.cell (i := k * 5) (by omega)
        have f1 := hrow.frozen (k * 5 + 1)
        have o1 := hrow.cell (i := k * 5 + 1) (by omega)
        have f2 := hrow.frozen (k * 5 + 2)
        have o2 := hrow.cell (i := k * 5 + 2) (by omega)
        have f3 := hrow.frozen (k * 5 + 3)
        have o3 := hrow.cell (i := k * 5 + 3) (by omega)
        have f4 := hrow.frozen (k * 5 + 4)
        have o4 := hrow.cell (i := k * 5 + 4) (by omega)
        generalize f (k * 5) = u100 at o0
        generalize f (k * 5 + 1) = u101 at o1
        generalize f (k * 5 + 2) = u102 at o2
        generalize f (k * 5 + 3) = u103 at o3
        generalize f (k * 5 + 4) = u104 at o4
        have L1 : (0 : Int) ≤ (k : Int) := by omega
        have L2 : (k : Int) < (xs.length : Int) := by omega
        clear hf hrow hb hr
        go_wp2
        go_roundw
        case rel =>
          refine ⟨k + 1, by omega, by go_num, by go_num, ⟨_, ((((HROW.out.set (k * 5) _).set (k * 5 + 1) _).set (k * 5 + 2) _).set (k * 5 + 3) _).set (k * 5 + 4) _, ?_⟩, eGrown_set (eGrown_set (eGrown_set (eGrown_set (eGrown_set (HB.out) _ _) _ _) _ _) _ _) _ _⟩
          intro i hi j hj
          by_cases e : i = k
          · subst e
            rcases (show j = 0 ∨ j = 1 ∨ j = 2 ∨ j = 3 ∨ j = 4 by omega) with rfl | rfl | rfl | rfl | rfl
            · simp [markSpan]
            · simp [markSpan]
            · simp [markSpan]
            · simp [markSpan]
            · simp [markSpan]
          · have hik : i < k := by omega
            rw [← HF.out i hik j hj]
            rw [if_neg (by omega)]; rw [if_neg (by omega)]; rw [if_neg (by omega)]; rw [if_neg (by omega)]; rw [if_neg (by omega)]
        case measure => simp [intOf]; omega
      · have e : k = xs.length := by omega
        subst e
        go_wp2
        go_ret
        exact ⟨rfl, ⟨_, c, rfl, fun _ => ⟨g, N, f, rfl, hrow, hN', hf⟩⟩, hb⟩

theorem heldSpanS_any (v : Value) (n : Nat) (s : Int) (w : World) (hs0 : 0 ≤ s) (hs1 : s ≤ 100000000) (hn : n ≤ 1048576) (hv : EHas eSpan w v n (markSpan s)) :
    Calls Try.prog 46 #[v, .int .i64 s] w fun e w' => e = .returned (.int .i64 (s + n * 5)) ∧ Below w.heap.size w w' := by
  obtain ⟨a, c, rfl, ha⟩ := hv
  go_enter Try.func46, Try.ntmps46
  go_wp2
  go_loopw [1, 5] (fun m i wr => ∃ k : Nat, k ≤ n ∧ i = .int .i64 k ∧ m = .int .i64 (s + k * 5) ∧ Below w.heap.size w wr) (fun _ i _ => n - (intOf i).toNat)
  case atStart => exact ⟨0, Nat.zero_le _, rfl, by simp, Below.refl _ _⟩
  case round =>
    obtain ⟨k, hk, rfl, rfl, hb⟩ := hrel
    by_cases hlt : k < n
    · obtain ⟨g, N, f, rfl, hr, hN, hf⟩ := ha (by omega)
      have hN' : n * 5 ≤ N := hN
      have hr1 : wr.rowIs g 127 N f := hr.of_block (hb.block g hr.lt)
      have q0 := hr1.cell (i := k * 5) (by omega)
      have q1 := hr1.cell (i := k * 5 + 1) (by omega)
      have q2 := hr1.cell (i := k * 5 + 2) (by omega)
      have q3 := hr1.cell (i := k * 5 + 3) (by omega)
      have q4 := hr1.cell (i := k * 5 + 4) (by omega)
      rw [show f (k * 5) = _ from hf k hlt 0 (by decide)] at q0
      rw [show f (k * 5 + 1) = _ from hf k hlt 1 (by decide)] at q1
      rw [show f (k * 5 + 2) = _ from hf k hlt 2 (by decide)] at q2
      rw [show f (k * 5 + 3) = _ from hf k hlt 3 (by decide)] at q3
      rw [show f (k * 5 + 4) = _ from hf k hlt 4 (by decide)] at q4
      have c0 : wr.cell? ⟨g, k * 5, none⟩ = some (.int .i64 (s + k * 5)) := q0
      have c1 : wr.cell? ⟨g, k * 5 + 1, none⟩ = some (.int .i64 (s + k * 5 + 1)) := q1
      have c2 : wr.cell? ⟨g, k * 5 + 2, none⟩ = some (.int .i64 (s + k * 5 + 1 + 1)) := q2
      have c3 : wr.cell? ⟨g, k * 5 + 3, none⟩ = some (.int .i64 (s + k * 5 + 1 + 1 + 1)) := q3
      have c4 : wr.cell? ⟨g, k * 5 + 4, none⟩ = some (.bool ((s + k * 5 + 1 + 1 + 1 + 1) % 3 == 0)) := q4
      clear q0 q1 q2 q3 q4
      have L1 : (0 : Int) ≤ (k : Int) := by omega
      have L2 : (k : Int) < (n : Int) := by omega
      clear hf ha hr hr1 hN
      go_wp2
      go_roundw
      case rel => exact ⟨k + 1, by omega, by go_num, by go_num, hb⟩
      case measure => simp [intOf]; omega
    · have e : k = n := by omega
      subst e
      go_wp2
      go_ret
      exact ⟨rfl, hb⟩
end Go.Proofs.Ytnmhkgmmpkjjeab
