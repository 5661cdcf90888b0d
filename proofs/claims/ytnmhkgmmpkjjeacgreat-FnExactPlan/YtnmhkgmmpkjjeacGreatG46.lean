import Derived.Test.YtnmhkgmmpkjjeacGreatG21
namespace Go.Proofs.YtnmhkgmmpkjjeacGreat
open Go.ChangeShapes Go.WideShapes Go.ChangeAt Go.RowKit
set_option linter.unusedVariables false
attribute [local go_sem ↓] Go.wp_at_zero Go.wp_at_succ

theorem eqOp_same (A : Int) (B : Int) (C : Int) (D : Int) (w : World) :
    Calls Tryz.prog 49 #[.agg #[.int .i64 A, .int .i64 B, .int .i64 C, .int .u64 D], .agg #[.int .i64 A, .int .i64 B, .int .i64 C, .int .u64 D]] w fun e w' => e = .returned (.bool true) ∧ Below w.heap.size w w' := by
  go_enter Tryz.func49, Tryz.ntmps49
  go_wp2
  go_ret
  exact ⟨rfl, ((Below.refl _ _).alloc (Nat.le_refl _) _).alloc (by simp) _⟩

theorem eqOpS_same (v u : Value) (bv bu : Nat) (xs : List OpE) (w : World) (hn : xs.length ≤ 1048576) (hv : ERow eOp w bv v xs) (hu : ERow eOp w bu u xs) :
    Calls Tryz.prog 12 #[v, u] w fun e w' => e = .returned (.bool true) ∧ Below w.heap.size w w' := by
  obtain ⟨a, c, rfl, ha⟩ := hv.form
  obtain ⟨b, d, rfl, hb⟩ := hu.form
  clear hv hu
  go_enter Tryz.func12, Tryz.ntmps12
  go_wp2
  go_loopw [5] (fun i wr => ∃ k : Nat, k ≤ xs.length ∧ i = .int .i64 k ∧ Below w.heap.size w wr) (fun i _ => xs.length - (intOf i).toNat)
  case atStart => exact ⟨0, Nat.zero_le _, rfl, Below.refl _ _⟩
  case round =>
    obtain ⟨k, hk, rfl, hbl⟩ := hrel
    by_cases hlt : k < xs.length
    · obtain ⟨g, N, f, rfl, _, hr, hN, hf⟩ := ha (by omega)
      obtain ⟨h, M, f', rfl, _, hr', hM, hf'⟩ := hb (by omega)
      have hN' : xs.length * 4 ≤ N := hN
      have hM' : xs.length * 4 ≤ M := hM
      have hr1 : wr.rowIs g 74 N f := hr.of_block (hbl.block g hr.lt)
      have hr2 : wr.rowIs h 74 M f' := hr'.of_block (hbl.block h hr'.lt)
      have q0 := hr1.cell (i := k * 4) (by omega)
      have q1 := hr1.cell (i := k * 4 + 1) (by omega)
      have q2 := hr1.cell (i := k * 4 + 2) (by omega)
      have q3 := hr1.cell (i := k * 4 + 3) (by omega)
      have r0 := hr2.cell (i := k * 4) (by omega)
      have r1 := hr2.cell (i := k * 4 + 1) (by omega)
      have r2 := hr2.cell (i := k * 4 + 2) (by omega)
      have r3 := hr2.cell (i := k * 4 + 3) (by omega)
      rw [show f (k * 4) = _ from hf k hlt 0 (by decide)] at q0
      rw [show f (k * 4 + 1) = _ from hf k hlt 1 (by decide)] at q1
      rw [show f (k * 4 + 2) = _ from hf k hlt 2 (by decide)] at q2
      rw [show f (k * 4 + 3) = _ from hf k hlt 3 (by decide)] at q3
      rw [show f' (k * 4) = _ from hf' k hlt 0 (by decide)] at r0
      rw [show f' (k * 4 + 1) = _ from hf' k hlt 1 (by decide)] at r1
      rw [show f' (k * 4 + 2) = _ from hf' k hlt 2 (by decide)] at r2
      rw [show f' (k * 4 + 3) = _ from hf' k hlt 3 (by decide)] at r3
      have n1 := hr1.lt
      have n2 := hr2.lt
      have HB : Hid (Below w.heap.size w wr) := hbl
      clear hf hf' ha hb hr hr' hr1 hr2 hbl hN hM
      have c0 : wr.cell? ⟨g, k * 4, none⟩ = some (.int .i64 (eAt eOp xs k).kind) := q0
      have d0 : wr.cell? ⟨h, k * 4, none⟩ = some (.int .i64 (eAt eOp xs k).kind) := r0
      have c1 : wr.cell? ⟨g, k * 4 + 1, none⟩ = some (.int .i64 (eAt eOp xs k).a) := q1
      have d1 : wr.cell? ⟨h, k * 4 + 1, none⟩ = some (.int .i64 (eAt eOp xs k).a) := r1
      have c2 : wr.cell? ⟨g, k * 4 + 2, none⟩ = some (.int .i64 (eAt eOp xs k).b) := q2
      have d2 : wr.cell? ⟨h, k * 4 + 2, none⟩ = some (.int .i64 (eAt eOp xs k).b) := r2
      have c3 : wr.cell? ⟨g, k * 4 + 3, none⟩ = some (.int .u64 (eAt eOp xs k).word) := q3
      have d3 : wr.cell? ⟨h, k * 4 + 3, none⟩ = some (.int .u64 (eAt eOp xs k).word) := r3
      clear q0 r0 q1 r1 q2 r2 q3 r3
      generalize (eAt eOp xs k).kind = A at *
      generalize (eAt eOp xs k).a = B at *
      generalize (eAt eOp xs k).b = C at *
      generalize (eAt eOp xs k).word = D at *
      have L1 : (0 : Int) ≤ (k : Int) := by omega
      have L2 : (k : Int) < (xs.length : Int) := by omega
      have he := eqOp_same A B C D
      have HK : Hid (∀ w', Below wr.heap.size wr w' → w'.cell? ⟨g, k * 4, none⟩ = some (.int .i64 A) ∧ w'.cell? ⟨g, k * 4 + 1, none⟩ = some (.int .i64 B) ∧ w'.cell? ⟨g, k * 4 + 2, none⟩ = some (.int .i64 C) ∧ w'.cell? ⟨g, k * 4 + 3, none⟩ = some (.int .u64 D) ∧ w'.cell? ⟨h, k * 4, none⟩ = some (.int .i64 A) ∧ w'.cell? ⟨h, k * 4 + 1, none⟩ = some (.int .i64 B) ∧ w'.cell? ⟨h, k * 4 + 2, none⟩ = some (.int .i64 C) ∧ w'.cell? ⟨h, k * 4 + 3, none⟩ = some (.int .u64 D)) :=
        fun w' hX => ⟨(hX.cell n1).trans c0, (hX.cell n1).trans c1, (hX.cell n1).trans c2, (hX.cell n1).trans c3, (hX.cell n2).trans d0, (hX.cell n2).trans d1, (hX.cell n2).trans d2, (hX.cell n2).trans d3⟩
      go_wp2
      go_region_held3 (fun w' => w'.cell? ⟨g, k * 4, none⟩ = some (.int .i64 A) ∧ w'.cell? ⟨g, k * 4 + 1, none⟩ = some (.int .i64 B) ∧ w'.cell? ⟨g, k * 4 + 2, none⟩ = some (.int .i64 C) ∧ w'.cell? ⟨g, k * 4 + 3, none⟩ = some (.int .u64 D) ∧ w'.cell? ⟨h, k * 4, none⟩ = some (.int .i64 A) ∧ w'.cell? ⟨h, k * 4 + 1, none⟩ = some (.int .i64 B) ∧ w'.cell? ⟨h, k * 4 + 2, none⟩ = some (.int .i64 C) ∧ w'.cell? ⟨h, k * 4 + 3, none⟩ = some (.int .u64 D))
        ((refine HK.out _ ?_; repeat (first | exact Below.refl _ _ | with_reducible refine Below.drew ?_ | refine Below.trans ?_ (hb1.mono (by first | omega | (simp <;> omega))))))
        (first | (go_at_call 49; refine (he _).mono ?_; rintro e w1 ⟨rfl, hb1⟩))
      go_wp2
      go_roundw
      case rel => exact ⟨k + 1, by omega, by go_num, HB.out.trans ((Below.refl _ _).drew.trans (hb1.mono HB.out.size))⟩
      case measure => simp [intOf]; omega
    · go_wp2
      go_ret
      exact ⟨rfl, hbl⟩

/-- What is in cell j of element i when the slice has been marked from s on. -/
def markOp (s : Int) (i j : Nat) : Value :=
  match j with
  | 0 => .int .i64 (s + i * 4)
  | 1 => .int .i64 (s + i * 4 + 1)
  | 2 => .int .i64 (s + i * 4 + 1 + 1)
  | 3 => .int .u64 (s + i * 4 + 1 + 1 + 1)
  | _ => .bool false

theorem markOpS_any (v : Value) (bv : Nat) (xs : List OpE) (s : Int) (w : World) (hs0 : 0 ≤ s) (hs1 : s ≤ 100000000) (hn : xs.length ≤ 1048576) (hv : ERow eOp w bv v xs) :
    Calls Tryz.prog 17 #[v, .int .i64 s] w fun e w' => e = .returned (.int .i64 (s + xs.length * 4)) ∧ EHas eOp w' v xs.length (markOp s) ∧ w.grownBy w' v.ownBlock := by
  obtain ⟨a, c, rfl, ha⟩ := hv.form
  by_cases h0 : xs.length = 0
  · rw [h0]
    clear ha hv
    go_enter Tryz.func17, Tryz.ntmps17
    go_wp2
    go_loopw [1, 5] (fun m i wr => i = .int .i64 0 ∧ m = .int .i64 s ∧ wr = w) (fun _ i _ => 0)
    case atStart => exact ⟨rfl, rfl, rfl⟩
    case round =>
      obtain ⟨rfl, rfl, rfl⟩ := hrel
      go_wp2
      go_ret
      exact ⟨by simp, ⟨a, c, rfl, fun h => absurd h (by omega)⟩, World.grownBy.refl _ _⟩
  · obtain ⟨g, N, f, rfl, _, hr, hN, hf⟩ := ha (by omega)
    have hN' : xs.length * 4 ≤ N := hN
    clear ha hf hv hN
    go_enter Tryz.func17, Tryz.ntmps17
    go_wp2
    go_loopw [1, 5] (fun m i wr => ∃ k : Nat, k ≤ xs.length ∧ i = .int .i64 k ∧ m = .int .i64 (s + k * 4) ∧ (∃ f, wr.rowIs g 74 N f ∧ ∀ i, i < k → ∀ j, j < 4 → f (i * 4 + j) = markOp s i j) ∧ w.grownBy wr (some g)) (fun _ i _ => xs.length - (intOf i).toNat)
    case atStart => exact ⟨0, Nat.zero_le _, rfl, by simp, ⟨_, hr, fun i hi => absurd hi (by omega)⟩, World.grownBy.refl _ _⟩
    case round =>
      obtain ⟨k, hk, rfl, rfl, ⟨f, hrow, hf⟩, hb⟩ := hrel
      by_cases hlt : k < xs.length
      · have HF : Hid _ := hf
        have HROW : Hid (wr.rowIs g _ N f) := hrow
        have HB : Hid (w.grownBy wr _) := hb
        have f0 := hrow.frozen (k * 4)
        have o0 := hrow.cell (i := k * 4) (by omega)
        have f1 := hrow.frozen (k * 4 + 1)
        have o1 := hrow.cell (i := k * 4 + 1) (by omega)
        have f2 := hrow.frozen (k * 4 + 2)
        have o2 := hrow.cell (i := k * 4 + 2) (by omega)
        have f3 := hrow.frozen (k * 4 + 3)
        have o3 := hrow.cell (i := k * 4 + 3) (by omega)
        generalize f (k * 4) = u100 at o0
        generalize f (k * 4 + 1) = u101 at o1
        generalize f (k * 4 + 2) = u102 at o2
        generalize f (k * 4 + 3) = u103 at o3
        have L1 : (0 : Int) ≤ (k : Int) := by omega
        have L2 : (k : Int) < (xs.length : Int) := by omega
        clear hf hrow hb hr
        go_wp2
        go_roundw
        case rel =>
          refine ⟨k + 1, by omega, by go_num, by go_num, ⟨_, (((HROW.out.set (k * 4) _).set (k * 4 + 1) _).set (k * 4 + 2) _).set (k * 4 + 3) _, ?_⟩, eGrown_set (eGrown_set (eGrown_set (eGrown_set (HB.out) _ _) _ _) _ _) _ _⟩
          intro i hi j hj
          by_cases e : i = k
          · subst e
            rcases (show j = 0 ∨ j = 1 ∨ j = 2 ∨ j = 3 by omega) with rfl | rfl | rfl | rfl
            · simp [markOp]
            · simp [markOp]
            · simp [markOp]
            · simp [markOp]
          · have hik : i < k := by omega
            rw [← HF.out i hik j hj]
            rw [if_neg (by omega)]; rw [if_neg (by omega)]; rw [if_neg (by omega)]; rw [if_neg (by omega)]
        case measure => simp [intOf]; omega
      · have e : k = xs.length := by omega
        subst e
        go_wp2
        go_ret
        exact ⟨rfl, ⟨_, c, rfl, fun _ => ⟨g, N, f, rfl, hrow, hN', hf⟩⟩, hb⟩

theorem heldOpS_any (v : Value) (n : Nat) (s : Int) (w : World) (hs0 : 0 ≤ s) (hs1 : s ≤ 100000000) (hn : n ≤ 1048576) (hv : EHas eOp w v n (markOp s)) :
    Calls Tryz.prog 18 #[v, .int .i64 s] w fun e w' => e = .returned (.int .i64 (s + n * 4)) ∧ Below w.heap.size w w' := by
  obtain ⟨a, c, rfl, ha⟩ := hv
  go_enter Tryz.func18, Tryz.ntmps18
  go_wp2
  go_loopw [1, 5] (fun m i wr => ∃ k : Nat, k ≤ n ∧ i = .int .i64 k ∧ m = .int .i64 (s + k * 4) ∧ Below w.heap.size w wr) (fun _ i _ => n - (intOf i).toNat)
  case atStart => exact ⟨0, Nat.zero_le _, rfl, by simp, Below.refl _ _⟩
  case round =>
    obtain ⟨k, hk, rfl, rfl, hb⟩ := hrel
    by_cases hlt : k < n
    · obtain ⟨g, N, f, rfl, hr, hN, hf⟩ := ha (by omega)
      have hN' : n * 4 ≤ N := hN
      have hr1 : wr.rowIs g 74 N f := hr.of_block (hb.block g hr.lt)
      have q0 := hr1.cell (i := k * 4) (by omega)
      have q1 := hr1.cell (i := k * 4 + 1) (by omega)
      have q2 := hr1.cell (i := k * 4 + 2) (by omega)
      have q3 := hr1.cell (i := k * 4 + 3) (by omega)
      rw [show f (k * 4) = _ from hf k hlt 0 (by decide)] at q0
      rw [show f (k * 4 + 1) = _ from hf k hlt 1 (by decide)] at q1
      rw [show f (k * 4 + 2) = _ from hf k hlt 2 (by decide)] at q2
      rw [show f (k * 4 + 3) = _ from hf k hlt 3 (by decide)] at q3
      have c0 : wr.cell? ⟨g, k * 4, none⟩ = some (.int .i64 (s + k * 4)) := q0
      have c1 : wr.cell? ⟨g, k * 4 + 1, none⟩ = some (.int .i64 (s + k * 4 + 1)) := q1
      have c2 : wr.cell? ⟨g, k * 4 + 2, none⟩ = some (.int .i64 (s + k * 4 + 1 + 1)) := q2
      have c3 : wr.cell? ⟨g, k * 4 + 3, none⟩ = some (.int .u64 (s + k * 4 + 1 + 1 + 1)) := q3
      clear q0 q1 q2 q3
      have L1 : (0 : Int) ≤ (k : Int) := by omega
      have L2 : (k : Int) < (n : Int) := by omega
      clear hf ha hr hr1 hN
      go_wp2
      go_roundw
      case rel => exact ⟨k + 1, by omega, by go_num, by go_num, hb⟩
      case measure => simp [intOf]; omega
    · have e : k = n := by omega
      subst e
      go_wp2
      go_ret
      exact ⟨rfl, hb⟩
end Go.Proofs.YtnmhkgmmpkjjeacGreat
