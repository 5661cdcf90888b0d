import Derived.Test.YtnmhkgmmpkjjeabMem
import Derived.Test.YtnmhkgmmpkjjeabPRow
namespace Go.Proofs.Ytnmhkgmmpkjjeab
open Go.ChangeShapes Go.WideShapes Go.ChangeAt Go.RowKit
set_option linter.unusedVariables false
attribute [local go_sem ↓] Go.wp_at_zero Go.wp_at_succ

theorem eqPlace_same (p : P3) (w : World) :
    Calls Try.prog 57 #[.agg #[.int .i64 p.fr, .int .i64 p.lv, .int .i64 p.pg], .agg #[.int .i64 p.fr, .int .i64 p.lv, .int .i64 p.pg]] w fun e w' => e = .returned (.bool true) ∧ Below w.heap.size w w' := by
  go_enter Try.func57, Try.ntmps57
  go_wp2
  go_ret
  exact ⟨rfl, ((Below.refl _ _).alloc (Nat.le_refl _) _).alloc (by simp) _⟩

theorem eqPlaceS_same (v u : Value) (bv bu : Nat) (ps : List P3) (w : World) (hn : ps.length ≤ 1000000) (hv : PRow w bv v ps) (hu : PRow w bu u ps) :
    Calls Try.prog 16 #[v, u] w fun e w' => e = .returned (.bool true) ∧ Below w.heap.size w w' := by
  obtain ⟨a, c, rfl, ha⟩ := hv.form
  obtain ⟨b, d, rfl, hb⟩ := hu.form
  clear hv hu
  go_enter Try.func16, Try.ntmps16
  go_wp2
  go_loopw [5] (fun i wr => ∃ k : Nat, k ≤ ps.length ∧ i = .int .i64 k ∧ Below w.heap.size w wr) (fun i _ => ps.length - (intOf i).toNat)
  case atStart => exact ⟨0, Nat.zero_le _, rfl, Below.refl _ _⟩
  case round =>
    obtain ⟨k, hk, rfl, hbl⟩ := hrel
    by_cases hlt : k < ps.length
    · obtain ⟨g, N, f, rfl, _, hr, hN, hf⟩ := ha (by omega)
      obtain ⟨h, M, f', rfl, _, hr', hM, hf'⟩ := hb (by omega)
      have hr1 : wr.rowIs g _ N f := hr.of_block (hbl.block g hr.lt)
      have hr2 : wr.rowIs h _ M f' := hr'.of_block (hbl.block h hr'.lt)
      have he := eqPlace_same (pAt ps k)
      obtain ⟨x1, x2, x3⟩ := hf k hlt
      obtain ⟨y1, y2, y3⟩ := hf' k hlt
      have c1 := hr1.cell (i := k * 3) (by omega)
      have c2 := hr1.cell (i := k * 3 + 1) (by omega)
      have c3 := hr1.cell (i := k * 3 + 2) (by omega)
      have d1 := hr2.cell (i := k * 3) (by omega)
      have d2 := hr2.cell (i := k * 3 + 1) (by omega)
      have d3 := hr2.cell (i := k * 3 + 2) (by omega)
      rw [x1] at c1
      rw [x2] at c2
      rw [x3] at c3
      rw [y1] at d1
      rw [y2] at d2
      rw [y3] at d3
      clear x1 x2 x3 y1 y2 y3 hf hf' ha hb
      have L1 : (0 : Int) ≤ (k : Int) := by omega
      have L2 : (k : Int) < (ps.length : Int) := by omega
      generalize (pAt ps k).fr = F at *
      generalize (pAt ps k).lv = L at *
      generalize (pAt ps k).pg = P at *
      have n1 := hr1.lt
      have n2 := hr2.lt
      have HB : Hid (Below w.heap.size w wr) := hbl
      clear hr hr' hr1 hr2 hbl
      go_wp2
      go_region_held3 (fun w' => w'.cell? ⟨g, k * 3, none⟩ = some (.int .i64 F) ∧ w'.cell? ⟨g, k * 3 + 1, none⟩ = some (.int .i64 L) ∧ w'.cell? ⟨g, k * 3 + 2, none⟩ = some (.int .i64 P) ∧ w'.cell? ⟨h, k * 3, none⟩ = some (.int .i64 F) ∧ w'.cell? ⟨h, k * 3 + 1, none⟩ = some (.int .i64 L) ∧ w'.cell? ⟨h, k * 3 + 2, none⟩ = some (.int .i64 P))
        (first | go_keep | (go_split_ands; refine ⟨?_, ?_, ?_, ?_, ?_, ?_⟩ <;> (rw [hb1.cell (by simp; assumption)]; simp; assumption)))
        (first | (go_at_call 57; refine (he _).mono ?_; rintro e w1 ⟨rfl, hb1⟩))
      go_wp2
      go_roundw
      case rel => exact ⟨k + 1, by omega, by go_num, HB.out.trans ((Below.refl _ _).drew.trans (hb1.mono HB.out.size))⟩
      case measure => simp [intOf]; omega
    · go_wp2
      go_ret
      exact ⟨rfl, hbl⟩

/-- What a slice of places holds when it has been marked. -/
def Marked (w : World) (v : Value) (n : Nat) : Prop :=
  ∃ a cap, v = .slice a n cap ∧ (0 < n → ∃ g N f, a = some ⟨g, 0, none⟩ ∧ w.rowIs g 80 N f ∧ n * 3 ≤ N ∧ ∀ j, j < n * 3 → f j = .int .i64 (1 + j))

theorem markPlaceS_any (v : Value) (bv : Nat) (ps : List P3) (w : World) (hn : ps.length ≤ 1000000) (hv : PRow w bv v ps) :
    Calls Try.prog 19 #[v, .int .i64 1] w fun e w' => e = .returned (.int .i64 (1 + ps.length * 3)) ∧ Marked w' v ps.length ∧ w.grownBy w' v.ownBlock := by
  obtain ⟨a, c, rfl, ha⟩ := hv.form
  by_cases h0 : ps.length = 0
  · rw [h0]
    clear ha hv
    go_enter Try.func19, Try.ntmps19
    go_wp2
    go_loopw [1, 5] (fun m i wr => i = .int .i64 0 ∧ m = .int .i64 1 ∧ wr = w) (fun _ i _ => 0)
    case atStart => exact ⟨rfl, rfl, rfl⟩
    case round =>
      obtain ⟨rfl, rfl, rfl⟩ := hrel
      go_wp2
      go_ret
      exact ⟨rfl, ⟨a, c, rfl, fun h => absurd h (by omega)⟩, World.grownBy.refl _ _⟩
  · obtain ⟨g, N, f, rfl, _, hr, hN, hf⟩ := ha (by omega)
    clear ha hf hv
    go_enter Try.func19, Try.ntmps19
    go_wp2
    go_loopw [1, 5] (fun m i wr => ∃ k : Nat, k ≤ ps.length ∧ i = .int .i64 k ∧ m = .int .i64 (1 + k * 3) ∧ (∃ f, wr.rowIs g 80 N f ∧ ∀ j, j < k * 3 → f j = .int .i64 (1 + j)) ∧ w.grownBy wr (some g)) (fun _ i _ => ps.length - (intOf i).toNat)
    case atStart => exact ⟨0, Nat.zero_le _, rfl, rfl, ⟨_, hr, fun j hj => absurd hj (by omega)⟩, World.grownBy.refl _ _⟩
    case round =>
      obtain ⟨k, hk, rfl, rfl, ⟨f, hrow, hf⟩, hb⟩ := hrel
      by_cases hlt : k < ps.length
      · have f1 := hrow.frozen (k * 3)
        have f2 := hrow.frozen (k * 3 + 1)
        have f3 := hrow.frozen (k * 3 + 2)
        have o1 := hrow.cell (i := k * 3) (by omega)
        have o2 := hrow.cell (i := k * 3 + 1) (by omega)
        have o3 := hrow.cell (i := k * 3 + 2) (by omega)
        generalize f (k * 3) = u1 at o1
        generalize f (k * 3 + 1) = u2 at o2
        generalize f (k * 3 + 2) = u3 at o3
        have L1 : (0 : Int) ≤ (k : Int) := by omega
        have L2 : (k : Int) < (ps.length : Int) := by omega
        have HF : Hid (∀ j, j < k * 3 → f j = .int .i64 (1 + j)) := hf
        clear hf
        go_wp2
        go_roundw
        case rel =>
          refine ⟨k + 1, by omega, by go_num, by go_num, ⟨_, ((hrow.set (k * 3) _).set (k * 3 + 1) _).set (k * 3 + 2) _, ?_⟩, grown_set (grown_set (grown_set hb _ _) _ _) _ _⟩
          intro j hj
          by_cases e3 : j = k * 3 + 2
          · subst e3; simp only [if_pos]; congr 1
          · rw [if_neg e3]
            by_cases e2 : j = k * 3 + 1
            · subst e2; simp only [if_pos]; congr 1
            · rw [if_neg e2]
              by_cases e1 : j = k * 3
              · subst e1; simp only [if_pos]; congr 1
              · rw [if_neg e1]; exact HF.out j (by omega)
        case measure => simp [intOf]; omega
      · have e : k = ps.length := by omega
        subst e
        go_wp2
        go_ret
        exact ⟨rfl, ⟨_, c, rfl, fun _ => ⟨g, N, f, rfl, hrow, hN, hf⟩⟩, hb⟩

theorem heldPlaceS_any (v : Value) (n : Nat) (w : World) (hn : n ≤ 1000000) (hv : Marked w v n) :
    Calls Try.prog 20 #[v, .int .i64 1] w fun e w' => e = .returned (.int .i64 (1 + n * 3)) ∧ Below w.heap.size w w' := by
  obtain ⟨a, c, rfl, ha⟩ := hv
  go_enter Try.func20, Try.ntmps20
  go_wp2
  go_loopw [1, 5] (fun m i wr => ∃ k : Nat, k ≤ n ∧ i = .int .i64 k ∧ m = .int .i64 (1 + k * 3) ∧ Below w.heap.size w wr) (fun _ i _ => n - (intOf i).toNat)
  case atStart => exact ⟨0, Nat.zero_le _, rfl, rfl, Below.refl _ _⟩
  case round =>
    obtain ⟨k, hk, rfl, rfl, hb⟩ := hrel
    by_cases hlt : k < n
    · obtain ⟨g, N, f, rfl, hr, hN, hf⟩ := ha (by omega)
      have hr1 : wr.rowIs g _ N f := hr.of_block (hb.block g hr.lt)
      have c1 := hr1.cell (i := k * 3) (by omega)
      have c2 := hr1.cell (i := k * 3 + 1) (by omega)
      have c3 := hr1.cell (i := k * 3 + 2) (by omega)
      rw [hf (k * 3) (by omega)] at c1
      rw [hf (k * 3 + 1) (by omega)] at c2
      rw [hf (k * 3 + 2) (by omega)] at c3
      rw [show (1 + ((k * 3 : Nat) : Int)) = 1 + k * 3 by omega] at c1
      rw [show (1 + ((k * 3 + 1 : Nat) : Int)) = 1 + k * 3 + 1 by omega] at c2
      rw [show (1 + ((k * 3 + 2 : Nat) : Int)) = 1 + k * 3 + 1 + 1 by omega] at c3
      have L1 : (0 : Int) ≤ (k : Int) := by omega
      have L2 : (k : Int) < (n : Int) := by omega
      clear hf ha hr hr1
      go_wp2
      go_roundw
      case rel => exact ⟨k + 1, by omega, by go_num, by go_num, hb⟩
      case measure => simp [intOf]; omega
    · have e : k = n := by omega
      subst e
      go_wp2
      go_ret
      exact ⟨rfl, hb⟩
end Go.Proofs.Ytnmhkgmmpkjjeab
