import Derived.Test.YtgabcaldjlenpabMem
import Derived.Deep.AppendLies
import Derived.Deep.RegionHeld3
import Derived.Deep.DrawnRows
namespace Go.Proofs.Ytgabcaldjlenpab
open Go.ChangeShapes Go.WideShapes Go.ChangeAt Go.RowKit
set_option linter.unusedVariables false
attribute [local go_sem ↓] Go.wp_at_zero Go.wp_at_succ

/-- A place: frame, level, page. -/
structure P3 where
  fr : Int
  lv : Int
  pg : Int
def P3.val (p : P3) : Value := .agg #[.int .i64 p.fr, .int .i64 p.lv, .int .i64 p.pg]
def pcells (ps : List P3) : List Value := ps.flatMap fun p => [.int .i64 p.fr, .int .i64 p.lv, .int .i64 p.pg]
def pAt (ps : List P3) (i : Nat) : P3 := ps.getD i ⟨0, 0, 0⟩
theorem pcells_length (ps : List P3) : (pcells ps).length = ps.length * 3 := by
  induction ps with
  | nil => rfl
  | cons p r ih => simp only [pcells, List.flatMap_cons, List.length_append, List.length_cons] at ih ⊢; simp at ih ⊢; omega
theorem pcells_append (a b : List P3) : pcells (a ++ b) = pcells a ++ pcells b := by simp [pcells]
theorem pcells_at (ps : List P3) : ∀ i, i < ps.length → (pcells ps)[i * 3]? = some (.int .i64 (pAt ps i).fr) ∧ (pcells ps)[i * 3 + 1]? = some (.int .i64 (pAt ps i).lv) ∧ (pcells ps)[i * 3 + 2]? = some (.int .i64 (pAt ps i).pg) := by
  induction ps with
  | nil => intro i hi; simp at hi
  | cons p r ih =>
    intro i hi
    cases i with
    | zero => exact ⟨rfl, rfl, rfl⟩
    | succ i =>
      have h := ih i (by simpa using hi)
      have e : pcells (p :: r) = [.int .i64 p.fr, .int .i64 p.lv, .int .i64 p.pg] ++ pcells r := rfl
      have e2 : pAt (p :: r) (i + 1) = pAt r i := by simp [pAt]
      rw [e, e2]
      refine ⟨?_, ?_, ?_⟩
      · rw [List.getElem?_append_right (by simp; omega), show (i + 1) * 3 - List.length [Value.int .i64 p.fr, .int .i64 p.lv, .int .i64 p.pg] = i * 3 by simp; omega]; exact h.1
      · rw [List.getElem?_append_right (by simp; omega), show (i + 1) * 3 + 1 - List.length [Value.int .i64 p.fr, .int .i64 p.lv, .int .i64 p.pg] = i * 3 + 1 by simp; omega]; exact h.2.1
      · rw [List.getElem?_append_right (by simp; omega), show (i + 1) * 3 + 2 - List.length [Value.int .i64 p.fr, .int .i64 p.lv, .int .i64 p.pg] = i * 3 + 2 by simp; omega]; exact h.2.2

/-- A slice of places in memory of the call's own, from block 'base' on. -/
def PRow (w : World) (base : Nat) (v : Value) (ps : List P3) : Prop := w.ownsRow base 63 3 v ps.length (pcells ps)
theorem PRow.form {w : World} {base : Nat} {v : Value} {ps : List P3} (h : PRow w base v ps) : ∃ a cap, v = .slice a ps.length cap ∧ (0 < ps.length → ∃ g N f, a = some ⟨g, 0, none⟩ ∧ base ≤ g ∧ w.rowIs g 63 N f ∧ ps.length * 3 ≤ N ∧ ∀ i, i < ps.length → f (i * 3) = .int .i64 (pAt ps i).fr ∧ f (i * 3 + 1) = .int .i64 (pAt ps i).lv ∧ f (i * 3 + 2) = .int .i64 (pAt ps i).pg) := by
  rcases h.2 with ⟨rfl, h0⟩ | ⟨g, cap, cur, rfl, hb, hg, hn, hm, hs, ht⟩
  · rw [h0]; exact ⟨none, 0, rfl, fun h => absurd h (by omega)⟩
  · refine ⟨_, cap, rfl, fun _ => ⟨g, cur.size, fun i => cur.getD i (.bool false), rfl, hb, ⟨cur, hg, rfl, fun i hi => by simp [hi]⟩, by rw [hs]; omega, fun i hi => ?_⟩⟩
    have hc : ∀ j u, j < ps.length * 3 → (pcells ps)[j]? = some u → cur.getD j (.bool false) = u := by
      intro j u hj hu
      rw [← ht, List.getElem?_take, if_pos hj] at hu
      simp at hu
      simp [Array.getD_eq_getD_getElem?, hu]
    obtain ⟨a, b, c⟩ := pcells_at ps i hi
    exact ⟨hc _ _ (by omega) a, hc _ _ (by omega) b, hc _ _ (by omega) c⟩
theorem below_grown {w w' : World} (h : Below w.heap.size w w') : w.grownBy w' none := ⟨h.os, h.tape, h.output, h.size, fun k hk _ => h.block k hk⟩
theorem PRow.below {w w' : World} {base : Nat} {v : Value} {ps : List P3} (h : PRow w base v ps) (hb : Below w.heap.size w w') : PRow w' base v ps :=
  World.ownsRow.kept h (below_grown hb) (by cases hv : v.ownBlock <;> simp)
theorem PRow.rebase {w : World} {base base' : Nat} {v : Value} {ps : List P3} (h : PRow w base v ps) (hb : base' ≤ base) : PRow w base' v ps := by
  refine ⟨h.1, ?_⟩
  rcases h.2 with hh | ⟨g, cap, cur, e, hg, r⟩
  · exact .inl hh
  · exact .inr ⟨g, cap, cur, e, Nat.le_trans hb hg, r⟩

theorem eqPlace_same (p : P3) (w : World) :
    Calls Try.prog 39 #[.agg #[.int .i64 p.fr, .int .i64 p.lv, .int .i64 p.pg], .agg #[.int .i64 p.fr, .int .i64 p.lv, .int .i64 p.pg]] w fun e w' => e = .returned (.bool true) ∧ Below w.heap.size w w' := by
  go_enter Try.func39, Try.ntmps39
  go_wp2
  go_ret
  exact ⟨rfl, ((Below.refl _ _).alloc (Nat.le_refl _) _).alloc (by simp) _⟩

theorem eqPlaceS_same (v u : Value) (bv bu : Nat) (ps : List P3) (w : World) (hn : ps.length ≤ 1000000) (hv : PRow w bv v ps) (hu : PRow w bu u ps) :
    Calls Try.prog 12 #[v, u] w fun e w' => e = .returned (.bool true) ∧ Below w.heap.size w w' := by
  obtain ⟨a, c, rfl, ha⟩ := hv.form
  obtain ⟨b, d, rfl, hb⟩ := hu.form
  clear hv hu
  go_enter Try.func12, Try.ntmps12
  go_wp2
  go_loopw [5] (fun i wr => ∃ k : Nat, k ≤ ps.length ∧ i = .int .i64 k ∧ Below w.heap.size w wr) (fun i _ => ps.length - (intOf i).toNat)
  case atStart => exact ⟨0, Nat.zero_le _, rfl, Below.refl _ _⟩
  case round =>
    obtain ⟨k, hk, rfl, hbl⟩ := hrel
    by_cases hlt : k < ps.length
    · obtain ⟨g, N, f, rfl, _, hr, hN, hf⟩ := ha (by omega)
      obtain ⟨h, M, f', rfl, _, hr', hM, hf'⟩ := hb (by omega)
      have hr1 : wr.rowIs g _ N f := hr.of_block (hbl.block g hr.lt)
      have hr2 : wr.rowIs h _ M f' := hr'.of_block (hbl.block h hr'.lt)
      have he := eqPlace_same (pAt ps k)
      obtain ⟨x1, x2, x3⟩ := hf k hlt
      obtain ⟨y1, y2, y3⟩ := hf' k hlt
      have c1 := hr1.cell (i := k * 3) (by omega)
      have c2 := hr1.cell (i := k * 3 + 1) (by omega)
      have c3 := hr1.cell (i := k * 3 + 2) (by omega)
      have d1 := hr2.cell (i := k * 3) (by omega)
      have d2 := hr2.cell (i := k * 3 + 1) (by omega)
      have d3 := hr2.cell (i := k * 3 + 2) (by omega)
      rw [x1] at c1
      rw [x2] at c2
      rw [x3] at c3
      rw [y1] at d1
      rw [y2] at d2
      rw [y3] at d3
      clear x1 x2 x3 y1 y2 y3 hf hf' ha hb
      have L1 : (0 : Int) ≤ (k : Int) := by omega
      have L2 : (k : Int) < (ps.length : Int) := by omega
      generalize (pAt ps k).fr = F at *
      generalize (pAt ps k).lv = L at *
      generalize (pAt ps k).pg = P at *
      have n1 := hr1.lt
      have n2 := hr2.lt
      have HB : Hid (Below w.heap.size w wr) := hbl
      clear hr hr' hr1 hr2 hbl
      go_wp2
      go_region_held3 (fun w' => w'.cell? ⟨g, k * 3, none⟩ = some (.int .i64 F) ∧ w'.cell? ⟨g, k * 3 + 1, none⟩ = some (.int .i64 L) ∧ w'.cell? ⟨g, k * 3 + 2, none⟩ = some (.int .i64 P) ∧ w'.cell? ⟨h, k * 3, none⟩ = some (.int .i64 F) ∧ w'.cell? ⟨h, k * 3 + 1, none⟩ = some (.int .i64 L) ∧ w'.cell? ⟨h, k * 3 + 2, none⟩ = some (.int .i64 P))
        (first | go_keep | (go_split_ands; refine ⟨?_, ?_, ?_, ?_, ?_, ?_⟩ <;> (rw [hb1.cell (by simp; assumption)]; simp; assumption)))
        (first | (go_at_call 39; refine (he _).mono ?_; rintro e w1 ⟨rfl, hb1⟩))
      go_wp2
      go_roundw
      case rel => exact ⟨k + 1, by omega, by go_num, HB.out.trans ((Below.refl _ _).drew.trans (hb1.mono HB.out.size))⟩
      case measure => simp [intOf]; omega
    · go_wp2
      go_ret
      exact ⟨rfl, hbl⟩

theorem grown_set {w wr : World} {g : Nat} (h : w.grownBy wr (some g)) (i : Nat) (v : Value) : w.grownBy (wr.setCell ⟨g, i, none⟩ v) (some g) :=
  ⟨h.os, h.tape, h.output, by simpa using h.size, fun j hj hne => (Below.heap_setCell _ _ _ _ (by intro e; exact hne (by rw [e]))).trans (h.block j hj hne)⟩

/-- What a slice of places holds when it has been marked. -/
def Marked (w : World) (v : Value) (n : Nat) : Prop :=
  ∃ a cap, v = .slice a n cap ∧ (0 < n → ∃ g N f, a = some ⟨g, 0, none⟩ ∧ w.rowIs g 63 N f ∧ n * 3 ≤ N ∧ ∀ j, j < n * 3 → f j = .int .i64 (1 + j))

theorem markPlaceS_any (v : Value) (bv : Nat) (ps : List P3) (w : World) (hn : ps.length ≤ 1000000) (hv : PRow w bv v ps) :
    Calls Try.prog 15 #[v, .int .i64 1] w fun e w' => e = .returned (.int .i64 (1 + ps.length * 3)) ∧ Marked w' v ps.length ∧ w.grownBy w' v.ownBlock := by
  obtain ⟨a, c, rfl, ha⟩ := hv.form
  by_cases h0 : ps.length = 0
  · rw [h0]
    clear ha hv
    go_enter Try.func15, Try.ntmps15
    go_wp2
    go_loopw [1, 5] (fun m i wr => i = .int .i64 0 ∧ m = .int .i64 1 ∧ wr = w) (fun _ i _ => 0)
    case atStart => exact ⟨rfl, rfl, rfl⟩
    case round =>
      obtain ⟨rfl, rfl, rfl⟩ := hrel
      go_wp2
      go_ret
      exact ⟨rfl, ⟨a, c, rfl, fun h => absurd h (by omega)⟩, World.grownBy.refl _ _⟩
  · obtain ⟨g, N, f, rfl, _, hr, hN, hf⟩ := ha (by omega)
    clear ha hf hv
    go_enter Try.func15, Try.ntmps15
    go_wp2
    go_loopw [1, 5] (fun m i wr => ∃ k : Nat, k ≤ ps.length ∧ i = .int .i64 k ∧ m = .int .i64 (1 + k * 3) ∧ (∃ f, wr.rowIs g 63 N f ∧ ∀ j, j < k * 3 → f j = .int .i64 (1 + j)) ∧ w.grownBy wr (some g)) (fun _ i _ => ps.length - (intOf i).toNat)
    case atStart => exact ⟨0, Nat.zero_le _, rfl, rfl, ⟨_, hr, fun j hj => absurd hj (by omega)⟩, World.grownBy.refl _ _⟩
    case round =>
      obtain ⟨k, hk, rfl, rfl, ⟨f, hrow, hf⟩, hb⟩ := hrel
      by_cases hlt : k < ps.length
      · have f1 := hrow.frozen (k * 3)
        have f2 := hrow.frozen (k * 3 + 1)
        have f3 := hrow.frozen (k * 3 + 2)
        have o1 := hrow.cell (i := k * 3) (by omega)
        have o2 := hrow.cell (i := k * 3 + 1) (by omega)
        have o3 := hrow.cell (i := k * 3 + 2) (by omega)
        generalize f (k * 3) = u1 at o1
        generalize f (k * 3 + 1) = u2 at o2
        generalize f (k * 3 + 2) = u3 at o3
        have L1 : (0 : Int) ≤ (k : Int) := by omega
        have L2 : (k : Int) < (ps.length : Int) := by omega
        have HF : Hid (∀ j, j < k * 3 → f j = .int .i64 (1 + j)) := hf
        clear hf
        go_wp2
        go_roundw
        case rel =>
          refine ⟨k + 1, by omega, by go_num, by go_num, ⟨_, ((hrow.set (k * 3) _).set (k * 3 + 1) _).set (k * 3 + 2) _, ?_⟩, grown_set (grown_set (grown_set hb _ _) _ _) _ _⟩
          intro j hj
          by_cases e3 : j = k * 3 + 2
          · subst e3; simp only [if_pos]; congr 1
          · rw [if_neg e3]
            by_cases e2 : j = k * 3 + 1
            · subst e2; simp only [if_pos]; congr 1
            · rw [if_neg e2]
              by_cases e1 : j = k * 3
              · subst e1; simp only [if_pos]; congr 1
              · rw [if_neg e1]; exact HF.out j (by omega)
        case measure => simp [intOf]; omega
      · have e : k = ps.length := by omega
        subst e
        go_wp2
        go_ret
        exact ⟨rfl, ⟨_, c, rfl, fun _ => ⟨g, N, f, rfl, hrow, hN, hf⟩⟩, hb⟩

theorem heldPlaceS_any (v : Value) (n : Nat) (w : World) (hn : n ≤ 1000000) (hv : Marked w v n) :
    Calls Try.prog 16 #[v, .int .i64 1] w fun e w' => e = .returned (.int .i64 (1 + n * 3)) ∧ Below w.heap.size w w' := by
  obtain ⟨a, c, rfl, ha⟩ := hv
  go_enter Try.func16, Try.ntmps16
  go_wp2
  go_loopw [1, 5] (fun m i wr => ∃ k : Nat, k ≤ n ∧ i = .int .i64 k ∧ m = .int .i64 (1 + k * 3) ∧ Below w.heap.size w wr) (fun _ i _ => n - (intOf i).toNat)
  case atStart => exact ⟨0, Nat.zero_le _, rfl, rfl, Below.refl _ _⟩
  case round =>
    obtain ⟨k, hk, rfl, rfl, hb⟩ := hrel
    by_cases hlt : k < n
    · obtain ⟨g, N, f, rfl, hr, hN, hf⟩ := ha (by omega)
      have hr1 : wr.rowIs g _ N f := hr.of_block (hb.block g hr.lt)
      have c1 := hr1.cell (i := k * 3) (by omega)
      have c2 := hr1.cell (i := k * 3 + 1) (by omega)
      have c3 := hr1.cell (i := k * 3 + 2) (by omega)
      rw [hf (k * 3) (by omega)] at c1
      rw [hf (k * 3 + 1) (by omega)] at c2
      rw [hf (k * 3 + 2) (by omega)] at c3
      rw [show (1 + ((k * 3 : Nat) : Int)) = 1 + k * 3 by omega] at c1
      rw [show (1 + ((k * 3 + 1 : Nat) : Int)) = 1 + k * 3 + 1 by omega] at c2
      rw [show (1 + ((k * 3 + 2 : Nat) : Int)) = 1 + k * 3 + 1 + 1 by omega] at c3
      have L1 : (0 : Int) ≤ (k : Int) := by omega
      have L2 : (k : Int) < (n : Int) := by omega
      clear hf ha hr hr1
      go_wp2
      go_roundw
      case rel => exact ⟨k + 1, by omega, by go_num, by go_num, hb⟩
      case measure => simp [intOf]; omega
    · have e : k = n := by omega
      subst e
      go_wp2
      go_ret
      exact ⟨rfl, hb⟩
end Go.Proofs.Ytgabcaldjlenpab
