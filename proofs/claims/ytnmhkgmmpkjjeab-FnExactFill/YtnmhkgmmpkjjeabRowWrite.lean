import Derived.Test.YtnmhkgmmpkjjeabERow
namespace Go.Proofs.Ytnmhkgmmpkjjeab
open Go.ChangeShapes Go.WideShapes Go.ChangeAt Go.RowKit
set_option linter.unusedVariables false
attribute [local go_sem ↓] Go.wp_at_zero Go.wp_at_succ

structure WriteE where
  addr : Int
  word : Int
def eWrite : Elt WriteE := ⟨178, 2, fun x => [.int .i64 x.addr, .int .u64 x.word], ⟨0, 0⟩, by omega, fun _ => rfl⟩
theorem infoWrite : (Try.prog.info? 178).map (fun i => (i.zero, i.size, i.bytes)) = some (some (.agg #[.int .i64 0, .int .u64 0]), 2, 16) := by kernel_rfl

theorem szWrite_any (a : Option Addr) (n cap : Nat) (left : Int) (h1 : n ≤ 9223372036854775807) (h0 : 0 ≤ left) (h2 : left ≤ 1048576) (w : World) :
    Calls Try.prog 64 #[.slice a n cap, .int .i64 left] w fun e w' => e = .returned (.int .i64 (if (n : Int) ≤ left then left - n else -1)) ∧ w' = w := by
  by_cases h : (n : Int) ≤ left
  · rw [if_pos h]
    go_enter Try.func64, Try.ntmps64
    go_wp2
    go_ret
    exact ⟨rfl, rfl⟩
  · rw [if_neg h]
    go_enter Try.func64, Try.ntmps64
    go_wp2
    go_ret
    exact ⟨rfl, rfl⟩

theorem toWrite_any (A : Int) (B : Int) (w : World) :
    Calls Try.prog 137 #[.agg #[.int .i64 A, .int .u64 B]] w fun e w' => e = .returned (.agg #[.int .i64 A, .int .u64 B]) ∧ Below w.heap.size w w' := by
  go_enter Try.func137, Try.ntmps137
  go_wp2
  refine bodyPost_ret (v := .agg #[.int .i64 A, .int .u64 B]) (by simp [results, Try.results137, go_sem]) rfl ⟨rfl, ?_⟩
  repeat (first | exact Below.refl _ _ | (refine Below.alloc ?_ (by simp <;> omega) _) | (refine Below.setCell ?_ (by simp <;> omega) _))

theorem eqWrite_same (A : Int) (B : Int) (w : World) :
    Calls Try.prog 144 #[.agg #[.int .i64 A, .int .u64 B], .agg #[.int .i64 A, .int .u64 B]] w fun e w' => e = .returned (.bool true) ∧ Below w.heap.size w w' := by
  go_enter Try.func144, Try.ntmps144
  go_wp2
  go_ret
  exact ⟨rfl, ((Below.refl _ _).alloc (Nat.le_refl _) _).alloc (by simp) _⟩

theorem eqWriteS_same (v u : Value) (bv bu : Nat) (xs : List WriteE) (w : World) (hn : xs.length ≤ 1048576) (hv : ERow eWrite w bv v xs) (hu : ERow eWrite w bu u xs) :
    Calls Try.prog 78 #[v, u] w fun e w' => e = .returned (.bool true) ∧ Below w.heap.size w w' := by
  obtain ⟨a, c, rfl, ha⟩ := hv.form
  obtain ⟨b, d, rfl, hb⟩ := hu.form
  clear hv hu
  go_enter Try.func78, Try.ntmps78
  go_wp2
  go_loopw [5] (fun i wr => ∃ k : Nat, k ≤ xs.length ∧ i = .int .i64 k ∧ Below w.heap.size w wr) (fun i _ => xs.length - (intOf i).toNat)
  case atStart => exact ⟨0, Nat.zero_le _, rfl, Below.refl _ _⟩
  case round =>
    obtain ⟨k, hk, rfl, hbl⟩ := hrel
    by_cases hlt : k < xs.length
    · obtain ⟨g, N, f, rfl, _, hr, hN, hf⟩ := ha (by omega)
      obtain ⟨h, M, f', rfl, _, hr', hM, hf'⟩ := hb (by omega)
      have hN' : xs.length * 2 ≤ N := hN
      have hM' : xs.length * 2 ≤ M := hM
      have hr1 : wr.rowIs g 178 N f := hr.of_block (hbl.block g hr.lt)
      have hr2 : wr.rowIs h 178 M f' := hr'.of_block (hbl.block h hr'.lt)
      have q0 := hr1.cell (i := k * 2) (by omega)
      have q1 := hr1.cell (i := k * 2 + 1) (by omega)
      have r0 := hr2.cell (i := k * 2) (by omega)
      have r1 := hr2.cell (i := k * 2 + 1) (by omega)
      rw [show f (k * 2) = _ from hf k hlt 0 (by decide)] at q0
      rw [show f (k * 2 + 1) = _ from hf k hlt 1 (by decide)] at q1
      rw [show f' (k * 2) = _ from hf' k hlt 0 (by decide)] at r0
      rw [show f' (k * 2 + 1) = _ from hf' k hlt 1 (by decide)] at r1
      have n1 := hr1.lt
      have n2 := hr2.lt
      have HB : Hid (Below w.heap.size w wr) := hbl
      clear hf hf' ha hb hr hr' hr1 hr2 hbl hN hM
      have c0 : wr.cell? ⟨g, k * 2, none⟩ = some (.int .i64 (eAt eWrite xs k).addr) := q0
      have d0 : wr.cell? ⟨h, k * 2, none⟩ = some (.int .i64 (eAt eWrite xs k).addr) := r0
      have c1 : wr.cell? ⟨g, k * 2 + 1, none⟩ = some (.int .u64 (eAt eWrite xs k).word) := q1
      have d1 : wr.cell? ⟨h, k * 2 + 1, none⟩ = some (.int .u64 (eAt eWrite xs k).word) := r1
      clear q0 r0 q1 r1
      generalize (eAt eWrite xs k).addr = A at *
      generalize (eAt eWrite xs k).word = B at *
      have L1 : (0 : Int) ≤ (k : Int) := by omega
      have L2 : (k : Int) < (xs.length : Int) := by omega
      have he := eqWrite_same A B
      have HK : Hid (∀ w', Below wr.heap.size wr w' → w'.cell? ⟨g, k * 2, none⟩ = some (.int .i64 A) ∧ w'.cell? ⟨g, k * 2 + 1, none⟩ = some (.int .u64 B) ∧ w'.cell? ⟨h, k * 2, none⟩ = some (.int .i64 A) ∧ w'.cell? ⟨h, k * 2 + 1, none⟩ = some (.int .u64 B)) :=
        fun w' hX => ⟨(hX.cell n1).trans c0, (hX.cell n1).trans c1, (hX.cell n2).trans d0, (hX.cell n2).trans d1⟩
      go_wp2
      go_region_held3 (fun w' => w'.cell? ⟨g, k * 2, none⟩ = some (.int .i64 A) ∧ w'.cell? ⟨g, k * 2 + 1, none⟩ = some (.int .u64 B) ∧ w'.cell? ⟨h, k * 2, none⟩ = some (.int .i64 A) ∧ w'.cell? ⟨h, k * 2 + 1, none⟩ = some (.int .u64 B))
        ((refine HK.out _ ?_; repeat (first | exact Below.refl _ _ | with_reducible refine Below.drew ?_ | refine Below.trans ?_ (hb1.mono (by first | omega | (simp <;> omega))))))
        (first | (go_at_call 144; refine (he _).mono ?_; rintro e w1 ⟨rfl, hb1⟩))
      go_wp2
      go_roundw
      case rel => exact ⟨k + 1, by omega, by go_num, HB.out.trans ((Below.refl _ _).drew.trans (hb1.mono HB.out.size))⟩
      case measure => simp [intOf]; omega
    · go_wp2
      go_ret
      exact ⟨rfl, hbl⟩

theorem toWriteS_any (v : Value) (xs : List WriteE) (w : World) (hv : ESrc eWrite w v xs) (hn : xs.length ≤ 1048576) :
    Calls Try.prog 71 #[v] w fun e w' => e = .returned (.slice (some ⟨w.heap.size, 0, none⟩) xs.length xs.length) ∧ ERow eWrite w' w.heap.size (.slice (some ⟨w.heap.size, 0, none⟩) xs.length xs.length) xs ∧ Below w.heap.size w w' := by
  obtain ⟨a, cap, rfl, ha⟩ := hv
  obtain ⟨i0, hi, hz0, hz1, hz2⟩ := info_parts infoWrite
  go_enter Try.func71, Try.ntmps71
  go_wp2_with (refine wpList_make_full _ rfl (.tmp 6) (.tmp 6) 47 rfl w.heap.size 178 i0 _ 2 Try.underlying47 hi hz0 hz1 .i64 .i64 _ _ xs.length rfl rfl rfl rfl (by rw [hz2]; omega) (by unfold maxLen; omega) (Nat.le_refl _) ?_; intro wm hom hgm)
  have hbm : Below w.heap.size w wm := ⟨hgm.os, hgm.tape, hgm.output, hgm.size, fun k hk => hgm.block k hk (by simp)⟩
  obtain ⟨f0, hr0⟩ := row_of_made hom
  clear hom hgm
  go_loopw [4] (fun i wr => ∃ k : Nat, k ≤ xs.length ∧ i = .int .i64 k ∧ (∃ f, wr.rowIs w.heap.size 178 (xs.length * 2) f ∧ ∀ i, i < k → ∀ j, j < 2 → f (i * 2 + j) = eCell eWrite xs i j) ∧ Below w.heap.size w wr) (fun i _ => xs.length - (intOf i).toNat)
  case atStart => exact ⟨0, Nat.zero_le _, rfl, ⟨f0, hr0, fun i hi => absurd hi (by omega)⟩, hbm⟩
  case round =>
    obtain ⟨k, hk, rfl, ⟨f, hrow, hf⟩, hb⟩ := hrel
    by_cases hlt : k < xs.length
    · obtain ⟨b, o, rfl, hbl, hc⟩ := ha (by omega)
      have c0 : wr.cell? ⟨b, o + k * 2, none⟩ = some (.int .i64 (eAt eWrite xs k).addr) := (hb.cell hbl).trans (hc k hlt 0 (by decide))
      have c1 : wr.cell? ⟨b, o + k * 2 + 1, none⟩ = some (.int .u64 (eAt eWrite xs k).word) := (hb.cell hbl).trans (hc k hlt 1 (by decide))
      have E0 : eCell eWrite xs k 0 = .int .i64 (eAt eWrite xs k).addr := rfl
      have E1 : eCell eWrite xs k 1 = .int .u64 (eAt eWrite xs k).word := rfl
      generalize (eAt eWrite xs k).addr = A at *
      generalize (eAt eWrite xs k).word = B at *
      have L1 : (0 : Int) ≤ (k : Int) := by omega
      have L2 : (k : Int) < (xs.length : Int) := by omega
      have HF : Hid _ := hf
      have HROW : Hid (wr.rowIs w.heap.size _ _ f) := hrow
      have HB : Hid (Below _ _ _) := hb
      have hrl := hrow.lt
      have HE0 : Hid _ := E0
      have HE1 : Hid _ := E1
      clear hc ha hf hrow hb E0 E1 hbm hr0
      go_wp2_with fail
      refine (toWrite_any A B wr).mono ?_
      rintro e w1 ⟨rfl, hb1⟩
      have hrow1 : w1.rowIs w.heap.size 178 (xs.length * 2) f := HROW.out.of_block (hb1.block _ hrl)
      have f0 := hrow1.frozen (k * 2)
      have o0 := hrow1.cell (i := k * 2) (by omega)
      have f1 := hrow1.frozen (k * 2 + 1)
      have o1 := hrow1.cell (i := k * 2 + 1) (by omega)
      generalize f (k * 2) = u100 at o0
      generalize f (k * 2 + 1) = u101 at o1
      have HR1 : Hid (w1.rowIs w.heap.size _ _ f) := hrow1
      have HB1 : Hid (Below _ _ _) := hb1
      clear hrow1 hb1 c0 c1
      go_wp2_with fail
      go_roundw
      case rel =>
        refine ⟨k + 1, by omega, by go_num, ⟨_, (HR1.out.set (k * 2) _).set (k * 2 + 1) _, ?_⟩, ?_⟩
        · intro i hi j hj
          by_cases e : i = k
          · subst e
            rcases (show j = 0 ∨ j = 1 by omega) with rfl | rfl
            · rw [HE0.out]; simp
            · rw [HE1.out]; simp
          · have hik : i < k := by omega
            rw [← HF.out i hik j hj]
            rw [if_neg (by omega)]; rw [if_neg (by omega)]
        · exact (((HB.out.trans (HB1.out.mono (by omega))).setCell (Nat.le_refl _) _).setCell (Nat.le_refl _) _)
      case measure => simp [intOf]; omega
    · have e : k = xs.length := by omega
      subst e
      clear ha
      go_wp2_with fail
      go_ret
      exact ⟨rfl, ERow.of_row rfl (Nat.le_refl _) hrow rfl (Nat.le_refl _) (by unfold maxLen; omega) hf, hb⟩

/-- What is in cell j of element i when the slice has been marked from s on. -/
def markWrite (s : Int) (i j : Nat) : Value :=
  match j with
  | 0 => .int .i64 (s + i * 2)
  | 1 => .int .u64 (s + i * 2 + 1)
  | _ => .bool false

theorem markWriteS_any (v : Value) (bv : Nat) (xs : List WriteE) (s : Int) (w : World) (hs0 : 0 ≤ s) (hs1 : s ≤ 100000000) (hn : xs.length ≤ 1048576) (hv : ERow eWrite w bv v xs) :
    Calls Try.prog 81 #[v, .int .i64 s] w fun e w' => e = .returned (.int .i64 (s + xs.length * 2)) ∧ EHas eWrite w' v xs.length (markWrite s) ∧ w.grownBy w' v.ownBlock := by
  obtain ⟨a, c, rfl, ha⟩ := hv.form
  by_cases h0 : xs.length = 0
  · rw [h0]
    clear ha hv
    go_enter Try.func81, Try.ntmps81
    go_wp2
    go_loopw [1, 5] (fun m i wr => i = .int .i64 0 ∧ m = .int .i64 s ∧ wr = w) (fun _ i _ => 0)
    case atStart => exact ⟨rfl, rfl, rfl⟩
    case round =>
      obtain ⟨rfl, rfl, rfl⟩ := hrel
      go_wp2
      go_ret
      exact ⟨by simp, ⟨a, c, rfl, fun h => absurd h (by omega)⟩, World.grownBy.refl _ _⟩
  · obtain ⟨g, N, f, rfl, _, hr, hN, hf⟩ := ha (by omega)
    have hN' : xs.length * 2 ≤ N := hN
    clear ha hf hv hN
    go_enter Try.func81, Try.ntmps81
    go_wp2
    go_loopw [1, 5] (fun m i wr => ∃ k : Nat, k ≤ xs.length ∧ i = .int .i64 k ∧ m = .int .i64 (s + k * 2) ∧ (∃ f, wr.rowIs g 178 N f ∧ ∀ i, i < k → ∀ j, j < 2 → f (i * 2 + j) = markWrite s i j) ∧ w.grownBy wr (some g)) (fun _ i _ => xs.length - (intOf i).toNat)
    case atStart => exact ⟨0, Nat.zero_le _, rfl, by simp, ⟨_, hr, fun i hi => absurd hi (by omega)⟩, World.grownBy.refl _ _⟩
    case round =>
      obtain ⟨k, hk, rfl, rfl, ⟨f, hrow, hf⟩, hb⟩ := hrel
      by_cases hlt : k < xs.length
      · have HF : Hid _ := hf
        have HROW : Hid (wr.rowIs g _ N f) := hrow
        have HB : Hid (w.grownBy wr _) := hb
        have f0 := hrow.frozen (k * 2)
        have o0 := hrow.cell (i := k * 2) (by omega)
        have f1 := hrow.frozen (k * 2 + 1)
        have o1 := hrow.cell (i := k * 2 + 1) (by omega)
        generalize f (k * 2) = u100 at o0
        generalize f (k * 2 + 1) = u101 at o1
        have L1 : (0 : Int) ≤ (k : Int) := by omega
        have L2 : (k : Int) < (xs.length : Int) := by omega
        clear hf hrow hb hr
        go_wp2
        go_roundw
        case rel =>
          refine ⟨k + 1, by omega, by go_num, by go_num, ⟨_, (HROW.out.set (k * 2) _).set (k * 2 + 1) _, ?_⟩, eGrown_set (eGrown_set (HB.out) _ _) _ _⟩
          intro i hi j hj
          by_cases e : i = k
          · subst e
            rcases (show j = 0 ∨ j = 1 by omega) with rfl | rfl
            · simp [markWrite]
            · simp [markWrite]
          · have hik : i < k := by omega
            rw [← HF.out i hik j hj]
            rw [if_neg (by omega)]; rw [if_neg (by omega)]
        case measure => simp [intOf]; omega
      · have e : k = xs.length := by omega
        subst e
        go_wp2
        go_ret
        exact ⟨rfl, ⟨_, c, rfl, fun _ => ⟨g, N, f, rfl, hrow, hN', hf⟩⟩, hb⟩

theorem heldWriteS_any (v : Value) (n : Nat) (s : Int) (w : World) (hs0 : 0 ≤ s) (hs1 : s ≤ 100000000) (hn : n ≤ 1048576) (hv : EHas eWrite w v n (markWrite s)) :
    Calls Try.prog 85 #[v, .int .i64 s] w fun e w' => e = .returned (.int .i64 (s + n * 2)) ∧ Below w.heap.size w w' := by
  obtain ⟨a, c, rfl, ha⟩ := hv
  go_enter Try.func85, Try.ntmps85
  go_wp2
  go_loopw [1, 5] (fun m i wr => ∃ k : Nat, k ≤ n ∧ i = .int .i64 k ∧ m = .int .i64 (s + k * 2) ∧ Below w.heap.size w wr) (fun _ i _ => n - (intOf i).toNat)
  case atStart => exact ⟨0, Nat.zero_le _, rfl, by simp, Below.refl _ _⟩
  case round =>
    obtain ⟨k, hk, rfl, rfl, hb⟩ := hrel
    by_cases hlt : k < n
    · obtain ⟨g, N, f, rfl, hr, hN, hf⟩ := ha (by omega)
      have hN' : n * 2 ≤ N := hN
      have hr1 : wr.rowIs g 178 N f := hr.of_block (hb.block g hr.lt)
      have q0 := hr1.cell (i := k * 2) (by omega)
      have q1 := hr1.cell (i := k * 2 + 1) (by omega)
      rw [show f (k * 2) = _ from hf k hlt 0 (by decide)] at q0
      rw [show f (k * 2 + 1) = _ from hf k hlt 1 (by decide)] at q1
      have c0 : wr.cell? ⟨g, k * 2, none⟩ = some (.int .i64 (s + k * 2)) := q0
      have c1 : wr.cell? ⟨g, k * 2 + 1, none⟩ = some (.int .u64 (s + k * 2 + 1)) := q1
      clear q0 q1
      have L1 : (0 : Int) ≤ (k : Int) := by omega
      have L2 : (k : Int) < (n : Int) := by omega
      clear hf ha hr hr1 hN
      go_wp2
      go_roundw
      case rel => exact ⟨k + 1, by omega, by go_num, by go_num, hb⟩
      case measure => simp [intOf]; omega
    · have e : k = n := by omega
      subst e
      go_wp2
      go_ret
      exact ⟨rfl, hb⟩
end Go.Proofs.Ytnmhkgmmpkjjeab
