import Derived.Test.YtnmhkgmmpkjjeabMem
import Derived.Test.YtnmhkgmmpkjjeabERow
namespace Go.Proofs.Ytnmhkgmmpkjjeab
open Go.ChangeShapes Go.WideShapes Go.ChangeAt Go.RowKit
set_option linter.unusedVariables false
attribute [local go_sem ↓] Go.wp_at_zero Go.wp_at_succ

def eWord : Elt Int := ⟨84, 1, fun x => [.int .u64 x], 0, by omega, fun _ => rfl⟩
theorem IRow.erow {w : World} {g base : Nat} {zs : List Int} (h : IRow w g zs) (hb : base ≤ g) (hn : zs.length ≤ 1048576) : ERow eWord w base (.slice (some ⟨g, 0, none⟩) zs.length zs.length) zs := by
  refine ERow.of_row (cap := zs.length) rfl hb h (by simp [eWord]) (Nat.le_refl _) (by unfold maxLen; omega) ?_
  intro i hi j hj
  have : j = 0 := by simp [eWord] at hj; omega
  subst this
  simp [eCell, eWord, eAt]
/-- A slice of words, cell by cell. -/
theorem eWord_form {w : World} {base : Nat} {v : Value} {zs : List Int} (h : ERow eWord w base v zs) : ∃ a cap, v = .slice a zs.length cap ∧ (0 < zs.length → ∃ g N f, a = some ⟨g, 0, none⟩ ∧ base ≤ g ∧ w.rowIs g 84 N f ∧ zs.length ≤ N ∧ ∀ i, i < zs.length → f i = .int .u64 (zs.getD i 0)) := by
  obtain ⟨a, c, e, ha⟩ := h.form
  refine ⟨a, c, e, fun h0 => ?_⟩
  obtain ⟨g, N, f, p, q, r, s, t⟩ := ha h0
  refine ⟨g, N, f, p, q, r, by simpa [eWord] using s, fun i hi => ?_⟩
  have := t i hi 0 (by decide)
  simpa [eCell, eWord, eAt] using this

theorem eqU64S_same (v u : Value) (bv bu : Nat) (zs : List Int) (w : World) (hn : zs.length ≤ 1048576) (hv : ERow eWord w bv v zs) (hu : ERow eWord w bu u zs) :
    Calls Try.prog 58 #[v, u] w fun e w' => e = .returned (.bool true) ∧ Below w.heap.size w w' := by
  obtain ⟨a, c, rfl, ha⟩ := eWord_form hv
  obtain ⟨b, d, rfl, hb⟩ := eWord_form hu
  clear hv hu
  go_enter Try.func58, Try.ntmps58
  go_wp2
  go_loopw [5] (fun i wr => ∃ k : Nat, k ≤ zs.length ∧ i = .int .i64 k ∧ Below w.heap.size w wr) (fun i _ => zs.length - (intOf i).toNat)
  case atStart => exact ⟨0, Nat.zero_le _, rfl, Below.refl _ _⟩
  case round =>
    obtain ⟨k, hk, rfl, hbl⟩ := hrel
    by_cases hlt : k < zs.length
    · obtain ⟨g, N, f, rfl, _, hr, hN, hf⟩ := ha (by omega)
      obtain ⟨h, M, f', rfl, _, hr', hM, hf'⟩ := hb (by omega)
      have hr1 : wr.rowIs g 84 N f := hr.of_block (hbl.block g hr.lt)
      have hr2 : wr.rowIs h 84 M f' := hr'.of_block (hbl.block h hr'.lt)
      have c1 := hr1.cell (i := k) (by omega)
      have c2 := hr2.cell (i := k) (by omega)
      rw [hf k hlt] at c1
      rw [hf' k hlt] at c2
      generalize zs.getD k 0 = Z at *
      have L1 : (0 : Int) ≤ (k : Int) := by omega
      have L2 : (k : Int) < (zs.length : Int) := by omega
      have HB : Hid (Below _ _ _) := hbl
      clear ha hb hr hr' hr1 hr2 hf hf' hbl
      go_wp2
      go_quiet (fail)
      go_wp2
      go_roundw
      case rel => exact ⟨k + 1, by omega, by go_num, bDrewN HB.out _⟩
      case measure => simp [intOf]; omega
    · go_wp2
      go_ret
      exact ⟨rfl, hbl⟩
theorem eqMemE_same (v u : Value) (bv bu : Nat) (zs : List Int) (w : World) (hn : zs.length ≤ 1048576) (hv : ERow eWord w bv v zs) (hu : ERow eWord w bu u zs) :
    Calls Try.prog 17 #[.agg #[v], .agg #[u]] w fun e w' => e = .returned (.bool true) ∧ Below w.heap.size w w' := by
  have he := fun wX (hX : Below w.heap.size w wX) => eqU64S_same v u bv bu zs wX hn (hv.below hX) (hu.below hX)
  obtain ⟨a, c, rfl, _⟩ := eWord_form hv
  obtain ⟨b, d, rfl, _⟩ := eWord_form hu
  have HE : Hid _ := he
  clear he
  go_enter Try.func17, Try.ntmps17
  go_wp2_with fail
  refine (HE.out _ ?_).mono ?_
  · exact ((Below.refl _ _).alloc (Nat.le_refl _) _).alloc (by simp) _
  rintro e w1 ⟨rfl, hb⟩
  go_wp2
  go_ret
  exact ⟨rfl, (((Below.refl _ _).alloc (Nat.le_refl _) _).alloc (by simp) _).trans (hb.mono (by simp <;> omega))⟩

def markWord (s : Int) (i _j : Nat) : Value := .int .u64 (s + i)
theorem markU64S_any (v : Value) (bv : Nat) (zs : List Int) (s : Int) (w : World) (hs0 : 0 ≤ s) (hs1 : s ≤ 100000000) (hn : zs.length ≤ 1048576) (hv : ERow eWord w bv v zs) :
    Calls Try.prog 59 #[v, .int .i64 s] w fun e w' => e = .returned (.int .i64 (s + zs.length)) ∧ EHas eWord w' v zs.length (markWord s) ∧ w.grownBy w' v.ownBlock := by
  obtain ⟨a, c, rfl, ha⟩ := eWord_form hv
  by_cases h0 : zs.length = 0
  · rw [h0]
    clear ha hv
    go_enter Try.func59, Try.ntmps59
    go_wp2
    go_loopw [1, 5] (fun m i wr => i = .int .i64 0 ∧ m = .int .i64 s ∧ wr = w) (fun _ i _ => 0)
    case atStart => exact ⟨rfl, rfl, rfl⟩
    case round =>
      obtain ⟨rfl, rfl, rfl⟩ := hrel
      go_wp2
      go_ret
      exact ⟨by simp, ⟨a, c, rfl, fun h => absurd h (by omega)⟩, World.grownBy.refl _ _⟩
  · obtain ⟨g, N, f, rfl, _, hr, hN, hf⟩ := ha (by omega)
    clear ha hf hv
    go_enter Try.func59, Try.ntmps59
    go_wp2
    go_loopw [1, 5] (fun m i wr => ∃ k : Nat, k ≤ zs.length ∧ i = .int .i64 k ∧ m = .int .i64 (s + k) ∧ (∃ f, wr.rowIs g 84 N f ∧ ∀ i, i < k → f i = .int .u64 (s + i)) ∧ w.grownBy wr (some g)) (fun _ i _ => zs.length - (intOf i).toNat)
    case atStart => exact ⟨0, Nat.zero_le _, rfl, by simp, ⟨_, hr, fun i hi => absurd hi (by omega)⟩, World.grownBy.refl _ _⟩
    case round =>
      obtain ⟨k, hk, rfl, rfl, ⟨f, hrow, hf⟩, hb⟩ := hrel
      by_cases hlt : k < zs.length
      · have HF : Hid _ := hf
        have HROW : Hid (wr.rowIs g _ N f) := hrow
        have HB : Hid (w.grownBy wr _) := hb
        have f0 := hrow.frozen k
        have o0 := hrow.cell (i := k) (by omega)
        generalize f k = u100 at o0
        have L1 : (0 : Int) ≤ (k : Int) := by omega
        have L2 : (k : Int) < (zs.length : Int) := by omega
        clear hf hrow hb hr
        go_wp2
        go_roundw
        case rel =>
          refine ⟨k + 1, by omega, by go_num, by go_num, ⟨_, HROW.out.set k _, ?_⟩, eGrown_set HB.out _ _⟩
          intro i hi
          by_cases e : i = k
          · subst e; simp
          · rw [if_neg e]; exact HF.out i (by omega)
        case measure => simp [intOf]; omega
      · have e : k = zs.length := by omega
        subst e
        go_wp2
        go_ret
        refine ⟨rfl, ⟨_, c, rfl, fun _ => ⟨g, N, f, rfl, hrow, by simpa [eWord] using hN, fun i hi j hj => ?_⟩⟩, hb⟩
        have : j = 0 := by simp [eWord] at hj; omega
        subst this
        simpa [eWord, markWord] using hf i hi
theorem markMemE_any (v : Value) (bv : Nat) (zs : List Int) (s : Int) (w : World) (hs0 : 0 ≤ s) (hs1 : s ≤ 100000000) (hn : zs.length ≤ 1048576) (hv : ERow eWord w bv v zs) :
    Calls Try.prog 18 #[.agg #[v], .int .i64 s] w fun e w' => e = .returned (.int .i64 (s + zs.length)) ∧ EHas eWord w' v zs.length (markWord s) ∧ w.grownBy w' v.ownBlock := by
  have he := fun wX (hX : Below w.heap.size w wX) => markU64S_any v bv zs s wX hs0 hs1 hn (hv.below hX)
  obtain ⟨a, c, rfl, _⟩ := eWord_form hv
  have HE : Hid _ := he
  clear he
  go_enter Try.func18, Try.ntmps18
  go_wp2_with fail
  refine (HE.out _ ?_).mono ?_
  · exact (Below.refl _ _).alloc (Nat.le_refl _) _
  rintro e w1 ⟨rfl, hh, hb⟩
  have HH : Hid (EHas _ _ _ _ _) := hh
  clear hh
  go_wp2
  go_ret
  refine ⟨rfl, HH.out, hb.os, hb.tape, hb.output, ?_, fun j hj hne => ?_⟩
  · have := hb.size; simp at this; omega
  · exact (hb.block j (by simp; omega) hne).trans (Below.heap_alloc _ _ _ hj)

theorem heldU64S_any (v : Value) (n : Nat) (s : Int) (w : World) (hs0 : 0 ≤ s) (hs1 : s ≤ 100000000) (hn : n ≤ 1048576) (hv : EHas eWord w v n (markWord s)) :
    Calls Try.prog 147 #[v, .int .i64 s] w fun e w' => e = .returned (.int .i64 (s + n)) ∧ Below w.heap.size w w' := by
  obtain ⟨a, c, rfl, ha⟩ := hv
  go_enter Try.func147, Try.ntmps147
  go_wp2
  go_loopw [1, 5] (fun m i wr => ∃ k : Nat, k ≤ n ∧ i = .int .i64 k ∧ m = .int .i64 (s + k) ∧ Below w.heap.size w wr) (fun _ i _ => n - (intOf i).toNat)
  case atStart => exact ⟨0, Nat.zero_le _, rfl, by simp, Below.refl _ _⟩
  case round =>
    obtain ⟨k, hk, rfl, rfl, hb⟩ := hrel
    by_cases hlt : k < n
    · obtain ⟨g, N, f, rfl, hr, hN, hf⟩ := ha (by omega)
      have hN' : n ≤ N := by simpa [eWord] using hN
      have hr1 : wr.rowIs g 84 N f := hr.of_block (hb.block g hr.lt)
      have c0 := hr1.cell (i := k) (by omega)
      have e0 : f k = .int .u64 (s + k) := by simpa [eWord, markWord] using hf k hlt 0 (by decide)
      rw [e0] at c0
      have L1 : (0 : Int) ≤ (k : Int) := by omega
      have L2 : (k : Int) < (n : Int) := by omega
      clear hf ha hr hr1 hN e0
      go_wp2
      go_roundw
      case rel => exact ⟨k + 1, by omega, by go_num, by go_num, hb⟩
      case measure => simp [intOf]; omega
    · have e : k = n := by omega
      subst e
      go_wp2
      go_ret
      exact ⟨rfl, hb⟩
theorem heldMemE_any (v : Value) (n : Nat) (s : Int) (w : World) (hs0 : 0 ≤ s) (hs1 : s ≤ 100000000) (hn : n ≤ 1048576) (hv : EHas eWord w v n (markWord s)) :
    Calls Try.prog 84 #[.agg #[v], .int .i64 s] w fun e w' => e = .returned (.int .i64 (s + n)) ∧ Below w.heap.size w w' := by
  have he := fun wX (hX : Below w.heap.size w wX) => heldU64S_any v n s wX hs0 hs1 hn (hv.below hX)
  obtain ⟨a, c, rfl, _⟩ := hv
  have HE : Hid _ := he
  clear he
  go_enter Try.func84, Try.ntmps84
  go_wp2_with fail
  refine (HE.out _ ?_).mono ?_
  · exact (Below.refl _ _).alloc (Nat.le_refl _) _
  rintro e w1 ⟨rfl, hb⟩
  go_wp2
  go_ret
  exact ⟨rfl, ((Below.refl _ _).alloc (Nat.le_refl _) _).trans (hb.mono (by simp))⟩
end Go.Proofs.Ytnmhkgmmpkjjeab
