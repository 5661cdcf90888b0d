import Derived.Test.YtnmhkgmmpkjjeabMemR
import Derived.WalkKit
import Derived.ProofKit
import Derived.OpenShut
import Derived.Below
import Derived.Deep.OwnRows
import Derived.Deep.QuietTactic
import Derived.BigQuiet
namespace Go.Proofs.Ytnmhkgmmpkjjeab
open Go.ChangeShapes Go.WideShapes Go.ChangeAt Go.RowKit
set_option linter.unusedVariables false

/-- A slice of words that can be read. -/
def Src (w : World) (v : Value) (zs : List Int) : Prop :=
  ∃ (a : Option Addr) (cap : Nat), v = .slice a zs.length cap ∧ (0 < zs.length → ∃ b o, a = some ⟨b, o, none⟩ ∧ b < w.heap.size ∧ ∀ i, i < zs.length → w.cell? ⟨b, o + i, none⟩ = some (.int .u64 (zs.getD i 0)))

theorem sz_any (a : Option Addr) (n cap : Nat) (left : Int) (h1 : n ≤ 9223372036854775807) (h0 : left = 1048576) (w : World) :
    Calls Try.prog 49 #[.slice a n cap, .int .i64 left] w fun e w' => e = .returned (.int .i64 (if (n : Int) ≤ 1048576 then 1048576 - n else -1)) ∧ w' = w := by
  subst h0
  by_cases h : (n : Int) ≤ 1048576
  · rw [if_pos h]
    go_enter Try.func49, Try.ntmps49
    go_wp2
    go_ret
    exact ⟨rfl, rfl⟩
  · rw [if_neg h]
    go_enter Try.func49, Try.ntmps49
    go_wp2
    go_ret
    exact ⟨rfl, rfl⟩
theorem szMem_any (a : Option Addr) (n cap : Nat) (h1 : n ≤ 9223372036854775807) (w : World) :
    Calls Try.prog 12 #[.agg #[.slice a n cap], .int .i64 1048576] w fun e w' => e = .returned (.int .i64 (if (n : Int) ≤ 1048576 then 1048576 - n else -1)) ∧ Below w.heap.size w w' := by
  have hs := sz_any a n cap 1048576 h1 rfl
  by_cases h : (n : Int) ≤ 1048576
  · rw [if_pos h] at hs ⊢
    go_enter Try.func12, Try.ntmps12
    go_wp2_with (go_at_call 49; refine (hs _).mono ?_; rintro e w' ⟨rfl, rfl⟩)
    go_ret
    exact ⟨rfl, (Below.refl _ _).alloc (Nat.le_refl _) _⟩
  · rw [if_neg h] at hs ⊢
    go_enter Try.func12, Try.ntmps12
    go_wp2_with (go_at_call 49; refine (hs _).mono ?_; rintro e w' ⟨rfl, rfl⟩)
    go_ret
    exact ⟨rfl, (Below.refl _ _).alloc (Nat.le_refl _) _⟩

/-- The copy of a slice of words: a new row. -/
theorem toU64_any (v : Value) (zs : List Int) (w : World) (hv : Src w v zs) (hn : zs.length ≤ 1048576) :
    Calls Try.prog 53 #[v] w fun e w' => e = .returned (.slice (some ⟨w.heap.size, 0, none⟩) zs.length zs.length) ∧ IRow w' w.heap.size zs ∧ Below w.heap.size w w' := by
  obtain ⟨a, cap, rfl, ha⟩ := hv
  have hmk := run_make_row' (P := Try.prog) 22 84 (.int .u64 0) 8 Try.underlying22 info_u64 rfl .i64 .i64 zs.length (by omega) (by omega)
  go_enter Try.func53, Try.ntmps53
  go_wp2
  clear hmk
  go_loopw [4] (fun i wr => ∃ k : Nat, k ≤ zs.length ∧ i = .int .i64 k ∧ wr.rowIs w.heap.size 84 zs.length (fun j => if j < k then .int .u64 (zs.getD j 0) else .int .u64 0) ∧ Below w.heap.size w wr) (fun i _ => zs.length - (intOf i).toNat)
  case atStart => exact ⟨0, Nat.zero_le _, rfl, (World.rowIs_made w (.int .u64 0) zs.length 84).congr (by intro i hi; simp), (Below.refl _ _).alloc (Nat.le_refl _) _⟩
  case round =>
    obtain ⟨k, hk, rfl, hrow, hb⟩ := hrel
    by_cases hlt : k < zs.length
    · obtain ⟨b, o, rfl, hbl, hc⟩ := ha (by omega)
      have hck : wr.cell? ⟨b, o + k, none⟩ = some (.int .u64 (zs.getD k 0)) := (hb.cell hbl).trans (hc k hlt)
      have hfz := hrow.frozen k
      have hold := hrow.cell hlt
      clear hc ha
      go_wp2
      go_roundw
      case rel =>
        refine ⟨k + 1, by omega, by go_num, (hrow.set k _).congr ?_, hb.setCell (Nat.le_refl _) _⟩
        intro j hj
        by_cases e : j = k
        · subst e; simp [List.getElem?_eq_getElem hj]
        · simp [e, show (j < k + 1) = (j < k) by simp; omega]
      case measure => simp [intOf]; omega
    · clear ha
      go_wp2
      go_ret
      refine ⟨rfl, hrow.congr ?_, hb⟩
      intro j hj
      rw [if_pos (by omega)]

theorem toMem_any (v : Value) (zs : List Int) (w : World) (hv : Src w v zs) (hn : zs.length ≤ 1048576) :
    Calls Try.prog 14 #[.agg #[v]] w fun e w' => ∃ g, e = .returned (.agg #[.slice (some ⟨g, 0, none⟩) zs.length zs.length]) ∧ w.heap.size ≤ g ∧ IRow w' g zs ∧ Below w.heap.size w w' := by
  have hv' : ∀ w1, Below w.heap.size w w1 → Src w1 v zs := by
    intro w1 hb
    obtain ⟨a, cap, rfl, ha⟩ := hv
    refine ⟨a, cap, rfl, fun h0 => ?_⟩
    obtain ⟨b, o, rfl, hbl, hc⟩ := ha h0
    exact ⟨b, o, rfl, Nat.lt_of_lt_of_le hbl hb.size, fun i hi => (hb.cell hbl).trans (hc i hi)⟩
  obtain ⟨a, cap, rfl, ha⟩ := hv
  clear ha
  go_enter Try.func14, Try.ntmps14
  go_wp2_with fail
  refine (toU64_any _ zs _ (hv' _ ?_) hn).mono ?_
  · exact (((Below.refl _ _).alloc (Nat.le_refl _) _).alloc (by simp) _).alloc (by simp <;> omega) _
  rintro e w1 ⟨rfl, hrow, hb⟩
  obtain ⟨hc1, hf1⟩ : (∀ b o, b < w.heap.size + 3 → w1.cell? ⟨b, o, none⟩ = (((w.alloc _).alloc _).alloc _).cell? ⟨b, o, none⟩) ∧ (∀ b o, b < w.heap.size + 3 → w1.frozen? ⟨b, o, none⟩ = (((w.alloc _).alloc _).alloc _).frozen? ⟨b, o, none⟩) :=
    ⟨fun b o h => hb.cell (p := ⟨b, o, none⟩) (by simp; omega), fun b o h => hb.frozen (p := ⟨b, o, none⟩) (by simp; omega)⟩
  have hz : w.heap.size + 2 < w1.heap.size := by have := hb.size; simp at this; omega
  have hl := hrow.lt
  simp at hl
  have HR : Hid (IRow w1 _ zs) := hrow
  clear hrow hv'
  go_wp2
  have hr := HR.out
  simp only [World.size_alloc] at hr
  refine bodyPost_ret (v := .agg #[.slice (some ⟨w.heap.size + 1 + 1 + 1, 0, none⟩) zs.length zs.length]) (by simp [results, Try.results14, go_sem, hc1]) rfl ⟨_, rfl, by omega, ?_, ?_⟩
  · exact World.rowIs.setOther (World.rowIs.setOther hr (by simp <;> omega) _) (by simp <;> omega) _
  · exact ((((((Below.refl _ _).alloc (Nat.le_refl _) _).alloc (by simp) _).alloc (by simp <;> omega) _).trans (hb.mono (by simp; omega))).setCell (by simp <;> omega) _).setCell (by simp) _

/-- Two rows of the same words are equal. -/
theorem eqU64_same (g h : Nat) (zs : List Int) (c d : Nat) (w : World) (hn : zs.length ≤ 1048576) (hg : IRow w g zs) (hh : IRow w h zs) :
    Calls Try.prog 58 #[.slice (some ⟨g, 0, none⟩) zs.length c, .slice (some ⟨h, 0, none⟩) zs.length d] w fun e w' => e = .returned (.bool true) ∧ Below w.heap.size w w' := by
  go_enter Try.func58, Try.ntmps58
  go_wp2
  go_loopw [5] (fun i wr => ∃ k : Nat, k ≤ zs.length ∧ i = .int .i64 k ∧ Below w.heap.size w wr) (fun i _ => zs.length - (intOf i).toNat)
  case atStart => exact ⟨0, Nat.zero_le _, rfl, Below.refl _ _⟩
  case round =>
    obtain ⟨k, hk, rfl, hb⟩ := hrel
    by_cases hlt : k < zs.length
    · have c1 := (hg.below hb hg.lt).cell hlt
      have c2 := (hh.below hb hh.lt).cell hlt
      go_wp2
      go_quiet (fail)
      go_wp2
      go_roundw
      case rel => exact ⟨k + 1, by omega, by go_num, bDrewN hb _⟩
      case measure => simp [intOf]; omega
    · go_wp2
      go_ret
      exact ⟨rfl, hb⟩
theorem eqMem_same (g h : Nat) (zs : List Int) (c d : Nat) (w : World) (hn : zs.length ≤ 1048576) (hg : IRow w g zs) (hh : IRow w h zs) :
    Calls Try.prog 17 #[.agg #[.slice (some ⟨g, 0, none⟩) zs.length c], .agg #[.slice (some ⟨h, 0, none⟩) zs.length d]] w fun e w' => e = .returned (.bool true) ∧ Below w.heap.size w w' := by
  go_enter Try.func17, Try.ntmps17
  go_wp2_with fail
  refine (eqU64_same g h zs c d _ hn ?_ ?_).mono ?_
  · exact World.rowIs.alloc (World.rowIs.alloc hg _) _
  · exact World.rowIs.alloc (World.rowIs.alloc hh _) _
  rintro e w1 ⟨rfl, hb⟩
  go_wp2
  go_ret
  exact ⟨rfl, (((Below.refl _ _).alloc (Nat.le_refl _) _).alloc (by simp) _).trans (hb.mono (by simp <;> omega))⟩

/-- The words of a row are overwritten; nothing else turns. -/
theorem markU64_any (g : Nat) (zs : List Int) (c : Nat) (w : World) (hn : zs.length ≤ 1048576) (hg : IRow w g zs) :
    Calls Try.prog 59 #[.slice (some ⟨g, 0, none⟩) zs.length c, .int .i64 1] w fun e w' => e = .returned (.int .i64 (1 + zs.length)) ∧ w.grownBy w' (some g) := by
  go_enter Try.func59, Try.ntmps59
  go_wp2
  go_loopw [1, 5] (fun m i wr => ∃ k : Nat, k ≤ zs.length ∧ i = .int .i64 k ∧ m = .int .i64 (1 + k) ∧ (∃ f, wr.rowIs g 84 zs.length f) ∧ w.grownBy wr (some g)) (fun _ i _ => zs.length - (intOf i).toNat)
  case atStart => exact ⟨0, Nat.zero_le _, rfl, rfl, ⟨_, hg⟩, World.grownBy.refl _ _⟩
  case round =>
    obtain ⟨k, hk, rfl, rfl, ⟨f, hrow⟩, hb⟩ := hrel
    by_cases hlt : k < zs.length
    · have hfz := hrow.frozen k
      have hold := hrow.cell hlt
      go_wp2
      go_roundw
      case rel =>
        refine ⟨k + 1, by omega, by go_num, by go_num, ⟨_, hrow.set k _⟩, ?_⟩
        exact ⟨hb.os, hb.tape, hb.output, by simpa using hb.size, fun j hj hne => (Below.heap_setCell _ _ _ _ (by intro e; exact hne (by rw [e]))).trans (hb.block j hj hne)⟩
      case measure => simp [intOf]; omega
    · have e : k = zs.length := by omega
      subst e
      go_wp2
      go_ret
      exact ⟨rfl, hb⟩
theorem markMem_any (g : Nat) (zs : List Int) (c : Nat) (w : World) (hn : zs.length ≤ 1048576) (hg : IRow w g zs) :
    Calls Try.prog 18 #[.agg #[.slice (some ⟨g, 0, none⟩) zs.length c], .int .i64 1] w fun e w' => e = .returned (.int .i64 (1 + zs.length)) ∧ w.grownBy w' (some g) := by
  go_enter Try.func18, Try.ntmps18
  go_wp2_with fail
  refine (markU64_any g zs c _ hn (World.rowIs.alloc hg _)).mono ?_
  rintro e w1 ⟨rfl, hb⟩
  go_wp2
  go_ret
  refine ⟨rfl, hb.os, hb.tape, hb.output, ?_, fun j hj hne => ?_⟩
  · have := hb.size; simp at this; omega
  · exact (hb.block j (by simp; omega) hne).trans (Below.heap_alloc _ _ _ hj)
end Go.Proofs.Ytnmhkgmmpkjjeab
