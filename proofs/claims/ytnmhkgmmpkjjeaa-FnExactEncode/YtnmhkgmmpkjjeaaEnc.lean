import Derived.Test.YtnmhkgmmpkjjeaaDecI
import Derived.Deep.RegionHeld3
import Derived.Deep.DrawnRows
namespace Go.Proofs.Ytnmhkgmmpkjjeaa
open Go.ChangeShapes Go.WideShapes Go.ChangeAt Go.RowKit
set_option linter.unusedVariables false
set_option maxRecDepth 100000
attribute [local go_sem ↓] Go.wp_at_zero Go.wp_at_succ

theorem same_yes (k o p : Int) (w : World) :
    Calls Try.prog 94 #[.agg #[.int .i64 k, .int .i64 o, .int .i64 p], .agg #[.int .i64 k, .int .i64 o, .int .i64 p]] w fun e w' => e = .returned (.bool true) ∧ Below w.heap.size w w' := by
  go_enter Try.func94, Try.ntmps94
  go_wp2
  go_ret
  exact ⟨rfl, ((Below.refl _ _).alloc (Nat.le_refl _) _).alloc (by simp) _⟩
theorem same_no (k o p k' o' p' : Int) (h : ¬ (k = k' ∧ o = o' ∧ p = p')) (w : World) :
    Calls Try.prog 94 #[.agg #[.int .i64 k, .int .i64 o, .int .i64 p], .agg #[.int .i64 k', .int .i64 o', .int .i64 p']] w fun e w' => e = .returned (.bool false) ∧ Below w.heap.size w w' := by
  by_cases a : k = k'
  · by_cases b : o = o'
    · have c : (p == p') = false := by simp; intro c; exact h ⟨a, b, c⟩
      subst a b
      clear h
      go_enter Try.func94, Try.ntmps94
      go_wp2
      go_ret
      exact ⟨rfl, ((Below.refl _ _).alloc (Nat.le_refl _) _).alloc (by simp) _⟩
    · have b' : (o == o') = false := by simpa using b
      subst a
      clear h b
      go_enter Try.func94, Try.ntmps94
      go_wp2
      go_ret
      exact ⟨rfl, ((Below.refl _ _).alloc (Nat.le_refl _) _).alloc (by simp) _⟩
  · have a' : (k == k') = false := by simpa using a
    clear h a
    go_enter Try.func94, Try.ntmps94
    go_wp2
    go_ret
    exact ⟨rfl, ((Below.refl _ _).alloc (Nat.le_refl _) _).alloc (by simp) _⟩

/-- The one word that could mean a Desc. -/
def encW (k o p : Int) : Int := 1 + p * 4 + o * 4096 + (if k = 2 then 0 else 2)
abbrev Fits (l k o p : Int) : Prop := dKind l (encW k o p) = k ∧ dOut l (encW k o p) = o ∧ dPerm l (encW k o p) = p

theorem specEnc_kind (l k o p : Int) (h : ¬ (k = 1 ∨ k = 2 ∨ k = 3)) (w : World) :
    Calls Try.prog 34 #[.int .i64 l, .agg #[.int .i64 k, .int .i64 o, .int .i64 p]] w fun e w' => e = .returned (.int .u64 0) ∧ Below w.heap.size w w' := by
  have a : (k != 1) = true := by simp; omega
  have b : (k != 2) = true := by simp; omega
  have c : (k != 3) = true := by simp; omega
  clear h
  go_enter Try.func34, Try.ntmps34
  go_wp2
  go_ret
  exact ⟨rfl, (Below.refl _ _).alloc (Nat.le_refl _) _⟩
set_option maxHeartbeats 2000000 in
theorem specEnc_range (l k o p : Int) (h : k = 1 ∨ k = 2 ∨ k = 3) (h' : ¬ (0 ≤ o ∧ o < 65536 ∧ 0 ≤ p ∧ p ≤ 7)) (w : World) :
    Calls Try.prog 34 #[.int .i64 l, .agg #[.int .i64 k, .int .i64 o, .int .i64 p]] w fun e w' => e = .returned (.int .u64 0) ∧ Below w.heap.size w w' := by
  have r : o < 0 ∨ (0 ≤ o ∧ 65536 ≤ o) ∨ (0 ≤ o ∧ o < 65536 ∧ p < 0) ∨ (0 ≤ o ∧ o < 65536 ∧ 0 ≤ p ∧ 7 < p) := by omega
  clear h'
  rcases h with rfl | rfl | rfl <;> rcases r with r | ⟨r1, r2⟩ | ⟨r1, r2, r3⟩ | ⟨r1, r2, r3, r4⟩
  all_goals as_aux_lemma =>
    go_enter Try.func34, Try.ntmps34
    go_wp2
    go_ret
    exact ⟨rfl, (Below.refl _ _).alloc (Nat.le_refl _) _⟩
set_option maxHeartbeats 2000000 in
theorem specEnc_1 (l o p K O P : Int) (r : Bool) (a : 0 ≤ o) (b : o < 65536) (c : 0 ≤ p) (d : p ≤ 7)
    (hd : ∀ w, Calls Try.prog 27 #[.int .i64 l, .int .u64 (1 + p * 4 + o * 4096 + 2)] w fun e w' => e = .returned (.agg #[.int .i64 K, .int .i64 O, .int .i64 P]) ∧ Below w.heap.size w w')
    (hs : ∀ w, Calls Try.prog 94 #[.agg #[.int .i64 K, .int .i64 O, .int .i64 P], .agg #[.int .i64 1, .int .i64 o, .int .i64 p]] w fun e w' => e = .returned (.bool r) ∧ Below w.heap.size w w') (w : World) :
    Calls Try.prog 34 #[.int .i64 l, .agg #[.int .i64 1, .int .i64 o, .int .i64 p]] w fun e w' => e = .returned (.int .u64 (bif r then 1 + p * 4 + o * 4096 + 2 else 0)) ∧ Below w.heap.size w w' := by
  cases r
  all_goals as_aux_lemma =>
    go_enter Try.func34, Try.ntmps34
    go_wp2
    go_region_held3 (fun w' => w'.cell? ⟨w.heap.size, 0, none⟩ = some (.int .i64 1) ∧ w'.cell? ⟨w.heap.size, 1, none⟩ = some (.int .i64 o) ∧ w'.cell? ⟨w.heap.size, 2, none⟩ = some (.int .i64 p))
      (first | go_keep | (go_split_ands; refine ⟨?_, ?_, ?_⟩ <;> (rw [hb1.cell (by simp)]; simp)) | (go_split_ands; refine ⟨?_, ?_, ?_⟩ <;> (rw [hb2.cell (by have := hb1.size; simp at this ⊢; omega), hb1.cell (by simp)]; simp)))
      (first
        | (go_at_call 27; refine (hd _).mono ?_; rintro e w1 ⟨rfl, hb1⟩)
        | (go_at_call 94; refine (hs _).mono ?_; rintro e w2 ⟨rfl, hb2⟩))
    go_wp2
    go_ret
    refine ⟨rfl, ?_⟩
    have s1 := hb1.size
    simp at s1
    exact (((Below.refl _ _).alloc (Nat.le_refl _) _).drew.trans (hb1.mono (by simp))).trans (hb2.mono (by omega))
set_option maxHeartbeats 2000000 in
theorem specEnc_3 (l o p K O P : Int) (r : Bool) (a : 0 ≤ o) (b : o < 65536) (c : 0 ≤ p) (d : p ≤ 7)
    (hd : ∀ w, Calls Try.prog 27 #[.int .i64 l, .int .u64 (1 + p * 4 + o * 4096 + 2)] w fun e w' => e = .returned (.agg #[.int .i64 K, .int .i64 O, .int .i64 P]) ∧ Below w.heap.size w w')
    (hs : ∀ w, Calls Try.prog 94 #[.agg #[.int .i64 K, .int .i64 O, .int .i64 P], .agg #[.int .i64 3, .int .i64 o, .int .i64 p]] w fun e w' => e = .returned (.bool r) ∧ Below w.heap.size w w') (w : World) :
    Calls Try.prog 34 #[.int .i64 l, .agg #[.int .i64 3, .int .i64 o, .int .i64 p]] w fun e w' => e = .returned (.int .u64 (bif r then 1 + p * 4 + o * 4096 + 2 else 0)) ∧ Below w.heap.size w w' := by
  cases r
  all_goals as_aux_lemma =>
    go_enter Try.func34, Try.ntmps34
    go_wp2
    go_region_held3 (fun w' => w'.cell? ⟨w.heap.size, 0, none⟩ = some (.int .i64 3) ∧ w'.cell? ⟨w.heap.size, 1, none⟩ = some (.int .i64 o) ∧ w'.cell? ⟨w.heap.size, 2, none⟩ = some (.int .i64 p))
      (first | go_keep | (go_split_ands; refine ⟨?_, ?_, ?_⟩ <;> (rw [hb1.cell (by simp)]; simp)) | (go_split_ands; refine ⟨?_, ?_, ?_⟩ <;> (rw [hb2.cell (by have := hb1.size; simp at this ⊢; omega), hb1.cell (by simp)]; simp)))
      (first
        | (go_at_call 27; refine (hd _).mono ?_; rintro e w1 ⟨rfl, hb1⟩)
        | (go_at_call 94; refine (hs _).mono ?_; rintro e w2 ⟨rfl, hb2⟩))
    go_wp2
    go_ret
    refine ⟨rfl, ?_⟩
    have s1 := hb1.size
    simp at s1
    exact (((Below.refl _ _).alloc (Nat.le_refl _) _).drew.trans (hb1.mono (by simp))).trans (hb2.mono (by omega))
set_option maxHeartbeats 2000000 in
theorem specEnc_2 (l o p K O P : Int) (r : Bool) (a : 0 ≤ o) (b : o < 65536) (c : 0 ≤ p) (d : p ≤ 7)
    (hd : ∀ w, Calls Try.prog 27 #[.int .i64 l, .int .u64 (1 + p * 4 + o * 4096)] w fun e w' => e = .returned (.agg #[.int .i64 K, .int .i64 O, .int .i64 P]) ∧ Below w.heap.size w w')
    (hs : ∀ w, Calls Try.prog 94 #[.agg #[.int .i64 K, .int .i64 O, .int .i64 P], .agg #[.int .i64 2, .int .i64 o, .int .i64 p]] w fun e w' => e = .returned (.bool r) ∧ Below w.heap.size w w') (w : World) :
    Calls Try.prog 34 #[.int .i64 l, .agg #[.int .i64 2, .int .i64 o, .int .i64 p]] w fun e w' => e = .returned (.int .u64 (bif r then 1 + p * 4 + o * 4096 else 0)) ∧ Below w.heap.size w w' := by
  cases r
  all_goals as_aux_lemma =>
    go_enter Try.func34, Try.ntmps34
    go_wp2
    go_region_held3 (fun w' => w'.cell? ⟨w.heap.size, 0, none⟩ = some (.int .i64 2) ∧ w'.cell? ⟨w.heap.size, 1, none⟩ = some (.int .i64 o) ∧ w'.cell? ⟨w.heap.size, 2, none⟩ = some (.int .i64 p))
      (first | go_keep | (go_split_ands; refine ⟨?_, ?_, ?_⟩ <;> (rw [hb1.cell (by simp)]; simp)) | (go_split_ands; refine ⟨?_, ?_, ?_⟩ <;> (rw [hb2.cell (by have := hb1.size; simp at this ⊢; omega), hb1.cell (by simp)]; simp)))
      (first
        | (go_at_call 27; refine (hd _).mono ?_; rintro e w1 ⟨rfl, hb1⟩)
        | (go_at_call 94; refine (hs _).mono ?_; rintro e w2 ⟨rfl, hb2⟩))
    go_wp2
    go_ret
    refine ⟨rfl, ?_⟩
    have s1 := hb1.size
    simp at s1
    exact (((Below.refl _ _).alloc (Nat.le_refl _) _).drew.trans (hb1.mono (by simp))).trans (hb2.mono (by omega))

/-- What both Encodes answer. -/
def encI (l k o p : Int) : Int := if (k = 1 ∨ k = 2 ∨ k = 3) ∧ 0 ≤ o ∧ o < 65536 ∧ 0 ≤ p ∧ p ≤ 7 ∧ Fits l k o p then encW k o p else 0
theorem specEncode_any (l k o p : Int) (w : World) :
    Calls Try.prog 34 #[.int .i64 l, .agg #[.int .i64 k, .int .i64 o, .int .i64 p]] w fun e w' => e = .returned (.int .u64 (encI l k o p)) ∧ Below w.heap.size w w' := by
  unfold encI
  by_cases hk : k = 1 ∨ k = 2 ∨ k = 3
  · by_cases hr : 0 ≤ o ∧ o < 65536 ∧ 0 ≤ p ∧ p ≤ 7
    · obtain ⟨a, b, c, d⟩ := hr
      by_cases hf : Fits l k o p
      · rw [if_pos ⟨hk, a, b, c, d, hf⟩]
        by_cases h2 : k = 2
        · subst h2
          have e : encW 2 o p = 1 + p * 4 + o * 4096 := by simp [encW]
          obtain ⟨f1, f2, f3⟩ := hf
          rw [e] at f1 f2 f3 ⊢
          have hd := specDecode_any l (1 + p * 4 + o * 4096) (by omega) (by omega)
          unfold descV desc3 at hd
          rw [f1, f2, f3] at hd
          exact specEnc_2 l o p _ _ _ true a b c d hd (same_yes 2 o p) w
        · have e : encW k o p = 1 + p * 4 + o * 4096 + 2 := by simp [encW, h2]
          obtain ⟨f1, f2, f3⟩ := hf
          rw [e] at f1 f2 f3 ⊢
          have hd := specDecode_any l (1 + p * 4 + o * 4096 + 2) (by omega) (by omega)
          unfold descV desc3 at hd
          rw [f1, f2, f3] at hd
          rcases (show k = 1 ∨ k = 3 by omega) with rfl | rfl
          · exact specEnc_1 l o p _ _ _ true a b c d hd (same_yes 1 o p) w
          · exact specEnc_3 l o p _ _ _ true a b c d hd (same_yes 3 o p) w
      · rw [if_neg (fun h => hf h.2.2.2.2.2)]
        by_cases h2 : k = 2
        · subst h2
          have e : encW 2 o p = 1 + p * 4 + o * 4096 := by simp [encW]
          unfold Fits at hf
          rw [e] at hf
          have hd := specDecode_any l (1 + p * 4 + o * 4096) (by omega) (by omega)
          exact specEnc_2 l o p _ _ _ false a b c d hd (same_no _ _ _ 2 o p hf) w
        · have e : encW k o p = 1 + p * 4 + o * 4096 + 2 := by simp [encW, h2]
          unfold Fits at hf
          rw [e] at hf
          have hd := specDecode_any l (1 + p * 4 + o * 4096 + 2) (by omega) (by omega)
          rcases (show k = 1 ∨ k = 3 by omega) with rfl | rfl
          · exact specEnc_1 l o p _ _ _ false a b c d hd (same_no _ _ _ 1 o p hf) w
          · exact specEnc_3 l o p _ _ _ false a b c d hd (same_no _ _ _ 3 o p hf) w
    · rw [if_neg (fun h => hr ⟨h.2.1, h.2.2.1, h.2.2.2.1, h.2.2.2.2.1⟩)]
      exact specEnc_range l k o p hk hr w
  · rw [if_neg (fun h => hk h.1)]
    exact specEnc_kind l k o p hk w
end Go.Proofs.Ytnmhkgmmpkjjeaa
