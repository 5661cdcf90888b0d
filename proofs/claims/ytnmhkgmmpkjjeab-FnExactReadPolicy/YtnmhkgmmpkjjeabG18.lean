import Derived.Test.YtnmhkgmmpkjjeabG16
import Derived.Test.YtnmhkgmmpkjjeabG17
import Derived.Test.YtnmhkgmmpkjjeabG01
namespace Go.Proofs.Ytnmhkgmmpkjjeab
open Go.ChangeShapes Go.WideShapes Go.ChangeAt Go.RowKit
set_option linter.unusedVariables false
set_option maxRecDepth 100000
attribute [local go_sem ↓] Go.wp_at_zero Go.wp_at_succ

/-! The pages joined to spans. -/
def lastS (out : List SpanE) : SpanE := eAt eSpan out (out.length - 1)
def more (l : SpanE) : SpanE := ⟨l.page, l.count + 1, l.out, l.perm, l.huge⟩
def spanStep (out : List SpanE) (s : SpanE) : List SpanE :=
  if s.count = 1 then (if 0 < out.length ∧ joinsB (lastS out) s = true then out.set (out.length - 1) (more (lastS out)) else out ++ [s]) else out
def spansTo (all : List St) : Nat → List SpanE
  | 0 => []
  | k + 1 => spanStep (spansTo all k) (pieceL all (k : Nat))
def SpW (k : Nat) (e : SpanE) : Prop := 0 ≤ e.page ∧ e.page ≤ 4096 ∧ 0 ≤ e.count ∧ e.count ≤ k ∧ -2000000 ≤ e.out ∧ e.out ≤ 2000000
theorem piece_w {all : List St} (hok : ∀ s ∈ all, StOk s) (p : Nat) (hp : p < 4096) (k : Nat) (hk : 1 ≤ k) : SpW k (pieceL all (p : Nat)) := by
  unfold pieceL
  cases hf : all.find? (inR all (p : Nat)) with
  | none =>
    show SpW k noSpan
    unfold SpW noSpan
    dsimp only
    omega
  | some s =>
    have hm := hok s (List.mem_of_find?_eq_some hf)
    have ho := objOf_ok hok s.name
    have a0 := hm.a0; have a1 := hm.a1; have b0 := ho.b0; have b1 := ho.b1
    refine ⟨?_, ?_, ?_, ?_, ?_, ?_⟩ <;> show _ ≤ _ <;> unfold pieceOf <;> dsimp only <;> omega
theorem spans_w {all : List St} (hok : ∀ s ∈ all, StOk s) : ∀ k, k ≤ 4096 → (spansTo all k).length ≤ k ∧ ∀ e ∈ spansTo all k, SpW k e
  | 0, _ => ⟨Nat.le_refl _, fun e h => by cases h⟩
  | k + 1, hk => by
    obtain ⟨h1, h2⟩ := spans_w hok k (by omega)
    have up : ∀ e, SpW k e → SpW (k + 1) e := fun e ⟨a, b, c, d, x, y⟩ => ⟨a, b, c, by omega, x, y⟩
    have hpw := piece_w hok k (by omega) (k + 1) (by omega)
    show (spanStep (spansTo all k) (pieceL all (k : Nat))).length ≤ k + 1 ∧ ∀ e ∈ spanStep (spansTo all k) (pieceL all (k : Nat)), SpW (k + 1) e
    unfold spanStep
    split
    · split
      · rename_i hj
        refine ⟨by rw [List.length_set]; omega, fun e he => ?_⟩
        rcases List.mem_or_eq_of_mem_set he with he | he
        · exact up e (h2 e he)
        · have hl : lastS (spansTo all k) ∈ spansTo all k := by
            unfold lastS eAt
            rw [List.getD_eq_getElem?_getD, List.getElem?_eq_getElem (by omega)]
            exact List.getElem_mem _
          obtain ⟨a, b, c, d, x, y⟩ := h2 _ hl
          rw [he]
          unfold more
          exact ⟨a, b, by show 0 ≤ _ + 1; omega, by show _ + 1 ≤ ((k + 1 : Nat) : Int); omega, x, y⟩
      · refine ⟨by simp; omega, fun e he => ?_⟩
        rcases List.mem_append.1 he with he | he
        · exact up e (h2 e he)
        · rw [List.mem_singleton] at he
          rw [he]; exact hpw
    · exact ⟨by omega, fun e he => up e (h2 e he)⟩
theorem eat_set {xs : List SpanE} {m i : Nat} {x : SpanE} (hi : i < xs.length) : eAt eSpan (xs.set m x) i = if i = m then x else eAt eSpan xs i := by
  unfold eAt
  rw [List.getD_eq_getElem?_getD, List.getD_eq_getElem?_getD, List.getElem?_set]
  by_cases e : m = i
  · subst e; simp [hi]
  · simp [e, Ne.symm e]
/-- A span of a row is written over. -/
theorem erow_span_set {w : World} {b g c m : Nat} {xs : List SpanE} {P C O R : Int} {G : Bool} (h : ERow eSpan w b (.slice (some ⟨g, 0, none⟩) xs.length c) xs) (hm : m < xs.length) :
    ERow eSpan (((((w.setCell ⟨g, m * 5, none⟩ (.int .i64 P)).setCell ⟨g, m * 5 + 1, none⟩ (.int .i64 C)).setCell ⟨g, m * 5 + 2, none⟩ (.int .i64 O)).setCell ⟨g, m * 5 + 3, none⟩ (.int .i64 R)).setCell ⟨g, m * 5 + 4, none⟩ (.bool G)) b (.slice (some ⟨g, 0, none⟩) xs.length c) (xs.set m ⟨P, C, O, R, G⟩) := by
  rcases h.2 with ⟨e, h0⟩ | ⟨g', cap, cur, e, hb, hg, hn, hmx, hs, ht⟩
  · cases e
  · simp only [Value.slice.injEq, Option.some.injEq, Addr.mk.injEq, and_true, true_and] at e
    obtain ⟨rfl, rfl⟩ := e
    have hr : w.rowIs g 127 cur.size (fun i => cur.getD i (.bool false)) := ⟨cur, hg, rfl, fun i hi => by simp [hi]⟩
    have hs' : cur.size = c * eSpan.sz := hs
    refine ERow.of_row (cap := c) (by simp) hb (((((hr.set (m * 5) _).set (m * 5 + 1) _).set (m * 5 + 2) _).set (m * 5 + 3) _).set (m * 5 + 4) _) hs' (by simpa using hn) hmx ?_
    intro i hi j hj
    have hj5 : j < 5 := hj
    have e5 : i * eSpan.sz + j = i * 5 + j := rfl
    rw [e5]
    have hold : cur.getD (i * 5 + j) (.bool false) = eCell eSpan xs i j := by
      have hu := ecells_at eSpan xs i (by simpa using hi) j hj
      rw [← ht, List.getElem?_take, if_pos (cell_lt (by simpa using hi) hj)] at hu
      simp only [Array.getElem?_toList] at hu
      have e6 : i * eSpan.sz + j = i * 5 + j := rfl
      rw [e6] at hu
      simp [Array.getD_eq_getD_getElem?, hu, eCell]
    by_cases e : i = m
    · subst e
      unfold eCell
      rw [eat_set (by simpa using hi), if_pos rfl]
      rcases (show j = 0 ∨ j = 1 ∨ j = 2 ∨ j = 3 ∨ j = 4 by omega) with rfl | rfl | rfl | rfl | rfl <;> simp [eSpan]
    · have hne : ∀ q, q < 5 → i * 5 + j ≠ m * 5 + q := fun q hq => by omega
      have n0 := hne 0 (by omega); have n1 := hne 1 (by omega); have n2 := hne 2 (by omega); have n3 := hne 3 (by omega); have n4 := hne 4 (by omega)
      rw [Nat.add_zero] at n0
      simp only [n0, n1, n2, n3, n4, if_false]
      rw [hold]
      unfold eCell
      rw [eat_set (by simpa using hi), if_neg e]
end Go.Proofs.Ytnmhkgmmpkjjeab
