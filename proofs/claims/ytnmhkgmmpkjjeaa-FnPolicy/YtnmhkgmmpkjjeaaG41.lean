import Derived.Test.YtnmhkgmmpkjjeaaG02
import Derived.Test.YtnmhkgmmpkjjeaaG01
import Derived.Deep.DeepCutAuto
namespace Go.Proofs.Ytnmhkgmmpkjjeaa
open Go.ChangeShapes Go.WideShapes Go.ChangeAt Go.RowKit
set_option linter.unusedVariables false
set_option maxRecDepth 100000

/-! Drawn areas (version 0). -/
structure ArE where
  page : Int
  count : Int
  out : Int
  perm : Int
  huge : Bool
  same : Int
  gone : Bool
def eArea : Elt ArE := ⟨219, 7, fun x => [.int .i64 x.page, .int .i64 x.count, .int .i64 x.out, .int .i64 x.perm, .bool x.huge, .int .i64 x.same, .bool x.gone], ⟨0, 0, 0, 0, false, 0, false⟩, by omega, fun _ => rfl⟩
theorem infoArea : (Try.prog.info? 219).map (fun i => (i.zero, i.size, i.bytes)) = some (some (.agg #[.int .i64 0, .int .i64 0, .int .i64 0, .int .i64 0, .bool false, .int .i64 0, .bool false]), 7, 56) := by kernel_rfl
def arSlot (i : Nat) (a slot : Int) : Int := if i = 0 then slot else slot + 1 + (if 2 < a then a - 2 else 0) + (if a = 5 then 3 else 0)
def ar0 (i : Nat) (slot b c : Int) : ArE := ⟨slot * 64, b + 1, 1024 * (i : Int) + 16, c % 7 + 1, decide (10 ≤ c), -1, false⟩
def ar1 (b : Int) (x : ArE) : ArE := if 6 ≤ b then ⟨x.page, (b - 5) * 8, x.out, x.perm, x.huge, x.same, x.gone⟩ else x
def ar2 (b : Int) (x : ArE) : ArE := if b = 11 then ⟨x.page, 64, x.out, x.perm, x.huge, x.same, x.gone⟩ else x
def ar3 (b d : Int) (x : ArE) : ArE := if d % 4 = 0 ∧ b < 10 then ⟨x.page + 5, x.count, x.out + 5, x.perm, x.huge, x.same, x.gone⟩ else x
def ar4 (d : Int) (x : ArE) : ArE := if d = 1 then ⟨x.page, x.count, x.out + 3, x.perm, x.huge, x.same, x.gone⟩ else x
def ar5 (i : Nat) (d : Int) (l : List ArE) (x : ArE) : ArE :=
  if (d = 2 ∨ 12 ≤ d) ∧ 0 < i ∧ (eAt eArea l (i - 1)).same < 0 then
    ⟨(eAt eArea l (i - 1)).page + (eAt eArea l (i - 1)).count, if 40 < x.count then 40 else x.count, (eAt eArea l (i - 1)).out + (eAt eArea l (i - 1)).count, if d = 13 then x.perm else (eAt eArea l (i - 1)).perm, (eAt eArea l (i - 1)).huge, x.same, x.gone⟩
  else x
def ar6 (i : Nat) (d : Int) (l : List ArE) (x : ArE) : ArE :=
  if d = 3 ∧ 0 < i ∧ (eAt eArea l 0).count ≤ 48 then ⟨x.page, (eAt eArea l 0).count, (eAt eArea l 0).out, x.perm % 3 + 1, x.huge, 0, x.gone⟩ else x
def ar7 (e : Int) (x : ArE) : ArE := if e = 7 then ⟨x.page, x.count, x.out, x.perm, x.huge, x.same, true⟩ else x
def ar8 (x : ArE) : ArE := if x.same = 0 then ⟨x.page, x.count, x.out, (x.perm - 1) % 3 + 1, x.huge, x.same, x.gone⟩ else x
def arStep (i : Nat) (slot b c d e : Int) (l : List ArE) : ArE := ar8 (ar7 e (ar6 i d l (ar5 i d l (ar4 d (ar3 b d (ar2 b (ar1 b (ar0 i slot b c))))))))
def areas (cs : List Int) (p : Nat) : Nat → List ArE × Int
  | 0 => ([], 0)
  | k + 1 => ((areas cs p k).1 ++ [arStep k (arSlot k (tkV cs (p + 5 * k) 6) (areas cs p k).2) (tkV cs (p + 5 * k + 1) 12) (tkV cs (p + 5 * k + 2) 32) (tkV cs (p + 5 * k + 3) 16) (tkV cs (p + 5 * k + 4) 16) (areas cs p k).1], arSlot k (tkV cs (p + 5 * k) 6) (areas cs p k).2)
def arN (cs : List Int) : Nat := if 8 < 3 + cs.length / 12 then 8 else 3 + cs.length / 12
theorem arN_bd (cs : List Int) : 3 ≤ arN cs ∧ arN cs ≤ 8 := by unfold arN; split <;> omega
structure AB (K : Int) (x : ArE) : Prop where
  p : 0 ≤ x.page ∧ x.page ≤ K
  c : 0 ≤ x.count ∧ x.count ≤ 64
  o : 0 ≤ x.out ∧ x.out ≤ K
  r : 1 ≤ x.perm ∧ x.perm ≤ 7
  s : x.same = -1 ∨ x.same = 0
theorem AB.mono {K K' : Int} {x : ArE} (h : AB K x) (hk : K ≤ K') : AB K' x := ⟨by have := h.p; omega, h.c, by have := h.o; omega, h.r, h.s⟩
theorem ar0_b {i : Nat} {slot b c : Int} (hi : i ≤ 8) (hs : 0 ≤ slot ∧ slot ≤ 7 * ((i : Int) + 1)) (hb : 0 ≤ b ∧ b < 12) (hc : 0 ≤ c) : AB 19000 (ar0 i slot b c) := by
  unfold ar0
  exact ⟨by dsimp only; omega, by dsimp only; omega, by dsimp only; omega, by dsimp only; omega, .inl rfl⟩
theorem ar1_b {b K : Int} {x : ArE} (hb : 0 ≤ b ∧ b < 12) (h : AB K x) : AB K (ar1 b x) := by
  unfold ar1; split
  · exact ⟨h.p, by dsimp only; omega, h.o, h.r, h.s⟩
  · exact h
theorem ar2_b {b K : Int} {x : ArE} (h : AB K x) : AB K (ar2 b x) := by
  unfold ar2; split
  · exact ⟨h.p, by dsimp only; omega, h.o, h.r, h.s⟩
  · exact h
theorem ar3_b {b d K : Int} {x : ArE} (h : AB K x) : AB (K + 5) (ar3 b d x) := by
  unfold ar3; split
  · exact ⟨by have := h.p; dsimp only; omega, h.c, by have := h.o; dsimp only; omega, h.r, h.s⟩
  · exact h.mono (by omega)
theorem ar4_b {d K : Int} {x : ArE} (h : AB K x) : AB (K + 5) (ar4 d x) := by
  unfold ar4; split
  · exact ⟨by have := h.p; dsimp only; omega, h.c, by have := h.o; dsimp only; omega, h.r, h.s⟩
  · exact h.mono (by omega)
theorem ar5_b {i : Nat} {d K : Int} {l : List ArE} {x : ArE} (hl : ∀ j, j < i → AB K (eAt eArea l j)) (h : AB K x) : AB (K + 64) (ar5 i d l x) := by
  unfold ar5; split
  · rename_i hh
    have hp := hl (i - 1) (by omega)
    have h1 := hp.p
    have h2 := hp.c
    have h3 := hp.o
    have h4 := h.c
    refine ⟨by dsimp only; omega, ?_, by dsimp only; omega, ?_, h.s⟩
    · dsimp only; split <;> omega
    · dsimp only; split
      · exact h.r
      · exact hp.r
  · exact h.mono (by omega)
theorem ar6_b {i : Nat} {d K : Int} {l : List ArE} {x : ArE} (hl : ∀ j, j < i → AB K (eAt eArea l j)) (h : AB K x) : AB K (ar6 i d l x) := by
  unfold ar6; split
  · rename_i hh
    have hp := hl 0 (by omega)
    exact ⟨h.p, hp.c, hp.o, by dsimp only; omega, .inr rfl⟩
  · exact h
theorem ar7_b {e K : Int} {x : ArE} (h : AB K x) : AB K (ar7 e x) := by
  unfold ar7; split
  · exact ⟨h.p, h.c, h.o, h.r, h.s⟩
  · exact h
theorem ar8_b {K : Int} {x : ArE} (h : AB K x) : AB K (ar8 x) := by
  unfold ar8; split
  · exact ⟨h.p, h.c, h.o, by dsimp only; omega, h.s⟩
  · exact h
theorem arStep_b {i : Nat} {slot b c d e : Int} {l : List ArE} (hi : i ≤ 8) (hs : 0 ≤ slot ∧ slot ≤ 7 * ((i : Int) + 1)) (hb : 0 ≤ b ∧ b < 12) (hc : 0 ≤ c) (hl : ∀ j, j < i → AB (19010 + 64 * (i : Int)) (eAt eArea l j)) : AB (19010 + 64 * ((i : Int) + 1)) (arStep i slot b c d e l) := by
  unfold arStep
  have h4 : AB (19000 + 5 + 5) (ar4 d (ar3 b d (ar2 b (ar1 b (ar0 i slot b c))))) := ar4_b (ar3_b (ar2_b (ar1_b hb (ar0_b hi hs hb hc))))
  have h5 := ar5_b (d := d) hl (h4.mono (by omega))
  exact ar8_b (ar7_b (ar6_b (fun j hj => (hl j hj).mono (by omega)) (h5.mono (by omega))))
theorem eAt_app {α : Type} (E : Elt α) (l : List α) (x : α) (j : Nat) : eAt E (l ++ [x]) j = if j < l.length then eAt E l j else if j = l.length then x else E.dflt := by
  unfold eAt
  rw [List.getD_eq_getElem?_getD, List.getD_eq_getElem?_getD, List.getElem?_append]
  split
  · rfl
  · split
    · rename_i h1 h2; subst h2; simp
    · rename_i h1 h2
      rw [List.getElem?_eq_none (by simp; omega)]
      rfl
theorem areas_ok (cs : List Int) (p : Nat) (hc : Byt cs) (hp : p ≤ 90000) : ∀ k, k ≤ 8 → (areas cs p k).1.length = k ∧ (0 ≤ (areas cs p k).2 ∧ (areas cs p k).2 ≤ 7 * k) ∧ ∀ j, j < k → AB (19010 + 64 * (k : Int)) (eAt eArea (areas cs p k).1 j)
  | 0, _ => ⟨rfl, by simp [areas], fun j hj => by omega⟩
  | k + 1, hk => by
    obtain ⟨h1, h2, h3⟩ := areas_ok cs p hc hp k (by omega)
    have ba := tkV_bd cs (p + 5 * k) 6 (by omega) hc (by omega)
    have bb := tkV_bd cs (p + 5 * k + 1) 12 (by omega) hc (by omega)
    have bc := tkV_bd cs (p + 5 * k + 2) 32 (by omega) hc (by omega)
    have hsl : 0 ≤ arSlot k (tkV cs (p + 5 * k) 6) (areas cs p k).2 ∧ arSlot k (tkV cs (p + 5 * k) 6) (areas cs p k).2 ≤ 7 * ((k : Int) + 1) := by
      generalize tkV cs (p + 5 * k) 6 = A at *
      unfold arSlot
      repeat' split
      all_goals omega
    refine ⟨by simp [areas, h1], ⟨hsl.1, by have := hsl.2; show arSlot _ _ _ ≤ _; omega⟩, fun j hj => ?_⟩
    have hst := arStep_b (e := tkV cs (p + 5 * k + 4) 16) (d := tkV cs (p + 5 * k + 3) 16) (c := tkV cs (p + 5 * k + 2) 32) (by omega) hsl bb bc.1 h3
    show AB _ (eAt eArea ((areas cs p k).1 ++ [_]) j)
    rw [eAt_app, h1]
    split
    · exact (h3 j (by omega)).mono (by omega)
    · rw [if_pos (by omega)]
      exact hst.mono (by omega)
end Go.Proofs.Ytnmhkgmmpkjjeaa
namespace Go.Proofs.Ytnmhkgmmpkjjeaa
open Go.ChangeShapes Go.WideShapes Go.ChangeAt Go.RowKit
set_option linter.unusedVariables false
set_option linter.unusedSimpArgs false
set_option maxRecDepth 100000
attribute [local go_sem ↓] Go.wp_at_zero Go.wp_at_succ

/-- The area in the making, in its box at w6's end. -/
structure XB (w6 wz : World) (x : ArE) : Prop where
  c0 : wz.cell? ⟨w6.heap.size, 0, none⟩ = some (.int .i64 x.page)
  c1 : wz.cell? ⟨w6.heap.size, 1, none⟩ = some (.int .i64 x.count)
  c2 : wz.cell? ⟨w6.heap.size, 2, none⟩ = some (.int .i64 x.out)
  c3 : wz.cell? ⟨w6.heap.size, 3, none⟩ = some (.int .i64 x.perm)
  c4 : wz.cell? ⟨w6.heap.size, 4, none⟩ = some (.bool x.huge)
  c5 : wz.cell? ⟨w6.heap.size, 5, none⟩ = some (.int .i64 x.same)
  c6 : wz.cell? ⟨w6.heap.size, 6, none⟩ = some (.bool x.gone)
  fz : ∀ i, i < 7 → wz.frozen? ⟨w6.heap.size, i, none⟩ = false
  bel : Below w6.heap.size w6 wz
  lt : w6.heap.size < wz.heap.size
theorem XB.drew {w6 wz : World} {x : ArE} (h : XB w6 wz x) : XB w6 wz.drew x := ⟨h.c0, h.c1, h.c2, h.c3, h.c4, h.c5, h.c6, h.fz, h.bel.drew, h.lt⟩
theorem XB.below {w6 wz w1 : World} {x : ArE} (h : XB w6 wz x) (hb : Below wz.heap.size wz w1) : XB w6 w1 x :=
  ⟨(hb.cell (p := ⟨w6.heap.size, 0, none⟩) h.lt).trans h.c0, (hb.cell (p := ⟨w6.heap.size, 1, none⟩) h.lt).trans h.c1, (hb.cell (p := ⟨w6.heap.size, 2, none⟩) h.lt).trans h.c2, (hb.cell (p := ⟨w6.heap.size, 3, none⟩) h.lt).trans h.c3, (hb.cell (p := ⟨w6.heap.size, 4, none⟩) h.lt).trans h.c4, (hb.cell (p := ⟨w6.heap.size, 5, none⟩) h.lt).trans h.c5, (hb.cell (p := ⟨w6.heap.size, 6, none⟩) h.lt).trans h.c6, fun i hi => (hb.frozen (p := ⟨w6.heap.size, i, none⟩) h.lt).trans (h.fz i hi), h.bel.trans (hb.mono h.bel.size), Nat.lt_of_lt_of_le h.lt hb.size⟩
theorem set_cell1 {wn : World} {Bm j : Nat} {v v0 : Value} (h0 : wn.cell? ⟨Bm, j, none⟩ = some v0) : (∀ i, i ≠ j → (wn.setCell ⟨Bm, j, none⟩ v).cell? ⟨Bm, i, none⟩ = wn.cell? ⟨Bm, i, none⟩) ∧ (wn.setCell ⟨Bm, j, none⟩ v).cell? ⟨Bm, j, none⟩ = some v ∧ (∀ i, (wn.setCell ⟨Bm, j, none⟩ v).frozen? ⟨Bm, i, none⟩ = wn.frozen? ⟨Bm, i, none⟩) ∧ True :=
  ⟨fun i hi => World.cell?_setCell_other _ _ _ _ (by intro e; injection e with _ e; exact hi e.symm), World.cell?_setCell_same _ _ _ h0, fun i => World.frozen?_setCell _ _ _ _, trivial⟩
theorem XB.s0 {w6 wz : World} {x : ArE} (h : XB w6 wz x) (v : Int) : XB w6 (wz.setCell ⟨w6.heap.size, 0, none⟩ (.int .i64 v)) ⟨v, x.count, x.out, x.perm, x.huge, x.same, x.gone⟩ := by
  obtain ⟨g1, g2, g3, g4⟩ := set_cell1 (v := (.int .i64 v)) h.c0
  exact ⟨g2, (g1 1 (by omega)).trans h.c1, (g1 2 (by omega)).trans h.c2, (g1 3 (by omega)).trans h.c3, (g1 4 (by omega)).trans h.c4, (g1 5 (by omega)).trans h.c5, (g1 6 (by omega)).trans h.c6, fun i hi => (g3 i).trans (h.fz i hi), h.bel.setCell (Nat.le_refl _) _, by simpa using h.lt⟩
theorem XB.s1 {w6 wz : World} {x : ArE} (h : XB w6 wz x) (v : Int) : XB w6 (wz.setCell ⟨w6.heap.size, 1, none⟩ (.int .i64 v)) ⟨x.page, v, x.out, x.perm, x.huge, x.same, x.gone⟩ := by
  obtain ⟨g1, g2, g3, g4⟩ := set_cell1 (v := (.int .i64 v)) h.c1
  exact ⟨(g1 0 (by omega)).trans h.c0, g2, (g1 2 (by omega)).trans h.c2, (g1 3 (by omega)).trans h.c3, (g1 4 (by omega)).trans h.c4, (g1 5 (by omega)).trans h.c5, (g1 6 (by omega)).trans h.c6, fun i hi => (g3 i).trans (h.fz i hi), h.bel.setCell (Nat.le_refl _) _, by simpa using h.lt⟩
theorem XB.s2 {w6 wz : World} {x : ArE} (h : XB w6 wz x) (v : Int) : XB w6 (wz.setCell ⟨w6.heap.size, 2, none⟩ (.int .i64 v)) ⟨x.page, x.count, v, x.perm, x.huge, x.same, x.gone⟩ := by
  obtain ⟨g1, g2, g3, g4⟩ := set_cell1 (v := (.int .i64 v)) h.c2
  exact ⟨(g1 0 (by omega)).trans h.c0, (g1 1 (by omega)).trans h.c1, g2, (g1 3 (by omega)).trans h.c3, (g1 4 (by omega)).trans h.c4, (g1 5 (by omega)).trans h.c5, (g1 6 (by omega)).trans h.c6, fun i hi => (g3 i).trans (h.fz i hi), h.bel.setCell (Nat.le_refl _) _, by simpa using h.lt⟩
theorem XB.s3 {w6 wz : World} {x : ArE} (h : XB w6 wz x) (v : Int) : XB w6 (wz.setCell ⟨w6.heap.size, 3, none⟩ (.int .i64 v)) ⟨x.page, x.count, x.out, v, x.huge, x.same, x.gone⟩ := by
  obtain ⟨g1, g2, g3, g4⟩ := set_cell1 (v := (.int .i64 v)) h.c3
  exact ⟨(g1 0 (by omega)).trans h.c0, (g1 1 (by omega)).trans h.c1, (g1 2 (by omega)).trans h.c2, g2, (g1 4 (by omega)).trans h.c4, (g1 5 (by omega)).trans h.c5, (g1 6 (by omega)).trans h.c6, fun i hi => (g3 i).trans (h.fz i hi), h.bel.setCell (Nat.le_refl _) _, by simpa using h.lt⟩
theorem XB.s4 {w6 wz : World} {x : ArE} (h : XB w6 wz x) (v : Bool) : XB w6 (wz.setCell ⟨w6.heap.size, 4, none⟩ (.bool v)) ⟨x.page, x.count, x.out, x.perm, v, x.same, x.gone⟩ := by
  obtain ⟨g1, g2, g3, g4⟩ := set_cell1 (v := (.bool v)) h.c4
  exact ⟨(g1 0 (by omega)).trans h.c0, (g1 1 (by omega)).trans h.c1, (g1 2 (by omega)).trans h.c2, (g1 3 (by omega)).trans h.c3, g2, (g1 5 (by omega)).trans h.c5, (g1 6 (by omega)).trans h.c6, fun i hi => (g3 i).trans (h.fz i hi), h.bel.setCell (Nat.le_refl _) _, by simpa using h.lt⟩
theorem XB.s5 {w6 wz : World} {x : ArE} (h : XB w6 wz x) (v : Int) : XB w6 (wz.setCell ⟨w6.heap.size, 5, none⟩ (.int .i64 v)) ⟨x.page, x.count, x.out, x.perm, x.huge, v, x.gone⟩ := by
  obtain ⟨g1, g2, g3, g4⟩ := set_cell1 (v := (.int .i64 v)) h.c5
  exact ⟨(g1 0 (by omega)).trans h.c0, (g1 1 (by omega)).trans h.c1, (g1 2 (by omega)).trans h.c2, (g1 3 (by omega)).trans h.c3, (g1 4 (by omega)).trans h.c4, g2, (g1 6 (by omega)).trans h.c6, fun i hi => (g3 i).trans (h.fz i hi), h.bel.setCell (Nat.le_refl _) _, by simpa using h.lt⟩
theorem XB.s6 {w6 wz : World} {x : ArE} (h : XB w6 wz x) (v : Bool) : XB w6 (wz.setCell ⟨w6.heap.size, 6, none⟩ (.bool v)) ⟨x.page, x.count, x.out, x.perm, x.huge, x.same, v⟩ := by
  obtain ⟨g1, g2, g3, g4⟩ := set_cell1 (v := (.bool v)) h.c6
  exact ⟨(g1 0 (by omega)).trans h.c0, (g1 1 (by omega)).trans h.c1, (g1 2 (by omega)).trans h.c2, (g1 3 (by omega)).trans h.c3, (g1 4 (by omega)).trans h.c4, (g1 5 (by omega)).trans h.c5, g2, fun i hi => (g3 i).trans (h.fz i hi), h.bel.setCell (Nat.le_refl _) _, by simpa using h.lt⟩

theorem ERow.cellsA {α : Type} {E : Elt α} {w : World} {b g c : Nat} {xs : List α} (h : ERow E w b (.slice (some ⟨g, 0, none⟩) xs.length c) xs) : ∀ k, k < xs.length → g < w.heap.size ∧ ∀ j, j < E.sz → ∀ wX : World, wX.heap[g]? = w.heap[g]? → wX.cell? ⟨g, k * E.sz + j, none⟩ = some (eCell E xs k j) := by
  intro k hk
  obtain ⟨a', c', e', hf⟩ := h.form
  obtain ⟨g2, N, f, hag, hbg, hr, hN, hc⟩ := hf (by omega)
  simp only [Value.slice.injEq] at e'
  have hga : some (⟨g, 0, none⟩ : Addr) = some ⟨g2, 0, none⟩ := e'.1.trans hag
  simp only [Option.some.injEq, Addr.mk.injEq, and_true] at hga
  subst hga
  refine ⟨hr.lt, fun j hj wX hX => ?_⟩
  rw [(hr.of_block hX).cell (Nat.lt_of_lt_of_le (cell_lt hk hj) hN)]
  exact congrArg some (hc k hk j hj)
theorem arS_cells {w : World} {b g c : Nat} {xs : List ArE} (h : ERow eArea w b (.slice (some ⟨g, 0, none⟩) xs.length c) xs) {k : Nat} (hk : k < xs.length) {x : ArE} (he : eAt eArea xs k = x) : g < w.heap.size ∧ ∀ wX : World, wX.heap[g]? = w.heap[g]? → wX.cell? ⟨g, k * 7, none⟩ = some (.int .i64 x.page) ∧ wX.cell? ⟨g, k * 7 + 1, none⟩ = some (.int .i64 x.count) ∧ wX.cell? ⟨g, k * 7 + 2, none⟩ = some (.int .i64 x.out) ∧ wX.cell? ⟨g, k * 7 + 3, none⟩ = some (.int .i64 x.perm) ∧ wX.cell? ⟨g, k * 7 + 4, none⟩ = some (.bool x.huge) ∧ wX.cell? ⟨g, k * 7 + 5, none⟩ = some (.int .i64 x.same) ∧ wX.cell? ⟨g, k * 7 + 6, none⟩ = some (.bool x.gone) := by
  obtain ⟨h1, h2⟩ := h.cellsA k hk
  refine ⟨h1, fun wX hX => ?_⟩
  have e0 : ∀ j, eCell eArea xs k j = ((eArea.enc x)[j]?).getD (.bool false) := fun j => by unfold eCell; rw [he]
  have c : ∀ j, j < 7 → wX.cell? ⟨g, k * 7 + j, none⟩ = some (eCell eArea xs k j) := fun j hj => h2 j hj wX hX
  exact ⟨(c 0 (by omega)).trans (by rw [e0]; rfl), (c 1 (by omega)).trans (by rw [e0]; rfl), (c 2 (by omega)).trans (by rw [e0]; rfl), (c 3 (by omega)).trans (by rw [e0]; rfl), (c 4 (by omega)).trans (by rw [e0]; rfl), (c 5 (by omega)).trans (by rw [e0]; rfl), (c 6 (by omega)).trans (by rw [e0]; rfl)⟩

end Go.Proofs.Ytnmhkgmmpkjjeaa
