import Derived.Test.YtnmhkgmmpkjjeaaG02
import Derived.Test.YtnmhkgmmpkjjeaaG01
namespace Go.Proofs.Ytnmhkgmmpkjjeaa
open Go.ChangeShapes Go.WideShapes Go.ChangeAt Go.RowKit
set_option linter.unusedVariables false
set_option linter.unusedSimpArgs false
set_option maxRecDepth 100000

/-! Drawn areas (version v). -/
structure ArE where
  page : Int
  count : Int
  out : Int
  perm : Int
  huge : Bool
  same : Int
  gone : Bool
def eArea : Elt ArE := ⟨219, 7, fun x => [.int .i64 x.page, .int .i64 x.count, .int .i64 x.out, .int .i64 x.perm, .bool x.huge, .int .i64 x.same, .bool x.gone], ⟨0, 0, 0, 0, false, 0, false⟩, by omega, fun _ => rfl⟩
theorem infoArea : (Try.prog.info? 219).map (fun i => (i.zero, i.size, i.bytes)) = some (some (.agg #[.int .i64 0, .int .i64 0, .int .i64 0, .int .i64 0, .bool false, .int .i64 0, .bool false]), 7, 56) := by kernel_rfl
def arSlot (i : Nat) (a slot : Int) : Int := if i = 0 then slot else slot + 1 + (if 2 < a then a - 2 else 0) + (if a = 5 then 3 else 0)
def ar0 (i : Nat) (slot b c : Int) : ArE := ⟨slot * 64, b + 1, 1024 * (i : Int) + 16, c % 7 + 1, decide (10 ≤ c), -1, false⟩
def ar1 (b : Int) (x : ArE) : ArE := if 6 ≤ b then ⟨x.page, (b - 5) * 8, x.out, x.perm, x.huge, x.same, x.gone⟩ else x
def ar2 (b : Int) (x : ArE) : ArE := if b = 11 then ⟨x.page, 64, x.out, x.perm, x.huge, x.same, x.gone⟩ else x
def ar3 (b d : Int) (x : ArE) : ArE := if d % 4 = 0 ∧ b < 10 then ⟨x.page + 5, x.count, x.out + 5, x.perm, x.huge, x.same, x.gone⟩ else x
def ar4 (d : Int) (x : ArE) : ArE := if d = 1 then ⟨x.page, x.count, x.out + 3, x.perm, x.huge, x.same, x.gone⟩ else x
def ar5 (i : Nat) (d : Int) (l : List ArE) (x : ArE) : ArE :=
  if (d = 2 ∨ 12 ≤ d) ∧ 0 < i ∧ (eAt eArea l (i - 1)).same < 0 then
    ⟨(eAt eArea l (i - 1)).page + (eAt eArea l (i - 1)).count, if 40 < x.count then 40 else x.count, (eAt eArea l (i - 1)).out + (eAt eArea l (i - 1)).count, if d = 13 then x.perm else (eAt eArea l (i - 1)).perm, (eAt eArea l (i - 1)).huge, x.same, x.gone⟩
  else x
def ar6 (i : Nat) (d : Int) (l : List ArE) (x : ArE) : ArE :=
  if d = 3 ∧ 0 < i ∧ (eAt eArea l 0).count ≤ 48 then ⟨x.page, (eAt eArea l 0).count, (eAt eArea l 0).out, x.perm % 3 + 1, x.huge, 0, x.gone⟩ else x
def ar7 (e : Int) (x : ArE) : ArE := if e = 7 then ⟨x.page, x.count, x.out, x.perm, x.huge, x.same, true⟩ else x
def ar8 (x : ArE) : ArE := if x.same = 0 then ⟨x.page, x.count, x.out, (x.perm - 1) % 3 + 1, x.huge, x.same, x.gone⟩ else x
def av1 (c e : Int) (x : ArE) : ArE := if e = 8 ∨ e = 9 ∨ e = 5 ∨ e = 1 then ⟨x.page, x.count, x.out, (x.perm + c) % 7 + 1, x.huge, x.same, x.gone⟩ else x
def av2 (i : Nat) (e : Int) (x : ArE) : ArE := if e = 10 ∨ e = 4 ∨ (e = 0 ∧ i = 1) then ⟨x.page, x.count, x.out, x.perm, x.huge, x.same, true⟩ else x
def av3 (e : Int) (x : ArE) : ArE := if e = 11 ∨ e = 12 ∨ e = 6 then ⟨x.page, x.count, x.out, x.perm, !x.huge, x.same, x.gone⟩ else x
def av4 (c d e : Int) (x : ArE) : ArE := if e = 13 ∧ d < 12 ∧ d ≠ 2 ∧ x.page % 16 + x.count < 48 then ⟨x.page + 1 + c % 2 * 15, x.count, x.out, x.perm, x.huge, x.same, x.gone⟩ else x
def av5 (d e : Int) (x : ArE) : ArE := if e = 14 ∧ x.same < 0 ∧ d < 12 ∧ d ≠ 2 then ⟨x.page, x.count, x.out + 32, x.perm, x.huge, x.same, x.gone⟩ else x
def av6 (i : Nat) (e : Int) (x : ArE) : ArE := if e = 15 ∧ 1 < x.count ∧ x.same < 0 ∧ 0 < i then ⟨x.page, x.count / 2, x.out, x.perm, x.huge, x.same, x.gone⟩ else x
def ar7v (i : Nat) (c d e : Int) (x : ArE) : ArE := av6 i e (av5 d e (av4 c d e (av3 e (av2 i e (av1 c e x)))))
def ar7w (v : Int) (i : Nat) (c d e : Int) (x : ArE) : ArE := if v = 1 then ar7v i c d e x else ar7 e x
def arStep (v : Int) (i : Nat) (slot b c d e : Int) (l : List ArE) : ArE := ar8 (ar7w v i c d e (ar6 i d l (ar5 i d l (ar4 d (ar3 b d (ar2 b (ar1 b (ar0 i slot b c))))))))
def areas (v : Int) (cs : List Int) (p : Nat) : Nat → List ArE × Int
  | 0 => ([], 0)
  | k + 1 => ((areas v cs p k).1 ++ [arStep v k (arSlot k (tkV cs (p + 5 * k) 6) (areas v cs p k).2) (tkV cs (p + 5 * k + 1) 12) (tkV cs (p + 5 * k + 2) 32) (tkV cs (p + 5 * k + 3) 16) (tkV cs (p + 5 * k + 4) 16) (areas v cs p k).1], arSlot k (tkV cs (p + 5 * k) 6) (areas v cs p k).2)
def arN (cs : List Int) : Nat := if 8 < 3 + cs.length / 12 then 8 else 3 + cs.length / 12
theorem arN_bd (cs : List Int) : 3 ≤ arN cs ∧ arN cs ≤ 8 := by unfold arN; split <;> omega
structure AB (K : Int) (x : ArE) : Prop where
  p : 0 ≤ x.page ∧ x.page ≤ K
  c : 0 ≤ x.count ∧ x.count ≤ 64
  o : 0 ≤ x.out ∧ x.out ≤ K
  r : 1 ≤ x.perm ∧ x.perm ≤ 7
  s : x.same = -1 ∨ x.same = 0
theorem AB.mono {K K' : Int} {x : ArE} (h : AB K x) (hk : K ≤ K') : AB K' x := ⟨by have := h.p; omega, h.c, by have := h.o; omega, h.r, h.s⟩
theorem ar0_b {i : Nat} {slot b c : Int} (hi : i ≤ 8) (hs : 0 ≤ slot ∧ slot ≤ 7 * ((i : Int) + 1)) (hb : 0 ≤ b ∧ b < 12) (hc : 0 ≤ c) : AB 19000 (ar0 i slot b c) := by
  unfold ar0
  exact ⟨by dsimp only; omega, by dsimp only; omega, by dsimp only; omega, by dsimp only; omega, .inl rfl⟩
theorem ar1_b {b K : Int} {x : ArE} (hb : 0 ≤ b ∧ b < 12) (h : AB K x) : AB K (ar1 b x) := by
  unfold ar1; split
  · exact ⟨h.p, by dsimp only; omega, h.o, h.r, h.s⟩
  · exact h
theorem ar2_b {b K : Int} {x : ArE} (h : AB K x) : AB K (ar2 b x) := by
  unfold ar2; split
  · exact ⟨h.p, by dsimp only; omega, h.o, h.r, h.s⟩
  · exact h
theorem ar3_b {b d K : Int} {x : ArE} (h : AB K x) : AB (K + 5) (ar3 b d x) := by
  unfold ar3; split
  · exact ⟨by have := h.p; dsimp only; omega, h.c, by have := h.o; dsimp only; omega, h.r, h.s⟩
  · exact h.mono (by omega)
theorem ar4_b {d K : Int} {x : ArE} (h : AB K x) : AB (K + 5) (ar4 d x) := by
  unfold ar4; split
  · exact ⟨by have := h.p; dsimp only; omega, h.c, by have := h.o; dsimp only; omega, h.r, h.s⟩
  · exact h.mono (by omega)
theorem ar5_b {i : Nat} {d K : Int} {l : List ArE} {x : ArE} (hl : ∀ j, j < i → AB K (eAt eArea l j)) (h : AB K x) : AB (K + 64) (ar5 i d l x) := by
  unfold ar5; split
  · rename_i hh
    have hp := hl (i - 1) (by omega)
    have h1 := hp.p
    have h2 := hp.c
    have h3 := hp.o
    have h4 := h.c
    refine ⟨by dsimp only; omega, ?_, by dsimp only; omega, ?_, h.s⟩
    · dsimp only; split <;> omega
    · dsimp only; split
      · exact h.r
      · exact hp.r
  · exact h.mono (by omega)
theorem ar6_b {i : Nat} {d K : Int} {l : List ArE} {x : ArE} (hl : ∀ j, j < i → AB K (eAt eArea l j)) (h : AB K x) : AB K (ar6 i d l x) := by
  unfold ar6; split
  · rename_i hh
    have hp := hl 0 (by omega)
    exact ⟨h.p, hp.c, hp.o, by dsimp only; omega, .inr rfl⟩
  · exact h
theorem ar7_b {e K : Int} {x : ArE} (h : AB K x) : AB K (ar7 e x) := by
  unfold ar7; split
  · exact ⟨h.p, h.c, h.o, h.r, h.s⟩
  · exact h
theorem ar8_b {K : Int} {x : ArE} (h : AB K x) : AB K (ar8 x) := by
  unfold ar8; split
  · exact ⟨h.p, h.c, h.o, by dsimp only; omega, h.s⟩
  · exact h
theorem av1_b {c e : Int} {K : Int} {x : ArE} (hc : 0 ≤ c) (h : AB K x) : AB (K + 0) (av1 c e x) := by
  have h1 := h.p; have h2 := h.c; have h3 := h.o
  unfold av1
  split
  · exact ⟨by dsimp only; omega, by dsimp only; omega, by dsimp only; omega, by dsimp only; omega, h.s⟩
  · exact h.mono (by omega)
theorem av2_b {i : Nat} {e : Int} {K : Int} {x : ArE} (h : AB K x) : AB (K + 0) (av2 i e x) := by
  have h1 := h.p; have h2 := h.c; have h3 := h.o
  unfold av2
  split
  · exact ⟨by dsimp only; omega, by dsimp only; omega, by dsimp only; omega, h.r, h.s⟩
  · exact h.mono (by omega)
theorem av3_b {e : Int} {K : Int} {x : ArE} (h : AB K x) : AB (K + 0) (av3 e x) := by
  have h1 := h.p; have h2 := h.c; have h3 := h.o
  unfold av3
  split
  · exact ⟨by dsimp only; omega, by dsimp only; omega, by dsimp only; omega, h.r, h.s⟩
  · exact h.mono (by omega)
theorem av4_b {c d e : Int} {K : Int} {x : ArE} (hc : 0 ≤ c) (h : AB K x) : AB (K + 16) (av4 c d e x) := by
  have h1 := h.p; have h2 := h.c; have h3 := h.o
  unfold av4
  split
  · exact ⟨by dsimp only; omega, by dsimp only; omega, by dsimp only; omega, h.r, h.s⟩
  · exact h.mono (by omega)
theorem av5_b {d e : Int} {K : Int} {x : ArE} (h : AB K x) : AB (K + 32) (av5 d e x) := by
  have h1 := h.p; have h2 := h.c; have h3 := h.o
  unfold av5
  split
  · exact ⟨by dsimp only; omega, by dsimp only; omega, by dsimp only; omega, h.r, h.s⟩
  · exact h.mono (by omega)
theorem av6_b {i : Nat} {e : Int} {K : Int} {x : ArE} (h : AB K x) : AB (K + 0) (av6 i e x) := by
  have h1 := h.p; have h2 := h.c; have h3 := h.o
  unfold av6
  split
  · exact ⟨by dsimp only; omega, by dsimp only; omega, by dsimp only; omega, h.r, h.s⟩
  · exact h.mono (by omega)
theorem ar7v_b {i : Nat} {c d e K : Int} {x : ArE} (hc : 0 ≤ c) (h : AB K x) : AB (K + 64) (ar7v i c d e x) := by
  unfold ar7v
  exact (av6_b (av5_b (av4_b hc (av3_b (av2_b (av1_b hc h)))))).mono (by omega)
theorem ar7w_b {v : Int} {i : Nat} {c d e K : Int} {x : ArE} (hc : 0 ≤ c) (h : AB K x) : AB (K + 64) (ar7w v i c d e x) := by
  unfold ar7w
  split
  · exact ar7v_b hc h
  · exact (ar7_b h).mono (by omega)
theorem arStep_b {v : Int} {i : Nat} {slot b c d e : Int} {l : List ArE} (hi : i ≤ 8) (hs : 0 ≤ slot ∧ slot ≤ 7 * ((i : Int) + 1)) (hb : 0 ≤ b ∧ b < 12) (hc : 0 ≤ c) (hl : ∀ j, j < i → AB (19010 + 128 * (i : Int)) (eAt eArea l j)) : AB (19010 + 128 * ((i : Int) + 1)) (arStep v i slot b c d e l) := by
  unfold arStep
  have h4 : AB (19000 + 5 + 5) (ar4 d (ar3 b d (ar2 b (ar1 b (ar0 i slot b c))))) := ar4_b (ar3_b (ar2_b (ar1_b hb (ar0_b hi hs hb hc))))
  have h5 := ar5_b (d := d) hl (h4.mono (by omega))
  exact (ar8_b (ar7w_b hc (ar6_b (fun j hj => (hl j hj).mono (by omega)) (h5.mono (Int.le_refl _))))).mono (by omega)
theorem eAt_app {α : Type} (E : Elt α) (l : List α) (x : α) (j : Nat) : eAt E (l ++ [x]) j = if j < l.length then eAt E l j else if j = l.length then x else E.dflt := by
  unfold eAt
  rw [List.getD_eq_getElem?_getD, List.getD_eq_getElem?_getD, List.getElem?_append]
  split
  · rfl
  · split
    · rename_i h1 h2; subst h2; simp
    · rename_i h1 h2
      rw [List.getElem?_eq_none (by simp; omega)]
      rfl
theorem areas_ok (v : Int) (cs : List Int) (p : Nat) (hc : Byt cs) (hp : p ≤ 90000) : ∀ k, k ≤ 8 → (areas v cs p k).1.length = k ∧ (0 ≤ (areas v cs p k).2 ∧ (areas v cs p k).2 ≤ 7 * k) ∧ ∀ j, j < k → AB (19010 + 128 * (k : Int)) (eAt eArea (areas v cs p k).1 j)
  | 0, _ => ⟨rfl, by simp [areas], fun j hj => by omega⟩
  | k + 1, hk => by
    obtain ⟨h1, h2, h3⟩ := areas_ok v cs p hc hp k (by omega)
    have ba := tkV_bd cs (p + 5 * k) 6 (by omega) hc (by omega)
    have bb := tkV_bd cs (p + 5 * k + 1) 12 (by omega) hc (by omega)
    have bc := tkV_bd cs (p + 5 * k + 2) 32 (by omega) hc (by omega)
    have hsl : 0 ≤ arSlot k (tkV cs (p + 5 * k) 6) (areas v cs p k).2 ∧ arSlot k (tkV cs (p + 5 * k) 6) (areas v cs p k).2 ≤ 7 * ((k : Int) + 1) := by
      generalize tkV cs (p + 5 * k) 6 = A at *
      unfold arSlot
      repeat' split
      all_goals omega
    refine ⟨by simp [areas, h1], ⟨hsl.1, by have := hsl.2; show arSlot _ _ _ ≤ _; omega⟩, fun j hj => ?_⟩
    have hst := arStep_b (v := v) (e := tkV cs (p + 5 * k + 4) 16) (d := tkV cs (p + 5 * k + 3) 16) (c := tkV cs (p + 5 * k + 2) 32) (by omega) hsl bb bc.1 h3
    show AB _ (eAt eArea ((areas v cs p k).1 ++ [_]) j)
    rw [eAt_app, h1]
    split
    · exact (h3 j (by omega)).mono (by omega)
    · rw [if_pos (by omega)]
      exact hst.mono (by omega)
end Go.Proofs.Ytnmhkgmmpkjjeaa
