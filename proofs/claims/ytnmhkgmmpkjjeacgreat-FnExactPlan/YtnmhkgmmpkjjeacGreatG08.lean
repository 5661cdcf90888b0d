import Derived.Test.YtnmhkgmmpkjjeacGreatG07
import Derived.Deep.Slices
import Derived.ChangeOld
namespace Go.Proofs.YtnmhkgmmpkjjeacGreat
open Go.ChangeShapes Go.WideShapes Go.ChangeAt Go.RowKit
set_option linter.unusedVariables false
attribute [local go_sem ↓] Go.wp_at_zero Go.wp_at_succ

structure SpanE where
  page : Int
  count : Int
  out : Int
  perm : Int
  huge : Bool
def eSpan : Elt SpanE := ⟨81, 5, fun x => [.int .i64 x.page, .int .i64 x.count, .int .i64 x.out, .int .i64 x.perm, .bool x.huge], ⟨0, 0, 0, 0, false⟩, by omega, fun _ => rfl⟩
theorem infoSpan : (Tryz.prog.info? 81).map (fun i => (i.zero, i.size, i.bytes)) = some (some (.agg #[.int .i64 0, .int .i64 0, .int .i64 0, .int .i64 0, .bool false]), 5, 40) := by kernel_rfl

end Go.Proofs.YtnmhkgmmpkjjeacGreat
namespace Go.Proofs.YtnmhkgmmpkjjeacGreat
open Go.ChangeShapes Go.WideShapes Go.ChangeAt Go.RowKit
set_option linter.unusedVariables false
attribute [local go_sem ↓] Go.wp_at_zero Go.wp_at_succ

/-- The fields of a span are numbers of int. -/
def wfS (x : SpanE) : Prop := -9223372036854775808 ≤ x.page ∧ x.page ≤ 9223372036854775807 ∧ -9223372036854775808 ≤ x.count ∧ x.count ≤ 9223372036854775807 ∧ -9223372036854775808 ≤ x.out ∧ x.out ≤ 9223372036854775807 ∧ -9223372036854775808 ≤ x.perm ∧ x.perm ≤ 9223372036854775807
def spanOk (x : SpanE) : Bool := decide (1 ≤ x.count ∧ 0 ≤ x.page ∧ x.page + x.count ≤ 4096 ∧ 0 ≤ x.out ∧ x.out + x.count ≤ 65536 ∧ 1 ≤ x.perm ∧ x.perm ≤ 7)
theorem spanOk_iff {x : SpanE} : spanOk x = true ↔ (1 ≤ x.count ∧ 0 ≤ x.page ∧ x.page + x.count ≤ 4096 ∧ 0 ≤ x.out ∧ x.out + x.count ≤ 65536 ∧ 1 ≤ x.perm ∧ x.perm ≤ 7) := by simp [spanOk]
def joinsB (a b : SpanE) : Bool := decide (b.page = a.page + a.count ∧ b.out = a.out + a.count ∧ b.perm = a.perm ∧ b.huge = a.huge)
def pairOk (a b : SpanE) : Bool := decide (a.page + a.count ≤ b.page) && !joinsB a b
/-- A valid list of spans. -/
def VS (xs : List SpanE) : Prop := (∀ i, i < xs.length → spanOk (eAt eSpan xs i) = true) ∧ ∀ i, i + 1 < xs.length → pairOk (eAt eSpan xs i) (eAt eSpan xs (i + 1)) = true
def vsB (xs : List SpanE) : Bool := (List.range xs.length).all (fun i => spanOk (eAt eSpan xs i)) && (List.range (xs.length - 1)).all (fun i => pairOk (eAt eSpan xs i) (eAt eSpan xs (i + 1)))
theorem vsB_iff {xs : List SpanE} : vsB xs = true ↔ VS xs := by
  unfold vsB VS
  rw [Bool.and_eq_true, List.all_eq_true, List.all_eq_true]
  exact ⟨fun h => ⟨fun i hi => h.1 i (List.mem_range.2 hi), fun i hi => h.2 i (List.mem_range.2 (by omega))⟩, fun h => ⟨fun i hi => h.1 i (List.mem_range.1 hi), fun i hi => h.2 i (by have := List.mem_range.1 hi; omega)⟩⟩
theorem vsB_true {xs : List SpanE} (h : VS xs) : vsB xs = true := vsB_iff.2 h
theorem vsB_false {xs : List SpanE} (h : ¬ VS xs) : vsB xs = false := by
  cases hb : vsB xs
  · rfl
  · exact absurd (vsB_iff.1 hb) h
theorem VS.of_true {xs : List SpanE} (h : vsB xs = true) : VS xs := vsB_iff.1 h
end Go.Proofs.YtnmhkgmmpkjjeacGreat
namespace Go.Proofs.YtnmhkgmmpkjjeacGreat
open Go.ChangeShapes Go.WideShapes Go.ChangeAt Go.RowKit
set_option linter.unusedVariables false
attribute [local go_sem ↓] Go.wp_at_zero Go.wp_at_succ

theorem l4SpanOk_any (p c o r : Int) (g : Bool) (w : World) (hw : wfS ⟨p, c, o, r, g⟩) :
    Calls Tryz.prog 58 #[.agg #[.int .i64 p, .int .i64 c, .int .i64 o, .int .i64 r, .bool g]] w fun e w' => e = .returned (.bool (spanOk ⟨p, c, o, r, g⟩)) ∧ Below w.heap.size w w' := by
  obtain ⟨hp1, hp2, hc1, hc2, ho1, ho2, hr1, hr2⟩ := hw
  dsimp only at hp1 hp2 hc1 hc2 ho1 ho2 hr1 hr2
  by_cases h0 : c < 1
  · have d0 : decide (c < 1) = true := by simpa using h0
    have hr : spanOk ⟨p, c, o, r, g⟩ = false := decide_eq_false (by dsimp only; omega)
    rw [hr]
    clear hr
    go_enter Tryz.func58, Tryz.ntmps58
    go_wp2_with fail
    go_ret
    exact ⟨rfl, (Below.refl _ _).alloc (Nat.le_refl _) _⟩
  · have d0 : decide (c < 1) = false := by simpa using h0
    by_cases h1 : 4096 < c
    · have d1 : decide (4096 < c) = true := by simpa using h1
      have hr : spanOk ⟨p, c, o, r, g⟩ = false := decide_eq_false (by dsimp only; omega)
      rw [hr]
      clear hr
      go_enter Tryz.func58, Tryz.ntmps58
      go_wp2_with fail
      go_ret
      exact ⟨rfl, (Below.refl _ _).alloc (Nat.le_refl _) _⟩
    · have d1 : decide (4096 < c) = false := by simpa using h1
      by_cases h2 : r < 1
      · have d2 : decide (r < 1) = true := by simpa using h2
        have hr : spanOk ⟨p, c, o, r, g⟩ = false := decide_eq_false (by dsimp only; omega)
        rw [hr]
        clear hr
        go_enter Tryz.func58, Tryz.ntmps58
        go_wp2_with fail
        go_ret
        exact ⟨rfl, (Below.refl _ _).alloc (Nat.le_refl _) _⟩
      · have d2 : decide (r < 1) = false := by simpa using h2
        by_cases h3 : 7 < r
        · have d3 : decide (7 < r) = true := by simpa using h3
          have hr : spanOk ⟨p, c, o, r, g⟩ = false := decide_eq_false (by dsimp only; omega)
          rw [hr]
          clear hr
          go_enter Tryz.func58, Tryz.ntmps58
          go_wp2_with fail
          go_ret
          exact ⟨rfl, (Below.refl _ _).alloc (Nat.le_refl _) _⟩
        · have d3 : decide (7 < r) = false := by simpa using h3
          by_cases h4 : p < 0
          · have d4 : decide (p < 0) = true := by simpa using h4
            have hr : spanOk ⟨p, c, o, r, g⟩ = false := decide_eq_false (by dsimp only; omega)
            rw [hr]
            clear hr
            go_enter Tryz.func58, Tryz.ntmps58
            go_wp2_with fail
            go_ret
            exact ⟨rfl, (Below.refl _ _).alloc (Nat.le_refl _) _⟩
          · have d4 : decide (p < 0) = false := by simpa using h4
            by_cases h5 : 4096 ≤ p
            · have d5 : decide (4096 ≤ p) = true := by simpa using h5
              have hr : spanOk ⟨p, c, o, r, g⟩ = false := decide_eq_false (by dsimp only; omega)
              rw [hr]
              clear hr
              go_enter Tryz.func58, Tryz.ntmps58
              go_wp2_with fail
              go_ret
              exact ⟨rfl, (Below.refl _ _).alloc (Nat.le_refl _) _⟩
            · have d5 : decide (4096 ≤ p) = false := by simpa using h5
              by_cases h6 : 4096 < p + c
              · have d6 : decide (4096 < p + c) = true := by simpa using h6
                have hr : spanOk ⟨p, c, o, r, g⟩ = false := decide_eq_false (by dsimp only; omega)
                rw [hr]
                clear hr
                go_enter Tryz.func58, Tryz.ntmps58
                go_wp2_with fail
                go_ret
                exact ⟨rfl, (Below.refl _ _).alloc (Nat.le_refl _) _⟩
              · have d6 : decide (4096 < p + c) = false := by simpa using h6
                by_cases h7 : 0 ≤ o
                · have d7 : decide (0 ≤ o) = true := by simpa using h7
                  by_cases h8 : o < 65536
                  · have d8 : decide (o < 65536) = true := by simpa using h8
                    by_cases h9 : o + c ≤ 65536
                    · have d9 : decide (o + c ≤ 65536) = true := by simpa using h9
                      have hr : spanOk ⟨p, c, o, r, g⟩ = true := decide_eq_true (by dsimp only; omega)
                      rw [hr]
                      clear hr
                      go_enter Tryz.func58, Tryz.ntmps58
                      go_wp2_with fail
                      go_ret
                      exact ⟨rfl, (Below.refl _ _).alloc (Nat.le_refl _) _⟩
                    · have d9 : decide (o + c ≤ 65536) = false := by simpa using h9
                      have hr : spanOk ⟨p, c, o, r, g⟩ = false := decide_eq_false (by dsimp only; omega)
                      rw [hr]
                      clear hr
                      go_enter Tryz.func58, Tryz.ntmps58
                      go_wp2_with fail
                      go_ret
                      exact ⟨rfl, (Below.refl _ _).alloc (Nat.le_refl _) _⟩
                  · have d8 : decide (o < 65536) = false := by simpa using h8
                    have hr : spanOk ⟨p, c, o, r, g⟩ = false := decide_eq_false (by dsimp only; omega)
                    rw [hr]
                    clear hr
                    go_enter Tryz.func58, Tryz.ntmps58
                    go_wp2_with fail
                    go_ret
                    exact ⟨rfl, (Below.refl _ _).alloc (Nat.le_refl _) _⟩
                · have d7 : decide (0 ≤ o) = false := by simpa using h7
                  have hr : spanOk ⟨p, c, o, r, g⟩ = false := decide_eq_false (by dsimp only; omega)
                  rw [hr]
                  clear hr
                  go_enter Tryz.func58, Tryz.ntmps58
                  go_wp2_with fail
                  go_ret
                  exact ⟨rfl, (Below.refl _ _).alloc (Nat.le_refl _) _⟩

theorem validSpan_any (p c o r : Int) (g : Bool) (w : World) (hw : wfS ⟨p, c, o, r, g⟩) :
    Calls Tryz.prog 66 #[.agg #[.int .i64 p, .int .i64 c, .int .i64 o, .int .i64 r, .bool g]] w fun e w' => e = .returned (.bool (spanOk ⟨p, c, o, r, g⟩)) ∧ Below w.heap.size w w' := by
  obtain ⟨hp1, hp2, hc1, hc2, ho1, ho2, hr1, hr2⟩ := hw
  dsimp only at hp1 hp2 hc1 hc2 ho1 ho2 hr1 hr2
  by_cases h0 : 1 ≤ c
  · have d0 : decide (1 ≤ c) = true := by simpa using h0
    by_cases h1 : 0 ≤ p
    · have d1 : decide (0 ≤ p) = true := by simpa using h1
      by_cases h2 : p ≤ 4096 - c
      · have d2 : decide (p ≤ 4096 - c) = true := by simpa using h2
        by_cases h3 : 0 ≤ o
        · have d3 : decide (0 ≤ o) = true := by simpa using h3
          by_cases h4 : o ≤ 65536 - c
          · have d4 : decide (o ≤ 65536 - c) = true := by simpa using h4
            by_cases h5 : 1 ≤ r
            · have d5 : decide (1 ≤ r) = true := by simpa using h5
              by_cases h6 : r ≤ 7
              · have d6 : decide (r ≤ 7) = true := by simpa using h6
                have hr : spanOk ⟨p, c, o, r, g⟩ = true := decide_eq_true (by dsimp only; omega)
                rw [hr]
                clear hr
                go_enter Tryz.func66, Tryz.ntmps66
                go_wp2_with fail
                go_ret
                exact ⟨rfl, (Below.refl _ _).alloc (Nat.le_refl _) _⟩
              · have d6 : decide (r ≤ 7) = false := by simpa using h6
                have hr : spanOk ⟨p, c, o, r, g⟩ = false := decide_eq_false (by dsimp only; omega)
                rw [hr]
                clear hr
                go_enter Tryz.func66, Tryz.ntmps66
                go_wp2_with fail
                go_ret
                exact ⟨rfl, (Below.refl _ _).alloc (Nat.le_refl _) _⟩
            · have d5 : decide (1 ≤ r) = false := by simpa using h5
              have hr : spanOk ⟨p, c, o, r, g⟩ = false := decide_eq_false (by dsimp only; omega)
              rw [hr]
              clear hr
              go_enter Tryz.func66, Tryz.ntmps66
              go_wp2_with fail
              go_ret
              exact ⟨rfl, (Below.refl _ _).alloc (Nat.le_refl _) _⟩
          · have d4 : decide (o ≤ 65536 - c) = false := by simpa using h4
            have hr : spanOk ⟨p, c, o, r, g⟩ = false := decide_eq_false (by dsimp only; omega)
            rw [hr]
            clear hr
            go_enter Tryz.func66, Tryz.ntmps66
            go_wp2_with fail
            go_ret
            exact ⟨rfl, (Below.refl _ _).alloc (Nat.le_refl _) _⟩
        · have d3 : decide (0 ≤ o) = false := by simpa using h3
          have hr : spanOk ⟨p, c, o, r, g⟩ = false := decide_eq_false (by dsimp only; omega)
          rw [hr]
          clear hr
          go_enter Tryz.func66, Tryz.ntmps66
          go_wp2_with fail
          go_ret
          exact ⟨rfl, (Below.refl _ _).alloc (Nat.le_refl _) _⟩
      · have d2 : decide (p ≤ 4096 - c) = false := by simpa using h2
        have hr : spanOk ⟨p, c, o, r, g⟩ = false := decide_eq_false (by dsimp only; omega)
        rw [hr]
        clear hr
        go_enter Tryz.func66, Tryz.ntmps66
        go_wp2_with fail
        go_ret
        exact ⟨rfl, (Below.refl _ _).alloc (Nat.le_refl _) _⟩
    · have d1 : decide (0 ≤ p) = false := by simpa using h1
      have hr : spanOk ⟨p, c, o, r, g⟩ = false := decide_eq_false (by dsimp only; omega)
      rw [hr]
      clear hr
      go_enter Tryz.func66, Tryz.ntmps66
      go_wp2_with fail
      go_ret
      exact ⟨rfl, (Below.refl _ _).alloc (Nat.le_refl _) _⟩
  · have d0 : decide (1 ≤ c) = false := by simpa using h0
    have hr : spanOk ⟨p, c, o, r, g⟩ = false := decide_eq_false (by dsimp only; omega)
    rw [hr]
    clear hr
    go_enter Tryz.func66, Tryz.ntmps66
    go_wp2_with fail
    go_ret
    exact ⟨rfl, (Below.refl _ _).alloc (Nat.le_refl _) _⟩
end Go.Proofs.YtnmhkgmmpkjjeacGreat
namespace Go.Proofs.YtnmhkgmmpkjjeacGreat
open Go.ChangeShapes Go.WideShapes Go.ChangeAt Go.RowKit
set_option linter.unusedVariables false

/-- A slice of structs that came in can be read. -/
theorem esrc_open {α : Type} (E : Elt α) (Q : α → Prop) {H : Type} {enc : TypeId × Value → H} {W : World} {sp : Nat → Bool} {T ts : TypeId} (ht : Tryz.prog.underlying ts = some (.slice T)) (hc : Tryz.prog.cellsOf T = E.sz)
    (hel : ∀ n cs y, DataW.trod enc Tryz.prog W 0 sp true n T cs = some y → ∃ x, cs = E.enc x ∧ Q x) {fuel : Nat} {v : Value} {y : DataW H × List MemPlace} (hf : DataW.trod enc Tryz.prog W 0 sp true fuel ts [v] = some y) :
    ∃ xs, ESrc E W v xs ∧ xs.length ≤ 9223372036854775807 ∧ ∀ i, i < xs.length → Q (eAt E xs i) := by
  rcases Go.Deep.open_slice ht hf with ⟨hcs, _⟩ | ⟨a, len, cap, m, n, D, Pl, hcs, _, hl, hm, hmm, _, hx⟩
  · simp at hcs
    subst hcs
    exact ⟨[], ⟨none, 0, rfl, fun h => absurd h (by simp)⟩, by simp, fun i hi => absurd hi (by simp)⟩
  · simp at hcs
    subst hcs
    unfold maxLen at hm
    have hlm : len ≤ m := by rw [hmm]; split <;> omega
    have hex : ∀ i, i < len → ∃ x, Q x ∧ ∀ j, j < E.sz → W.cell? ((a.add (i * E.sz)).add j) = (E.enc x)[j]? := by
      intro i hi
      obtain ⟨cs', h1, h2⟩ := hx i (by omega)
      obtain ⟨x, rfl, hq⟩ := hel _ _ _ h2
      rw [hc] at h1
      exact ⟨x, hq, (World.cells?_some h1).2.2⟩
    have hch : ∃ X : Nat → α, ∀ i, i < len → Q (X i) ∧ ∀ j, j < E.sz → W.cell? ((a.add (i * E.sz)).add j) = (E.enc (X i))[j]? := by
      refine ⟨fun i => if hi : i < len then Classical.choose (hex i hi) else E.dflt, fun i hi => ?_⟩
      simp only [dif_pos hi]
      exact Classical.choose_spec (hex i hi)
    obtain ⟨X, hX⟩ := hch
    have hlen : ((List.range len).map X).length = len := by simp
    have hat : ∀ i, i < len → eAt E ((List.range len).map X) i = X i := by
      intro i hi
      simp [eAt, hi]
    refine ⟨(List.range len).map X, ⟨some a, cap, by rw [hlen], fun h0 => ?_⟩, by omega, fun i hi => ?_⟩
    · rw [hlen] at h0
      have hcell : ∀ i, i < len → ∀ j, j < E.sz → W.cell? ((a.add (i * E.sz)).add j) = some (eCell E ((List.range len).map X) i j) := by
        intro i hi j hj
        rw [(hX i hi).2 j hj, eCell, hat i hi, List.getElem?_eq_getElem (by rw [E.len]; exact hj)]
        rfl
      obtain ⟨b, off, spot⟩ := a
      have hspot : spot = none := by
        have := hcell 0 h0 0 E.pos
        simpa [Addr.add] using World.cell?_spot this
      subst hspot
      have hplain : ∀ i, i < len → ∀ j, j < E.sz → W.cell? ⟨b, off + i * E.sz + j, none⟩ = some (eCell E ((List.range len).map X) i j) := by
        intro i hi j hj
        have := hcell i hi j hj
        rwa [add_plain, add_plain] at this
      exact ⟨b, off, rfl, World.block_lt_of_cell? W _ (hplain 0 h0 0 E.pos), fun i hi j hj => hplain i (by omega) j hj⟩
    · rw [hlen] at hi
      rw [hat i hi]
      exact (hX i hi).1
theorem mach_laidOut : laidOutB Tryz.prog = true := by kernel_rfl
theorem list2 {α : Type} {l : List α} (h : l.length = 2) : ∃ a0 a1, l = [a0, a1] := by
  match l, h with
  | [a0, a1], _ => exact ⟨a0, a1, rfl⟩
theorem list4 {α : Type} {l : List α} (h : l.length = 4) : ∃ a0 a1 a2 a3, l = [a0, a1, a2, a3] := by
  match l, h with
  | [a0, a1, a2, a3], _ => exact ⟨a0, a1, a2, a3, rfl⟩
theorem list5 {α : Type} {l : List α} (h : l.length = 5) : ∃ a0 a1 a2 a3 a4, l = [a0, a1, a2, a3, a4] := by
  match l, h with
  | [a0, a1, a2, a3, a4], _ => exact ⟨a0, a1, a2, a3, a4, rfl⟩
end Go.Proofs.YtnmhkgmmpkjjeacGreat
namespace Go.Proofs.YtnmhkgmmpkjjeacGreat
open Go.ChangeShapes Go.WideShapes Go.ChangeAt Go.RowKit
set_option linter.unusedVariables false

theorem cellsSpan : Tryz.prog.cellsOf 83 = 5 := by kernel_rfl
def okSpan (x : SpanE) : Prop := (Lit.int .i64 x.page).wf = true ∧ (Lit.int .i64 x.count).wf = true ∧ (Lit.int .i64 x.out).wf = true ∧ (Lit.int .i64 x.perm).wf = true
set_option maxRecDepth 100000 in
theorem elSpan {H : Type} {enc : TypeId × Value → H} {W : World} {sp : Nat → Bool} (n : Nat) (cs : List Value) (y : DataW H × List MemPlace) (h : DataW.trod enc Tryz.prog W 0 sp true n 83 cs = some y) : ∃ x, cs = eSpan.enc x ∧ okSpan x := by
  obtain ⟨xs, m, _, _, hl, hlen, hf⟩ := DataW.trod_struct Tryz.underlying83 h
  rw [cellsSpan] at hl
  obtain ⟨v0, v1, v2, v3, v4, rfl⟩ := list5 hl
  have h0 : DataW.trod enc Tryz.prog W 0 sp true m 3 [v0] = xs[0]? := hf 0 _ rfl
  have h1 : DataW.trod enc Tryz.prog W 0 sp true m 3 [v1] = xs[1]? := hf 1 _ rfl
  have h2 : DataW.trod enc Tryz.prog W 0 sp true m 3 [v2] = xs[2]? := hf 2 _ rfl
  have h3 : DataW.trod enc Tryz.prog W 0 sp true m 3 [v3] = xs[3]? := hf 3 _ rfl
  have h4 : DataW.trod enc Tryz.prog W 0 sp true m 4 [v4] = xs[4]? := hf 4 _ rfl
  have k0 : ∃ z, xs[0]? = some z := ⟨_, List.getElem?_eq_getElem (by rw [hlen]; decide)⟩
  obtain ⟨z0, e0⟩ := k0
  rw [e0] at h0
  obtain ⟨q0, r0, _, w0⟩ := DataW.trod_int Tryz.underlying3 h0
  simp only [List.cons.injEq, and_true] at r0
  have k1 : ∃ z, xs[1]? = some z := ⟨_, List.getElem?_eq_getElem (by rw [hlen]; decide)⟩
  obtain ⟨z1, e1⟩ := k1
  rw [e1] at h1
  obtain ⟨q1, r1, _, w1⟩ := DataW.trod_int Tryz.underlying3 h1
  simp only [List.cons.injEq, and_true] at r1
  have k2 : ∃ z, xs[2]? = some z := ⟨_, List.getElem?_eq_getElem (by rw [hlen]; decide)⟩
  obtain ⟨z2, e2⟩ := k2
  rw [e2] at h2
  obtain ⟨q2, r2, _, w2⟩ := DataW.trod_int Tryz.underlying3 h2
  simp only [List.cons.injEq, and_true] at r2
  have k3 : ∃ z, xs[3]? = some z := ⟨_, List.getElem?_eq_getElem (by rw [hlen]; decide)⟩
  obtain ⟨z3, e3⟩ := k3
  rw [e3] at h3
  obtain ⟨q3, r3, _, w3⟩ := DataW.trod_int Tryz.underlying3 h3
  simp only [List.cons.injEq, and_true] at r3
  have k4 : ∃ z, xs[4]? = some z := ⟨_, List.getElem?_eq_getElem (by rw [hlen]; decide)⟩
  obtain ⟨z4, e4⟩ := k4
  rw [e4] at h4
  obtain ⟨q4, r4, _⟩ := DataW.trod_bool Tryz.underlying4 h4
  simp only [List.cons.injEq, and_true] at r4
  exact ⟨⟨q0, q1, q2, q3, q4⟩, by rw [r0, r1, r2, r3, r4]; rfl, w0, w1, w2, w3⟩


theorem okSpan.wf {x : SpanE} (h : okSpan x) : wfS x := by
  obtain ⟨h1, h2, h3, h4⟩ := h
  have b1 := bounds_i64 h1
  have b2 := bounds_i64 h2
  have b3 := bounds_i64 h3
  have b4 := bounds_i64 h4
  unfold wfS
  omega
end Go.Proofs.YtnmhkgmmpkjjeacGreat
