import Derived.Test.YtiiejckfcnmhoabGreatUOpen
import Derived.Test.YtiiejckfcnmhoabGreatMStep
import Derived.Test.YtiiejckfcnmhoabGreatPlcAll
namespace Go.Proofs.YtiiejckfcnmhoabGreat
open Go.ChangeShapes Go.WideShapes Go.ChangeAt Go.RowKit
set_option linter.unusedVariables false
attribute [local go_sem ↓] Go.wp_at_zero Go.wp_at_succ

/-- All blocks of the machine. -/
def UV.all (u : UV) (gu k : Nat) : Prop := k = gu ∨ u.o1 = some k ∨ u.o2 = some k ∨ u.o3 = some k ∨ u.o4 = some k ∨ u.o5 = some k
/-- What a step of the machine leaves. -/
structure UWide (w w' : World) (gu b0 B : Nat) (u u' : UV) (M' : Mach) : Prop where
  um : UM w' gu b0 B true u' M'
  tch : Touch (u.all gu) w w'
  old : ∀ k, u'.all gu k → u.all gu k ∨ w.heap.size ≤ k
  th : UThree u'
theorem UWide.refl {w w' : World} {gu b0 B : Nat} {u : UV} {M : Mach} (h : UM w gu b0 B true u M) (ht : UThree u) (hb : Below w.heap.size w w') : UWide w w' gu b0 B u u M := ⟨h.below hb, Touch.of_below hb, fun k hk => .inl hk, ht⟩
theorem UWide.trans {a b c : World} {gu b0 B : Nat} {u v x : UV} {M N : Mach} (h : UWide a b gu b0 B u v M) (k : UWide b c gu b0 B v x N) : UWide a c gu b0 B u x N :=
  ⟨k.um, h.tch.then k.tch (fun i hi hv => (h.old i hv).resolve_right (by omega)), fun i hi => by
    rcases k.old i hi with hv | hv
    · exact h.old i hv
    · exact .inr (Nat.le_trans h.tch.size hv), k.th⟩
theorem UStep.wide {w w' : World} {gu b0 B : Nat} {u u' : UV} {M' : Mach} (h : UStep w w' gu b0 B true u u' M') (ht : UThree u) : UWide w w' gu b0 B u u' M' := by
  have sub : ∀ k, u.wr gu k → u.all gu k := fun k hk => by
    rcases hk with e | e | e
    · exact .inl e
    · exact .inr (.inr (.inr (.inr (.inl e))))
    · exact .inr (.inr (.inr (.inr (.inr e))))
  refine ⟨h.um, ⟨h.tch.os, h.tch.tape, h.tch.output, h.tch.size, fun k hk hn => h.tch.block k hk (fun hh => hn (sub k hh))⟩, fun k hk => ?_, ?_⟩
  · rcases hk with e | e | e | e | e | e
    · exact .inl (.inl e)
    · exact .inl (.inr (.inl (by rw [← h.s1]; exact e)))
    · exact .inl (.inr (.inr (.inl (by rw [← h.s2]; exact e))))
    · exact .inl (.inr (.inr (.inr (.inl (by rw [← h.s3]; exact e)))))
    · exact (h.old k (.inr (.inl e))).imp (sub k) id
    · exact (h.old k (.inr (.inr e))).imp (sub k) id
  · exact ⟨fun k h1 h3 => ht.a13 k (by rw [← h.s1]; exact h1) (by rw [← h.s3]; exact h3), fun k h1 h2 => ht.a12 k (by rw [← h.s1]; exact h1) (by rw [← h.s2]; exact h2), fun k h2 h3 => ht.a23 k (by rw [← h.s2]; exact h2) (by rw [← h.s3]; exact h3)⟩
theorem ERow.cellsB {α : Type} {E : Elt α} {w : World} {b c : Nat} {a : Option Addr} {xs : List α} (h : ERow E w b (.slice a xs.length c) xs) :
    ∃ g, (0 < xs.length → a = some ⟨g, 0, none⟩ ∧ g < w.heap.size ∧ b ≤ g ∧ xs.length ≤ c) ∧ ∀ k, k < xs.length → ∀ j, j < E.sz → ∀ wX : World, wX.heap[g]? = w.heap[g]? → wX.cell? ⟨g, k * E.sz + j, none⟩ = some (eCell E xs k j) := by
  by_cases h0 : 0 < xs.length
  · rcases h.2 with ⟨e, h1⟩ | ⟨g0, cap, cur, e, hb, hg, hn, hm, hs, ht⟩
    · exact absurd h0 (by omega)
    · obtain ⟨a', c', e', hf⟩ := h.form
      obtain ⟨g, N, f, hag, hbg, hr, hN, hc⟩ := hf h0
      simp only [Value.slice.injEq] at e e'
      have hga : a = some ⟨g, 0, none⟩ := e'.1.trans hag
      refine ⟨g, fun _ => ⟨hga, hr.lt, hbg, by omega⟩, fun k hk j hj wX hX => ?_⟩
      rw [(hr.of_block hX).cell (Nat.lt_of_lt_of_le (cell_lt hk hj) hN)]
      exact congrArg some (hc k hk j hj)
  · exact ⟨0, fun h => absurd h h0, fun k hk => absurd hk (by omega)⟩
theorem tlb_cells {w : World} {b c : Nat} {a : Option Addr} {xs : List TlbE} (h : ERow eTE w b (.slice a xs.length c) xs) :
    ∃ g, (0 < xs.length → a = some ⟨g, 0, none⟩ ∧ g < w.heap.size) ∧ ∀ k P S O R D, k < xs.length → eAt eTlb xs k = ⟨P, S, O, R, D⟩ → ∀ wX : World, wX.heap[g]? = w.heap[g]? → wX.cell? ⟨g, k * 5, none⟩ = some (.int .i64 P) ∧ wX.cell? ⟨g, k * 5 + 1, none⟩ = some (.int .i64 S) ∧ wX.cell? ⟨g, k * 5 + 2, none⟩ = some (.bool D) ∧ wX.cell? ⟨g, k * 5 + 3, none⟩ = some (.int .i64 O) ∧ wX.cell? ⟨g, k * 5 + 4, none⟩ = some (.int .i64 R) := by
  obtain ⟨g, h1, h2⟩ := h.cellsB
  refine ⟨g, fun h0 => ⟨(h1 h0).1, (h1 h0).2.1⟩, fun k P S O R D hk he wX hX => ?_⟩
  have e0 : ∀ j, eCell eTE xs k j = ((eTE.enc ⟨P, S, O, R, D⟩)[j]?).getD (.bool false) := fun j => by
    have he' : eAt eTE xs k = ⟨P, S, O, R, D⟩ := he
    unfold eCell; rw [he']
  have c : ∀ j, j < 5 → wX.cell? ⟨g, k * 5 + j, none⟩ = some (eCell eTE xs k j) := fun j hj => h2 k hk j hj wX hX
  exact ⟨(c 0 (by omega)).trans (by rw [e0]; rfl), (c 1 (by omega)).trans (by rw [e0]; rfl), (c 2 (by omega)).trans (by rw [e0]; rfl), (c 3 (by omega)).trans (by rw [e0]; rfl), (c 4 (by omega)).trans (by rw [e0]; rfl)⟩
theorem wc_cells {w : World} {b c : Nat} {a : Option Addr} {xs : List WcE} (h : ERow eWE w b (.slice a xs.length c) xs) :
    ∃ g, (0 < xs.length → a = some ⟨g, 0, none⟩ ∧ g < w.heap.size) ∧ ∀ k L P T D, k < xs.length → eAt eWc xs k = ⟨L, P, T, D⟩ → ∀ wX : World, wX.heap[g]? = w.heap[g]? → wX.cell? ⟨g, k * 5, none⟩ = some (.int .i64 P) ∧ wX.cell? ⟨g, k * 5 + 1, none⟩ = some (.int .i64 (16 * cov L)) ∧ wX.cell? ⟨g, k * 5 + 2, none⟩ = some (.bool D) ∧ wX.cell? ⟨g, k * 5 + 3, none⟩ = some (.int .i64 L) ∧ wX.cell? ⟨g, k * 5 + 4, none⟩ = some (.int .i64 T) := by
  obtain ⟨g, h1, h2⟩ := h.cellsB
  refine ⟨g, fun h0 => ⟨(h1 h0).1, (h1 h0).2.1⟩, fun k L P T D hk he wX hX => ?_⟩
  have e0 : ∀ j, eCell eWE xs k j = ((eWE.enc ⟨L, P, T, D⟩)[j]?).getD (.bool false) := fun j => by
    have he' : eAt eWE xs k = ⟨L, P, T, D⟩ := he
    unfold eCell; rw [he']
  have c : ∀ j, j < 5 → wX.cell? ⟨g, k * 5 + j, none⟩ = some (eCell eWE xs k j) := fun j hj => h2 k hk j hj wX hX
  exact ⟨(c 0 (by omega)).trans (by rw [e0]; rfl), (c 1 (by omega)).trans (by rw [e0]; rfl), (c 2 (by omega)).trans (by rw [e0]; rfl), (c 3 (by omega)).trans (by rw [e0]; rfl), (c 4 (by omega)).trans (by rw [e0]; rfl)⟩
theorem plc_cells {w : World} {b c : Nat} {a : Option Addr} {ps : List P3} (h : PRow w b (.slice a ps.length c) ps) :
    ∃ g, (0 < ps.length → a = some ⟨g, 0, none⟩ ∧ g < w.heap.size) ∧ ∀ k F L P, k < ps.length → pAt ps k = ⟨F, L, P⟩ → ∀ wX, Below w.heap.size w wX → wX.cell? ⟨g, k * 3, none⟩ = some (.int .i64 F) ∧ wX.cell? ⟨g, k * 3 + 1, none⟩ = some (.int .i64 L) ∧ wX.cell? ⟨g, k * 3 + 2, none⟩ = some (.int .i64 P) := by
  obtain ⟨a', c', e, hf⟩ := h.form
  simp only [Value.slice.injEq] at e
  obtain ⟨rfl, _, _⟩ := e
  by_cases h0 : 0 < ps.length
  · obtain ⟨g, N, f, rfl, _, hr, hN, hc⟩ := hf h0
    refine ⟨g, fun _ => ⟨rfl, hr.lt⟩, fun k F L P hk he wX hX => ?_⟩
    have hr1 : wX.rowIs g 172 N f := hr.of_block (hX.block g hr.lt)
    obtain ⟨x0, x1, x2⟩ := hc k hk
    rw [he] at x0 x1 x2
    exact ⟨(hr1.cell (by omega)).trans (congrArg some x0), (hr1.cell (by omega)).trans (congrArg some x1), (hr1.cell (by omega)).trans (congrArg some x2)⟩
  · exact ⟨0, fun h => absurd h h0, fun k F L P hk => absurd hk (by omega)⟩
/-- The words of a row that are there. -/
theorem eWord_c {w : World} {b c : Nat} {a : Option Addr} {zs : List Int} (h : ERow eWord w b (.slice a zs.length c) zs) (h0 : 0 < zs.length) : ∃ g, a = some ⟨g, 0, none⟩ ∧ CRow w g zs ∧ zs.length ≤ c ∧ b ≤ g := by
  obtain ⟨g, h1, h2⟩ := h.cellsB
  obtain ⟨e, hl, hb, hc⟩ := h1 h0
  refine ⟨g, e, ⟨hl, fun i hi => ?_⟩, hc, hb⟩
  have := h2 i hi 0 (by decide) w rfl
  have e1 : i * eWord.sz + 0 = i := by show i * 1 + 0 = i; omega
  rw [e1] at this
  exact this
theorem lateL_rng {M : Mach} (h : WOk M) (hp : ∀ i, i < M.pend.length → 0 ≤ (eAt eWrite M.pend i).addr) : ∀ i, 0 ≤ (lateL M).getD i 0 ∧ (lateL M).getD i 0 < 2 ^ 64 := fun i => by
  by_cases hi : i < M.mem.length
  · rw [lateL_read M i hi hp]
    exact readTo_rng h _ _
  · rw [List.getD_eq_getElem?_getD, List.getElem?_eq_none (by rw [lateL_length]; omega)]
    simp
theorem late_ok {M : Mach} (h : WOk M) (hp : ∀ i, i < M.pend.length → 0 ≤ (eAt eWrite M.pend i).addr) : OkMem (lateL M) := ⟨by rw [lateL_length]; exact h.n0, lateL_rng h hp⟩
theorem WOk.okMem {M : Mach} (h : WOk M) : OkMem M.mem := ⟨h.n0, h.word⟩
end Go.Proofs.YtiiejckfcnmhoabGreat
