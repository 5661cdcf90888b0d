import Derived.Test.YtnmhkgmmpkjjeaaRows
import Derived.Test.YtnmhkgmmpkjjeaaG00
import Derived.Test.YtnmhkgmmpkjjeaaG09
import Derived.Test.YtnmhkgmmpkjjeaaG11
import Derived.Test.YtnmhkgmmpkjjeaaG12
import Derived.Test.YtnmhkgmmpkjjeaaG16
namespace Go.Proofs.Ytnmhkgmmpkjjeaa
open Go.ChangeShapes Go.WideShapes Go.ChangeAt Go.RowKit
set_option linter.unusedVariables false
def eInt : Elt Int := ⟨3, 1, fun x => [.int .i64 x], 0, by omega, fun _ => rfl⟩
theorem infoInt : (Try.prog.info? 3).map (fun i => (i.zero, i.size, i.bytes)) = some (some (.int .i64 0), 1, 8) := by kernel_rfl
theorem eInt_cells {w : World} {b g c : Nat} {xs : List Int} (h : ERow eInt w b (.slice (some ⟨g, 0, none⟩) xs.length c) xs) (i : Nat) (hi : i < xs.length) : g < w.heap.size ∧ w.cell? ⟨g, i, none⟩ = some (.int .i64 (eAt eInt xs i)) := by
  obtain ⟨a, c', e, h1⟩ := h.form
  obtain ⟨g', N, f, e2, _, hr, hN, hf⟩ := h1 (by omega)
  have hN' : xs.length * 1 ≤ N := hN
  simp only [Value.slice.injEq] at e
  obtain ⟨e, _, _⟩ := e
  rw [e2] at e
  simp only [Option.some.injEq, Addr.mk.injEq, and_true] at e
  subst e
  have h5 := hf i hi 0 (by decide)
  have e5 : i * eInt.sz + 0 = i := by show i * 1 + 0 = i; omega
  rw [e5] at h5
  exact ⟨hr.lt, by rw [hr.cell (i := i) (by omega)]; exact congrArg some h5⟩
end Go.Proofs.Ytnmhkgmmpkjjeaa
namespace Go.Proofs.Ytnmhkgmmpkjjeaa
open Go.ChangeShapes Go.WideShapes Go.ChangeAt Go.RowKit
set_option linter.unusedVariables false
set_option maxRecDepth 100000

/-! The whole of a policy's text. -/
theorem stmtL_kind (ts : List Txt) : (stmtL ts).kind = 0 ∨ (stmtL ts).kind = 1 ∨ (stmtL ts).kind = 2 ∨ (stmtL ts).kind = 3 := by
  unfold stmtL objL regL grdL
  repeat' split
  all_goals simp [noSt]
theorem l4Code_any (a : Option Addr) (c : Nat) (all : List St) (s : St) (w : World) (hle : all.length ≤ 1000) (hr : StR w a all) (hall : ∀ t ∈ all, StOk t) (hs : StOk s) (hk : s.kind = 0 ∨ s.kind = 1 ∨ s.kind = 2 ∨ s.kind = 3) :
    Calls Try.prog 61 #[.slice a all.length c, stV s] w fun e w' => e = .returned (.int .i64 (codeL all s)) ∧ Below w.heap.size w w' := by
  obtain ⟨K, M, A, B, P, X⟩ := s
  dsimp only at hk
  rcases hk with rfl | rfl | rfl | rfl
  · have e : codeL all ⟨0, M, A, B, P, X⟩ = 4 := rfl
    rw [e]
    exact code_0 a c all M A B P X w
  · exact code_1 a c all M A B P X w hle hr hall ⟨hs.a0, hs.a1⟩ ⟨hs.b0, hs.b1⟩
  · exact code_2 a c all M A B P X w hle hr hall hs
  · exact code_3 a c all M A B P X w hle hr hall hs

/-- The places of the semicolons below k. -/
def endsTo (ts : List Txt) (k : Nat) : List Nat := (List.range k).filter (fun i => tAt ts i == [59])
theorem endsTo_succ (ts : List Txt) (k : Nat) : endsTo ts (k + 1) = if tAt ts k == [59] then endsTo ts k ++ [k] else endsTo ts k := by
  unfold endsTo
  rw [List.range_succ, List.filter_append, List.filter_cons]
  split <;> simp
theorem endsTo_len (ts : List Txt) (k : Nat) : (endsTo ts k).length ≤ k := by
  unfold endsTo
  exact Nat.le_trans (List.length_filter_le _ _) (by simp)
theorem endsTo_lt (ts : List Txt) (k : Nat) : ∀ e ∈ endsTo ts k, e < k := fun e he => List.mem_range.1 (List.mem_filter.1 he).1
theorem endsTo_sorted (ts : List Txt) (k : Nat) : (endsTo ts k).Pairwise (fun a b => a < b) := List.Pairwise.filter _ (List.pairwise_lt_range)
def enAt (es : List Nat) (k : Nat) : Nat := es.getD k 0
def fromAt (es : List Nat) : Nat → Nat
  | 0 => 0
  | k + 1 => enAt es k + 1
def subL (ts : List Txt) (i j : Nat) : List Txt := (ts.drop i).take (j - i)
def stK (ts : List Txt) (es : List Nat) (k : Nat) : St := stmtL (subL ts (fromAt es k) (enAt es k))
def allTo (ts : List Txt) (es : List Nat) (k : Nat) : List St := (List.range k).map (stK ts es)
def codeK (ts : List Txt) (es : List Nat) (k : Nat) : Int := codeL (allTo ts es k) (stK ts es k)
theorem allTo_succ (ts : List Txt) (es : List Nat) (k : Nat) : allTo ts es (k + 1) = allTo ts es k ++ [stK ts es k] := by
  unfold allTo
  rw [List.range_succ, List.map_append]
  rfl
theorem allTo_len (ts : List Txt) (es : List Nat) (k : Nat) : (allTo ts es k).length = k := by unfold allTo; simp
theorem allTo_ok (ts : List Txt) (es : List Nat) (k : Nat) : ∀ s ∈ allTo ts es k, StOk s := by
  intro s hs
  unfold allTo at hs
  obtain ⟨i, _, rfl⟩ := List.mem_map.1 hs
  exact stmtL_ok _
/-- A statement's words end behind those of the one before. -/
theorem from_le {ts : List Txt} {n k : Nat} (h : k < (endsTo ts n).length) : fromAt (endsTo ts n) k ≤ enAt (endsTo ts n) k ∧ enAt (endsTo ts n) k < n := by
  have hm : enAt (endsTo ts n) k ∈ endsTo ts n := by
    unfold enAt
    rw [List.getD_eq_getElem?_getD, List.getElem?_eq_getElem h]
    exact List.getElem_mem h
  refine ⟨?_, endsTo_lt ts n _ hm⟩
  cases k with
  | zero => exact Nat.zero_le _
  | succ k =>
    have := List.pairwise_iff_getElem.1 (endsTo_sorted ts n) k (k + 1) (by omega) h (by omega)
    show enAt _ k + 1 ≤ enAt _ (k + 1)
    unfold enAt
    rw [List.getD_eq_getElem?_getD, List.getD_eq_getElem?_getD, List.getElem?_eq_getElem h, List.getElem?_eq_getElem (by omega)]
    exact this
theorem from_le2 {ts : List Txt} {n k : Nat} (h : k ≤ (endsTo ts n).length) : fromAt (endsTo ts n) k ≤ n := by
  cases k with
  | zero => exact Nat.zero_le _
  | succ k =>
    have := (from_le (ts := ts) (n := n) (k := k) (by omega)).2
    show enAt _ k + 1 ≤ n
    omega
/-- What is read: the spans, the code and the place. -/
def polE (ts : List Txt) (es : List Nat) : List SpanE × Int × Int :=
  match (List.range es.length).find? (fun k => !(codeK ts es k == 0)) with
  | some k => ([], codeK ts es k, (k : Nat))
  | none => if fromAt es es.length < ts.length then ([], 4, (es.length : Nat)) else (spansTo (allTo ts es es.length) 4096, 0, 0)
def polT (ts : List Txt) : List SpanE × Int × Int :=
  if 1000 < (endsTo ts ts.length).length then ([], 3, 1000) else polE ts (endsTo ts ts.length)
def polL (text : Txt) : List SpanE × Int × Int :=
  if 20000 < text.length then ([], 1, 0)
  else if 0 ≤ badL 0 (blankL false text) then ([], 2, badL 0 (blankL false text))
  else polT (tokL [] (blankL false text))
theorem polE_bad {ts : List Txt} {es : List Nat} {k : Nat} (hk : k < es.length) (h : ∀ j, j < k → codeK ts es j = 0) (h2 : codeK ts es k ≠ 0) : polE ts es = ([], codeK ts es k, ((k : Nat) : Int)) := by
  unfold polE
  have e : (List.range es.length).find? (fun k => !(codeK ts es k == 0)) = some k := by
    have e1 : es.length = k + ((es.length - k - 1) + 1) := by omega
    rw [e1, List.range_add, List.find?_append, List.range_succ_eq_map, List.map_cons, List.find?_cons_of_pos (by simpa using h2)]
    have : (List.range k).find? (fun k => !(codeK ts es k == 0)) = none := by
      rw [List.find?_eq_none]
      intro x hx
      rw [h x (List.mem_range.1 hx)]; decide
    rw [this]
    rfl
  rw [e]
theorem polE_good {ts : List Txt} {es : List Nat} (h : ∀ j, j < es.length → codeK ts es j = 0) : polE ts es = if fromAt es es.length < ts.length then ([], (4 : Int), ((es.length : Nat) : Int)) else (spansTo (allTo ts es es.length) 4096, (0 : Int), (0 : Int)) := by
  unfold polE
  have : (List.range es.length).find? (fun k => !(codeK ts es k == 0)) = none := by
    rw [List.find?_eq_none]
    intro x hx
    rw [h x (List.mem_range.1 hx)]; decide
  rw [this]
/-- Blanked text is as long; tokens are as many and as long as the text at most. -/
theorem blankL_len : ∀ (b : Bool) (l : Txt), (blankL b l).length = l.length
  | _, [] => rfl
  | b, c :: r => by
    unfold blankL
    rw [List.length_cons, List.length_cons, blankL_len]
theorem tokL_bd : ∀ (w l : Txt), (tokL w l).length ≤ w.length + l.length ∧ ∀ t ∈ tokL w l, t.length ≤ w.length + l.length
  | w, [] => by
    unfold tokL flush
    split
    · simp
    · rename_i h
      have : 0 < w.length := List.length_pos_iff.2 h
      refine ⟨by simp; omega, fun t ht => ?_⟩
      rw [List.mem_singleton] at ht
      subst ht
      simp
  | w, c :: r => by
    unfold tokL
    split
    · obtain ⟨h1, h2⟩ := tokL_bd (w ++ [c]) r
      rw [List.length_append, List.length_singleton] at h1 h2
      exact ⟨by rw [List.length_cons]; omega, fun t ht => by have := h2 t ht; rw [List.length_cons]; omega⟩
    · obtain ⟨h1, h2⟩ := tokL_bd [] r
      simp only [List.length_nil, Nat.zero_add] at h1 h2
      have hf : (flush w).length ≤ w.length ∧ ∀ t ∈ flush w, t.length ≤ w.length := by
        unfold flush
        split
        · simp
        · rename_i h
          have : 0 < w.length := List.length_pos_iff.2 h
          exact ⟨by simp; omega, fun t ht => by rw [List.mem_singleton] at ht; subst ht; exact Nat.le_refl _⟩
      refine ⟨?_, fun t ht => ?_⟩
      · rw [List.length_append, List.length_append, List.length_cons]
        have : (if decide (c.toNat = 59) = true then [[59]] else ([] : List Txt)).length ≤ 1 := by split <;> simp
        omega
      · rw [List.length_cons]
        rcases List.mem_append.1 ht with ht | ht
        · have := hf.2 t ht; omega
        · rcases List.mem_append.1 ht with ht | ht
          · split at ht
            · rw [List.mem_singleton] at ht
              subst ht
              show 1 ≤ _
              omega
            · cases ht
          · have := h2 t ht; omega
theorem subL_at {ts : List Txt} {i j k : Nat} (hj : j ≤ ts.length) (hk : k < j - i) : tAt (subL ts i j) k = tAt ts (i + k) := by
  unfold subL tAt
  rw [List.getD_eq_getElem?_getD, List.getD_eq_getElem?_getD, List.getElem?_take, if_pos hk, List.getElem?_drop]
theorem subL_len {ts : List Txt} {i j : Nat} (hij : i ≤ j) (hj : j ≤ ts.length) : (subL ts i j).length = j - i := by
  unfold subL
  rw [List.length_take, List.length_drop]
  omega
end Go.Proofs.Ytnmhkgmmpkjjeaa
