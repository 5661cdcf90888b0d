import Derived.Test.YtnmhkgmmpkjjeaaG00
import Derived.Deep.DeepCutAuto
import Derived.Test.YtnmhkgmmpkjjeaaG18
import Derived.Test.YtnmhkgmmpkjjeaaG19
import Derived.Test.YtnmhkgmmpkjjeaaG01
import Derived.Deep.AppendLies
namespace Go.Proofs.Ytnmhkgmmpkjjeaa
open Go.ChangeShapes Go.WideShapes Go.ChangeAt Go.RowKit

/-! A frame of which only some slots are known. -/
def Fs (tm : Array Value) : List (Nat × Value) → Prop
  | [] => True
  | q :: l => (∀ h : q.1 < tm.size, tm[q.1]'h = q.2) ∧ Fs tm l
theorem calls_o {P : Program} {f : FuncId} {fn : Func} {c : Code} {args : Array Value} {w : World} {R : Ending → World → Prop} (n : Nat) (hf : P.funcs[f]? = some fn) (hb : fn.body = some c) (hn : fn.ntmps = n) (ha : args.size ≤ n)
    (h : ∀ tm : Array Value, tm.size = n → (∀ i (hi : i < args.size) (h : i < tm.size), tm[i]'h = args[i]'hi) → c.wp P (bodyPost P fn R) ⟨tm, []⟩ w) : Calls P f args w R := by
  refine calls_of_wp hf hb (h _ ?_ ?_)
  · simp; omega
  · intro i hi h
    exact Array.getElem_append_left hi
/-- A statement and what follows it, with a relation between them. -/
theorem wp_mid {P : Program} {s : Code} {K : Act → World → Prop} {Q' : Exit → Act → World → Prop} {a : Act} {w : World} (n : Nat) (l : List (Nat × Value)) (R : World → Prop)
    (first : ∀ (J K' : Act → World → Prop), (∀ tm w', tm.size = n → Fs tm l → R w' → J ⟨tm, []⟩ w') → (∀ a' w', Met J a' w' → K' a' w') → s.wp P (Exit.then K' Q') a w)
    (rest : ∀ tm w', tm.size = n → Fs tm l → R w' → K ⟨tm, []⟩ w') : s.wp P (Exit.then K Q') a w := by
  refine wp_cut (fun a' w' => a'.defers = [] ∧ a'.tmps.size = n ∧ Fs a'.tmps l ∧ R w') ?_ ?_
  · rintro ⟨tm, ds⟩ w' ⟨rfl, hz, hr, h2⟩
    exact rest tm w' hz hr h2
  · intro J K' hJ hK
    exact first J K' (fun tm w' hz hr h2 => hJ _ _ ⟨rfl, hz, hr, h2⟩) hK
/-- What the temporaries behind hold is forgotten. -/
theorem wp_narrow {P : Program} {s : Code} {Q : Exit → Act → World → Prop} {tm : Array Value} {w : World} (n : Nat) (l : List (Nat × Value)) (hz : tm.size = n) (hl : Fs tm l)
    (h : ∀ tm' : Array Value, tm'.size = n → Fs tm' l → s.wp P Q ⟨tm', []⟩ w) : s.wp P Q ⟨tm, []⟩ w := h tm hz hl
theorem least_of {p : Nat → Prop} (h : ∃ n, p n) : ∃ n, p n ∧ ∀ m, p m → n ≤ m := by
  obtain ⟨n, hn⟩ := h
  induction n using Nat.strongRecOn with
  | _ n ih =>
    by_cases hc : ∃ m, m < n ∧ p m
    · obtain ⟨m, hm, hp⟩ := hc
      exact ih m hm hp
    · exact ⟨n, hn, fun m hm => by
        rcases Nat.lt_or_ge m n with h | h
        · exact absurd ⟨m, h, hm⟩ hc
        · exact h⟩
theorem wp_loop_o {P : Program} {c : Code} {Q : Exit → Act → World → Prop} {tm : Array Value} {w : World} (n : Nat) (I : Nat → Array Value → World → Prop) (k : Nat) (hz : tm.size = n) (h0 : I k tm w)
    (round : ∀ k tm w (J K : Act → World → Prop), tm.size = n → I k tm w → (∀ k' tm' w', tm'.size = n → I k' tm' w' → k' < k → J ⟨tm', []⟩ w') → (∀ a' w', Met J a' w' → K a' w') → c.wp P (Exit.then K Q) ⟨tm, []⟩ w) : (Code.loop c).wp P Q ⟨tm, []⟩ w := by
  classical
  refine wp_loop (fun a w => a.defers = [] ∧ a.tmps.size = n ∧ ∃ k, I k a.tmps w) (fun a w => if h : ∃ k, I k a.tmps w then (least_of h).choose else 0) ⟨rfl, hz, k, h0⟩ ?_
  rintro ⟨tm, ds⟩ w ⟨hd, hz, hk⟩
  obtain rfl : ds = [] := hd
  rw [dif_pos hk]
  refine round (least_of hk).choose tm w _ _ hz (least_of hk).choose_spec.1 ?_ (fun a' w' h => h)
  intro k' tm' w' hz' hi' hlt
  have he : ∃ k, I k tm' w' := ⟨k', hi'⟩
  refine ⟨⟨rfl, hz', he⟩, ?_⟩
  rw [dif_pos he]
  exact Nat.lt_of_le_of_lt ((least_of he).choose_spec.2 k' hi') hlt
end Go.Proofs.Ytnmhkgmmpkjjeaa
namespace Go.Proofs.Ytnmhkgmmpkjjeaa
open Go.ChangeShapes Go.WideShapes Go.ChangeAt Go.RowKit
set_option linter.unusedVariables false
set_option linter.unusedSimpArgs false
set_option maxRecDepth 100000
attribute [local go_sem ↓] Go.wp_at_zero Go.wp_at_succ

/-! Bytes, as the program tells them apart. -/
theorem isLetter_any (c : UInt8) (w : World) : Calls Try.prog 192 #[.int .u8 c.toNat] w fun e w' => e = .returned (.bool (isLow c)) ∧ w' = w := by
  unfold isLow
  obtain ⟨n, hn⟩ : ∃ n : Nat, c.toNat = n := ⟨_, rfl⟩
  rw [hn]
  clear hn
  go_enter Try.func192, Try.ntmps192
  go_wp2
  all_goals
    go_ret
    refine ⟨congrArg (fun b => Ending.returned (Value.bool b)) ?_, rfl⟩
    rw [Bool.eq_iff_iff]
    simp
    omega
theorem isDigit_any (c : UInt8) (w : World) : Calls Try.prog 193 #[.int .u8 c.toNat] w fun e w' => e = .returned (.bool (isDig c)) ∧ w' = w := by
  unfold isDig
  obtain ⟨n, hn⟩ : ∃ n : Nat, c.toNat = n := ⟨_, rfl⟩
  rw [hn]
  clear hn
  go_enter Try.func193, Try.ntmps193
  go_wp2
  all_goals
    go_ret
    refine ⟨congrArg (fun b => Ending.returned (Value.bool b)) ?_, rfl⟩
    rw [Bool.eq_iff_iff]
    simp
    omega
theorem inWord_any (c : UInt8) (w : World) : Calls Try.prog 170 #[.int .u8 c.toNat] w fun e w' => e = .returned (.bool (isWd c)) ∧ w' = w := by
  have t1 := isLetter_any c w
  have t2 := isDigit_any c w
  have hw : isWd c = (isLow c || isDig c || decide (c.toNat = 95)) := rfl
  rw [hw]
  clear hw
  obtain ⟨n, hn⟩ : ∃ n : Nat, c.toNat = n := ⟨_, rfl⟩
  rw [hn] at t1 t2 ⊢
  clear hn
  generalize isLow c = L at *
  generalize isDig c = D at *
  go_enter Try.func170, Try.ntmps170
  go_wp2_with fail
  refine t1.mono ?_
  rintro e w1 ⟨rfl, rfl⟩
  cases L
  · go_wp2_with fail
    refine t2.mono ?_
    rintro e w2 ⟨rfl, rfl⟩
    cases D
    · go_wp2_with fail
      all_goals
        go_ret
        refine ⟨congrArg (fun b => Ending.returned (Value.bool b)) ?_, rfl⟩
        rw [Bool.eq_iff_iff]
        simp
        try omega
    · go_wp2_with fail
      go_ret
      exact ⟨rfl, rfl⟩
  · go_wp2_with fail
    go_ret
    exact ⟨rfl, rfl⟩

/-! Rows of words, and of rows of words. -/
def eStr : Elt Txt := ⟨9, 1, fun x => [.string (bs x)], [], by omega, fun _ => rfl⟩
structure SlE where
  a : Option Addr
  n : Nat
  c : Nat
abbrev SlE.v (s : SlE) : Value := .slice s.a s.n s.c
def eSl : Elt SlE := ⟨119, 1, fun x => [x.v], ⟨none, 0, 0⟩, by omega, fun _ => rfl⟩
theorem infoStr : (Try.prog.info? 9).map (fun i => (i.zero, i.size, i.bytes)) = some (some (.string ⟨#[]⟩), 1, 16) := by kernel_rfl
theorem infoSl : (Try.prog.info? 119).map (fun i => (i.zero, i.size, i.bytes)) = some (some (.slice none 0 0), 1, 24) := by kernel_rfl
end Go.Proofs.Ytnmhkgmmpkjjeaa
namespace Go.Proofs.Ytnmhkgmmpkjjeaa
open Go.ChangeShapes Go.WideShapes Go.ChangeAt Go.RowKit
set_option linter.unusedVariables false
set_option maxRecDepth 100000

/-! The statements in the making, and the words of the one that is being read. -/
def WdAt (B : Nat) (w : World) (s : SlE) (ws : List Txt) : Prop := s.n = ws.length ∧ (0 < ws.length → ∃ g, s.a = some ⟨g, 0, none⟩ ∧ B ≤ g ∧ g < w.heap.size ∧ ∀ i, i < ws.length → w.cell? ⟨g, i, none⟩ = some (.string (bs (tAt ws i)))) ∧ s.n ≤ s.c ∧ s.c ≤ maxLen
theorem WdAt.cells {B : Nat} {w w' : World} {s : SlE} {ws : List Txt} (h : WdAt B w s ws) (hz : w.heap.size ≤ w'.heap.size) (hc : ∀ g i, 0 < ws.length → s.a = some ⟨g, 0, none⟩ → g < w.heap.size → w'.cell? ⟨g, i, none⟩ = w.cell? ⟨g, i, none⟩) : WdAt B w' s ws := by
  refine ⟨h.1, fun h0 => ?_, h.2.2⟩
  obtain ⟨g, e, hb, hg, hcl⟩ := h.2.1 h0
  exact ⟨g, e, hb, by omega, fun i hi => (hc g i h0 e hg).trans (hcl i hi)⟩
structure ScI (w wr : World) (vs vr : SlE) (sl : List SlE) (st : List (List Txt)) (re : List Txt) : Prop where
  rs : ERow eSl wr w.heap.size vs.v sl
  rr : ERow eStr wr w.heap.size vr.v re
  ln : sl.length = st.length
  ws : ∀ k, k < st.length → WdAt w.heap.size wr (eAt eSl sl k) (st.getD k [])
  s1 : ∀ k g, k < st.length → 0 < (st.getD k []).length → (eAt eSl sl k).a = some ⟨g, 0, none⟩ → vs.v.ownBlock ≠ some g ∧ vr.v.ownBlock ≠ some g
  s2 : ∀ g, vs.v.ownBlock = some g → vr.v.ownBlock ≠ some g
  bel : Below w.heap.size w wr
theorem eStr_nil (w : World) (B : Nat) : ERow eStr w B (.slice none 0 0) [] := ⟨by simp [ecells], .inl ⟨rfl, rfl⟩⟩
theorem eSl_nil (w : World) (B : Nat) : ERow eSl w B (.slice none 0 0) [] := ⟨by simp [ecells], .inl ⟨rfl, rfl⟩⟩
theorem ScI.new (w : World) : ScI w w ⟨none, 0, 0⟩ ⟨none, 0, 0⟩ [] [] [] :=
  ⟨eSl_nil _ _, eStr_nil _ _, rfl, fun k hk => absurd hk (Nat.not_lt_zero _), fun k g hk => absurd hk (Nat.not_lt_zero _), fun g h => (by cases h), Below.refl _ _⟩
/-- A row of words as they lie. -/
theorem WdAt.of_row {w : World} {B : Nat} {s : SlE} {ws : List Txt} (h : ERow eStr w B s.v ws) : WdAt B w s ws := by
  obtain ⟨a', c', e, hf⟩ := h.form
  simp only [Value.slice.injEq] at e
  obtain ⟨e1, e2, e3⟩ := e
  refine ⟨e2, fun h0 => ?_, ?_⟩
  rotate_left
  · rcases h.2 with ⟨e, h0⟩ | ⟨g, cap, cur, e, hb, hgg, hn, hm, r⟩
    · simp only [SlE.v, Value.slice.injEq] at e
      rw [e.2.1, e.2.2]
      exact ⟨Nat.le_refl _, by unfold maxLen; omega⟩
    · simp only [SlE.v, Value.slice.injEq] at e
      rw [e.2.1, e.2.2]
      exact ⟨hn, hm⟩
  obtain ⟨g, N, f, hag, hbg, hr, hN, hc⟩ := hf h0
  refine ⟨g, e1.trans hag, hbg, hr.lt, fun i hi => ?_⟩
  have hi' : i * 1 + 0 < ws.length * 1 := by omega
  have := hr.cell (Nat.lt_of_lt_of_le hi' hN)
  have hc0 : f (i * 1 + 0) = eCell eStr ws i 0 := hc i hi 0 (by decide)
  rw [hc0] at this
  rw [show i * 1 + 0 = i by omega] at this
  rw [this]
  unfold eCell eAt tAt
  rfl
theorem own_at {s : SlE} {g : Nat} (h : s.a = some ⟨g, 0, none⟩) : s.v.ownBlock = some g := by
  show (Value.slice s.a s.n s.c).ownBlock = some g
  rw [h]
  rfl
/-- A word more. -/
theorem ScI.word {w wr wn : World} {vs vr : SlE} {sl : List SlE} {st : List (List Txt)} {re : List Txt} {x : Txt} {o : Obj} {g1 c1 : Nat} (h : ScI w wr vs vr sl st re)
    (hown : wn.ownsRow w.heap.size eStr.T eStr.sz (.slice (some ⟨g1, 0, none⟩) (re.length + 1) c1) (re.length + 1) (ecells eStr re ++ eStr.enc x)) (hgrow : (wr.alloc o).grownBy wn vr.v.ownBlock) (hat : vr.v.ownBlock = some g1 ∨ g1 = wr.heap.size + 1) :
    ScI w wn vs ⟨some ⟨g1, 0, none⟩, re.length + 1, c1⟩ sl st (re ++ [x]) := by
  have hz : wr.heap.size < (wr.alloc o).heap.size := by simp
  have hzn := hgrow.size
  have cl : ∀ g i, g < wr.heap.size → vr.v.ownBlock ≠ some g → wn.cell? ⟨g, i, none⟩ = wr.cell? ⟨g, i, none⟩ := fun g i hg hn => (hgrow.cell_far ⟨g, i, none⟩ (by show g < _; omega) (fun e => hn e.symm)).trans (bal.cell (p := ⟨g, i, none⟩) hg)
  refine ⟨(h.rs.below bal).kept hgrow (fun k hk e => h.s2 k hk e.symm), ?_, h.ln, fun k hk => ?_, fun k g hk h0 ha => ⟨(h.s1 k g hk h0 ha).1, ?_⟩, fun g hg => ?_, ?_⟩
  · have := erow_push rfl hown
    have e : (re ++ [x]).length = re.length + 1 := by simp
    exact this
  · exact (h.ws k hk).cells (by omega) (fun g i h0 ha hg => cl g i hg (h.s1 k g hk h0 ha).2)
  · intro e
    rw [own_at (s := ⟨some ⟨g1, 0, none⟩, re.length + 1, c1⟩) rfl] at e
    injection e with e
    subst e
    obtain ⟨g2, e2, _, hg2, _⟩ := (h.ws k hk).2.1 h0
    rw [ha] at e2
    injection e2 with e2
    injection e2 with e2
    rcases hat with e | e
    · exact (h.s1 k g1 hk h0 ha).2 e
    · omega
  · intro e
    rw [own_at (s := ⟨some ⟨g1, 0, none⟩, re.length + 1, c1⟩) rfl] at e
    injection e with e
    subst e
    rcases hat with e | e
    · exact h.s2 g1 hg e
    · have := (h.rs.own g1 hg).2; omega
  · exact (h.bel.alloc h.bel.size _).grown hgrow (by have := h.bel.size; simp; omega) (fun q hq => (h.rr.own q hq).1)
/-- A statement more. -/
theorem ScI.stmt {w wr wn : World} {vs vr : SlE} {sl : List SlE} {st : List (List Txt)} {re : List Txt} {o : Obj} {g1 c1 : Nat} (h : ScI w wr vs vr sl st re)
    (hown : wn.ownsRow w.heap.size eSl.T eSl.sz (.slice (some ⟨g1, 0, none⟩) (sl.length + 1) c1) (sl.length + 1) (ecells eSl sl ++ eSl.enc vr)) (hgrow : (wr.alloc o).grownBy wn vs.v.ownBlock) (hat : vs.v.ownBlock = some g1 ∨ g1 = wr.heap.size + 1) :
    ScI w wn ⟨some ⟨g1, 0, none⟩, sl.length + 1, c1⟩ ⟨none, 0, 0⟩ (sl ++ [vr]) (st ++ [re]) [] := by
  have hz : wr.heap.size < (wr.alloc o).heap.size := by simp
  have hzn := hgrow.size
  have cl : ∀ g i, g < wr.heap.size → vs.v.ownBlock ≠ some g → wn.cell? ⟨g, i, none⟩ = wr.cell? ⟨g, i, none⟩ := fun g i hg hn => (hgrow.cell_far ⟨g, i, none⟩ (by show g < _; omega) (fun e => hn e.symm)).trans (bal.cell (p := ⟨g, i, none⟩) hg)
  have hlen : (st ++ [re]).length = st.length + 1 := by simp
  have eS : ∀ k, k < st.length → eAt eSl (sl ++ [vr]) k = eAt eSl sl k ∧ (st ++ [re]).getD k [] = st.getD k [] := by
    intro k hk
    have := h.ln
    unfold eAt
    rw [List.getD_eq_getElem?_getD, List.getD_eq_getElem?_getD, List.getElem?_append_left (by omega), List.getD_eq_getElem?_getD, List.getElem?_append_left hk, List.getD_eq_getElem?_getD]
    exact ⟨rfl, rfl⟩
  have eL : eAt eSl (sl ++ [vr]) st.length = vr ∧ (st ++ [re]).getD st.length [] = re := by
    unfold eAt
    rw [← h.ln]
    constructor
    · rw [List.getD_eq_getElem?_getD, List.getElem?_append_right (Nat.le_refl _), Nat.sub_self]
      rfl
    · rw [h.ln, List.getD_eq_getElem?_getD, List.getElem?_append_right (Nat.le_refl _), Nat.sub_self]
      rfl
  have hwr := WdAt.of_row h.rr
  refine ⟨?_, eStr_nil _ _, by simp [h.ln], fun k hk => ?_, fun k g hk h0 ha => ⟨?_, fun e => (by cases e)⟩, fun g hg e => (by cases e), ?_⟩
  · exact erow_push rfl hown
  · by_cases hk' : k < st.length
    · rw [(eS k hk').1, (eS k hk').2]
      exact (h.ws k hk').cells (by omega) (fun g i h0 ha hg => cl g i hg (h.s1 k g hk' h0 ha).1)
    · obtain rfl : k = st.length := by omega
      rw [eL.1, eL.2]
      exact hwr.cells (by omega) (fun g i h0 ha hg => cl g i hg (fun e => h.s2 g e (own_at ha)))
  · intro e
    rw [own_at (s := ⟨some ⟨g1, 0, none⟩, sl.length + 1, c1⟩) rfl] at e
    injection e with e
    subst e
    by_cases hk' : k < st.length
    · rw [(eS k hk').1] at ha
      rw [(eS k hk').2] at h0
      rcases hat with e | e
      · exact (h.s1 k g1 hk' h0 ha).1 e
      · obtain ⟨g2, e2, _, hg2, _⟩ := (h.ws k hk').2.1 h0
        rw [ha] at e2
        injection e2 with e2
        injection e2 with e2
        omega
    · obtain rfl : k = st.length := by omega
      rw [eL.1] at ha
      rcases hat with e | e
      · exact h.s2 g1 e (own_at ha)
      · have := (h.rr.own g1 (own_at ha)).2; omega
  · exact (h.bel.alloc h.bel.size _).grown hgrow (by have := h.bel.size; simp; omega) (fun q hq => (h.rs.own q hq).1)
end Go.Proofs.Ytnmhkgmmpkjjeaa
