import Derived.Test.YtnmhkgmmpkjjeaaG24
import Derived.MapKept
namespace Go.Proofs.Ytnmhkgmmpkjjeaa
set_option linter.unusedVariables false
set_option linter.unusedSimpArgs false
set_option maxRecDepth 100000

/-! A statement's words, as the program reads them one by one: the same as the model's statement. -/
def kObj : Txt := [111, 98, 106, 101, 99, 116]
def kReg : Txt := [114, 101, 103, 105, 111, 110]
def kGrd : Txt := [103, 117, 97, 114, 100]
def kAtR : Txt := [97, 116]
def kSha : Txt := [115, 104, 97, 114, 101, 100]
def kHug : Txt := [104, 117, 103, 101]
def prObj : List Txt → St
  | [n, c, a, f] => if nameL n = true ∧ numOk c = true ∧ a = kAtR ∧ numOk f = true then ⟨1, n, valL c, valL f, 0, false⟩ else noSt
  | [n, c, a, f, s] => if nameL n = true ∧ numOk c = true ∧ a = kAtR ∧ numOk f = true ∧ s = kSha then ⟨1, n, valL c, valL f, 0, true⟩ else noSt
  | _ => noSt
def prReg : List Txt → St
  | [p, n, q] => if numOk p = true ∧ nameL n = true ∧ ¬ permL q = 0 then ⟨2, n, valL p, 0, permL q, false⟩ else noSt
  | [p, n, q, s] => if numOk p = true ∧ nameL n = true ∧ ¬ permL q = 0 ∧ s = kHug then ⟨2, n, valL p, 0, permL q, true⟩ else noSt
  | _ => noSt
def prGrd : List Txt → St
  | [p, c] => if numOk p = true ∧ numOk c = true then ⟨3, [], valL p, valL c, 0, false⟩ else noSt
  | _ => noSt
def prSt : List Txt → St
  | [] => noSt
  | h :: t => if h = kObj then prObj t else if h = kReg then prReg t else if h = kGrd then prGrd t else noSt
theorem numL_ok {x : Txt} (h : numOk x = true) : numL x = valL x ∧ ¬ numL x < 0 := by
  unfold numL
  rw [if_pos h]
  exact ⟨rfl, by omega⟩
theorem numL_no {x : Txt} (h : ¬ numOk x = true) : numL x < 0 := by
  unfold numL
  rw [if_neg h]
  omega
theorem objL_eq (t : List Txt) : (if (kObj :: t).length < 3 then noSt else objL (kObj :: t)) = prObj t := by
  match t with
  | [] => rfl
  | [_] => rfl
  | [_, _] => rfl
  | [_, _, _] => rfl
  | [n, c, a, f] =>
    show objL [kObj, n, c, a, f] = prObj [n, c, a, f]
    by_cases h1 : nameL n = true
    · by_cases h3 : a = kAtR
      · by_cases h2 : numOk c = true
        · by_cases h4 : numOk f = true
          · obtain ⟨e1, e2⟩ := numL_ok h2
            obtain ⟨e3, e4⟩ := numL_ok h4
            have e5 : ¬ ((valL c : Int) < 0 ∨ (valL f : Int) < 0) := by omega
            simp [objL, prObj, tAt, h1, h2, h3, h4, kAtR, e1, e3, e5]
          · have := numL_no h4
            simp [objL, prObj, tAt, h1, h2, h3, h4, kAtR, this]
        · have := numL_no h2
          simp [objL, prObj, tAt, h1, h2, h3, kAtR, this]
      · have h3' : ¬ a = [97, 116] := h3
        simp [objL, prObj, tAt, h3, h3']
    · simp [objL, prObj, tAt, h1]
  | [n, c, a, f, s] =>
    show objL [kObj, n, c, a, f, s] = prObj [n, c, a, f, s]
    by_cases h1 : nameL n = true
    · by_cases h3 : a = kAtR
      · by_cases h5 : s = kSha
        · by_cases h2 : numOk c = true
          · by_cases h4 : numOk f = true
            · obtain ⟨e1, e2⟩ := numL_ok h2
              obtain ⟨e3, e4⟩ := numL_ok h4
              have e5 : ¬ ((valL c : Int) < 0 ∨ (valL f : Int) < 0) := by omega
              simp [objL, prObj, tAt, h1, h2, h3, h4, h5, kAtR, kSha, e1, e3, e5]
            · have := numL_no h4
              simp [objL, prObj, tAt, h1, h2, h3, h4, h5, kAtR, kSha, this]
          · have := numL_no h2
            simp [objL, prObj, tAt, h1, h2, h3, h5, kAtR, kSha, this]
        · have h5' : ¬ s = [115, 104, 97, 114, 101, 100] := h5
          simp [objL, prObj, tAt, h1, h3, h5, kAtR, h5']
      · have h3' : ¬ a = [97, 116] := h3
        simp [objL, prObj, tAt, h3, h3']
    · simp [objL, prObj, tAt, h1]
  | _ :: _ :: _ :: _ :: _ :: _ :: _ =>
    unfold objL prObj
    simp
theorem regL_eq (t : List Txt) : (if (kReg :: t).length < 3 then noSt else regL (kReg :: t)) = prReg t := by
  match t with
  | [] => rfl
  | [_] => rfl
  | [_, _] => rfl
  | [p, n, q] =>
    show regL [kReg, p, n, q] = prReg [p, n, q]
    by_cases h1 : nameL n = true
    · by_cases h2 : numOk p = true
      · obtain ⟨e1, e2⟩ := numL_ok h2
        have e5 : ¬ (valL p : Int) < 0 := by omega
        by_cases h3 : permL q = 0
        · simp [regL, prReg, tAt, h1, h2, h3]
        · simp [regL, prReg, tAt, h1, h2, h3, e1, e5]
      · have := numL_no h2
        simp [regL, prReg, tAt, h1, h2, this]
    · simp [regL, prReg, tAt, h1]
  | [p, n, q, s] =>
    show regL [kReg, p, n, q, s] = prReg [p, n, q, s]
    by_cases h1 : nameL n = true
    · by_cases h5 : s = kHug
      · by_cases h2 : numOk p = true
        · obtain ⟨e1, e2⟩ := numL_ok h2
          have e5 : ¬ (valL p : Int) < 0 := by omega
          by_cases h3 : permL q = 0
          · simp [regL, prReg, tAt, h1, h2, h3, h5, kHug]
          · simp [regL, prReg, tAt, h1, h2, h3, h5, kHug, e1, e5]
        · have := numL_no h2
          simp [regL, prReg, tAt, h1, h2, h5, kHug, this]
      · have h5' : ¬ s = [104, 117, 103, 101] := h5
        simp [regL, prReg, tAt, h1, h5, h5']
    · simp [regL, prReg, tAt, h1]
  | _ :: _ :: _ :: _ :: _ :: _ =>
    unfold regL prReg
    simp
theorem grdL_eq (t : List Txt) : (if (kGrd :: t).length < 3 then noSt else if (kGrd :: t).length = 3 then grdL (kGrd :: t) else noSt) = prGrd t := by
  match t with
  | [] => rfl
  | [_] => rfl
  | [p, c] =>
    show grdL [kGrd, p, c] = prGrd [p, c]
    by_cases h2 : numOk p = true
    · by_cases h4 : numOk c = true
      · obtain ⟨e1, e2⟩ := numL_ok h2
        obtain ⟨e3, e4⟩ := numL_ok h4
        have e5 : ¬ ((valL p : Int) < 0 ∨ (valL c : Int) < 0) := by omega
        simp [grdL, prGrd, tAt, h2, h4, e1, e3, e5]
      · have := numL_no h4
        simp [grdL, prGrd, tAt, h2, h4, this]
    · have := numL_no h2
      simp [grdL, prGrd, tAt, h2, this]
  | _ :: _ :: _ :: _ =>
    unfold prGrd
    simp
theorem prSt_eq (ts : List Txt) : prSt ts = stmtL ts := by
  cases ts with
  | nil => rfl
  | cons h t =>
    have e0 : tAt (h :: t) 0 = h := rfl
    unfold prSt stmtL
    rw [e0]
    dsimp only
    by_cases h1 : h = kObj
    · subst h1
      rw [if_pos rfl, ← objL_eq t]
      rfl
    · have h1' : (h == [111, 98, 106, 101, 99, 116]) = false := beq_eq_false_iff_ne.2 h1
      rw [if_neg h1, h1']
      by_cases h2 : h = kReg
      · subst h2
        rw [if_pos rfl, ← regL_eq t]
        rfl
      · have h2' : (h == [114, 101, 103, 105, 111, 110]) = false := beq_eq_false_iff_ne.2 h2
        rw [if_neg h2, h2']
        by_cases h3 : h = kGrd
        · subst h3
          rw [if_pos rfl, ← grdL_eq t]
          by_cases hl : (kGrd :: t).length = 3
          · simp [hl, kGrd]
          · have hl' : ¬ t.length = 2 := by simpa using hl
            simp [hl']
        · have h3' : (h == [103, 117, 97, 114, 100]) = false := beq_eq_false_iff_ne.2 h3
          rw [if_neg h3, h3']
          simp

/-! What the program keeps of the statements read: the frames of objects. -/
def framesOf (all : List St) : List RunE := (all.filter fun e => e.kind == 1).map fun e => ⟨e.b, e.a⟩
theorem framesOf_any (all : List St) (s : St) : (framesOf all).any (meetR ⟨s.b, s.a⟩) = all.any (hitObj s) := by
  unfold framesOf
  rw [List.any_map, List.any_filter]
  congr 1
theorem framesOf_snoc (all : List St) (s : St) : framesOf (all ++ [s]) = if s.kind == 1 then framesOf all ++ [⟨s.b, s.a⟩] else framesOf all := by
  unfold framesOf
  rw [List.filter_append, List.map_append, List.filter_cons]
  split <;> simp
theorem objOf_snoc (all : List St) (s : St) (n : Txt) : objOf (all ++ [s]) n = if (objOf all n).kind == 1 then objOf all n else if isObj n s then s else noSt := by
  induction all with
  | nil => simp [objOf, noSt]
  | cons e r ih =>
    rw [List.cons_append]
    unfold objOf
    by_cases h : isObj n e = true
    · rw [if_pos h, if_pos h]
      have : (e.kind == 1) = true := by unfold isObj at h; simp at h; simpa using h.1
      rw [if_pos this]
    · rw [if_neg h, if_neg h]
      exact ih
end Go.Proofs.Ytnmhkgmmpkjjeaa
namespace Go.Proofs.Ytnmhkgmmpkjjeaa
open Go.ChangeShapes Go.WideShapes Go.ChangeAt Go.RowKit
set_option linter.unusedVariables false
set_option linter.unusedSimpArgs false
set_option maxRecDepth 100000

/-! The map of objects, by what it says of each name. -/
structure OV where
  f : Int
  c : Int
  sh : Bool
  pm : Int
abbrev oV (o : OV) : Value := .agg #[.int .i64 o.f, .int .i64 o.c, .bool o.sh, .int .i64 o.pm]
structure MO (es : Array MapEntry) (g : Txt → Option OV) : Prop where
  k : ∀ (i : Nat) (x : MapEntry), es[i]? = some x → ∃ n v, x.key = .string (bs n) ∧ g n = some v ∧ x.val = oV v
  d : ∀ (i j : Nat) (x y : MapEntry), es[i]? = some x → es[j]? = some y → x.key = y.key → i = j
  h : ∀ n v, g n = some v → ∃ (i : Nat) (x : MapEntry), es[i]? = some x ∧ x.key = .string (bs n)
def MapO (w : World) (B : Nat) (g : Txt → Option OV) : Prop := ∃ es c, w.heap[B]? = some (.map es c) ∧ MO es g
theorem MO.keys {es : Array MapEntry} {g : Txt → Option OV} (h : MO es g) : ∀ x ∈ es.toList, MapKept.IsKey .string x.key := by
  intro x hx
  obtain ⟨i, hi, e⟩ := List.mem_iff_getElem.1 hx
  obtain ⟨n, v, e1, _⟩ := h.k i x (by rw [← e]; simp)
  rw [e1]
  trivial
theorem strInj {a b : Txt} (h : Value.string (bs a) = Value.string (bs b)) : a = b := bs_inj (by injection h)
theorem MO.find {es : Array MapEntry} {g : Txt → Option OV} (h : MO es g) (n : Txt) :
    (Instr.findNow .string (.string (bs n)) es.toList 0 = some none ∧ g n = none) ∨ ∃ (j : Nat) (e : MapEntry) (v : OV), Instr.findNow .string (.string (bs n)) es.toList 0 = some (some (j, oV v)) ∧ es[j]? = some e ∧ e.key = .string (bs n) ∧ g n = some v := by
  rcases MapKept.findNow_spec (d := .string) (k := .string (bs n)) trivial es.toList 0 h.keys with ⟨h1, h2⟩ | ⟨j, e, h1, h2, h3⟩
  · refine .inl ⟨h1, ?_⟩
    cases hg : g n with
    | none => rfl
    | some v =>
      obtain ⟨i, x, hx, hk⟩ := h.h n v hg
      exact absurd hk (h2 x (by
        obtain ⟨hi, e⟩ := Array.getElem?_eq_some_iff.1 hx
        rw [← e]
        simp))
  · have hj : es[j]? = some e := by simpa using h2
    obtain ⟨m, v, e1, e2, e3⟩ := h.k j e hj
    rw [h3] at e1
    obtain rfl := strInj e1
    refine .inr ⟨j, e, v, ?_, hj, h3, e2⟩
    rw [h1, e3, Nat.zero_add]
theorem zeroObj (w : World) : (zeroValue 257).run Try.prog w = .ok (oV ⟨0, 0, false, 0⟩) w := by kernel_rfl
theorem strU : Try.prog.underlying 9 = some .string := by kernel_rfl
def seeO (g : Txt → Option OV) (n : Txt) : OV := (g n).getD ⟨0, 0, false, 0⟩
theorem run_lookO (B : Nat) (g : Txt → Option OV) (n : Txt) (w : World) (h : MapO w B g) :
    (Instr.lookup 117 (.map (some B)) (.string (bs n)) true).run Try.prog w = .ok (.tuple #[oV (seeO g n), .bool (g n).isSome]) w := by
  obtain ⟨es, c, hb, hm⟩ := h
  unfold Instr.lookup seeO
  have ck : (Instr.checkKey es.isEmpty 10000 9 (.string (bs n))).run Try.prog w = .ok () w := MapKept.run_checkKey (P := Try.prog) (w := w) (kt := 9) (d := .string) (k := .string (bs n)) strU trivial _ 9999
  rcases hm.find n with ⟨h1, h2⟩ | ⟨j, e, v, h1, h2, h3, h4⟩
  · have hf := MapKept.run_findKey (P := Try.prog) (w := w) strU h1
    simp only [Sem.run_bind, run_underlying Try.underlying117, Result.andThen_ok, MapKept.run_getObj_map hb, Sem.run_pure, ck, hf, h2]
    simp [zeroObj]
  · have hf := MapKept.run_findKey (P := Try.prog) (w := w) strU h1
    simp only [Sem.run_bind, run_underlying Try.underlying117, Result.andThen_ok, MapKept.run_getObj_map hb, Sem.run_pure, ck, hf, h4]
    simp
def setG (g : Txt → Option OV) (n : Txt) (v : OV) : Txt → Option OV := fun m => if m = n then some v else g m
theorem run_putO (B : Nat) (g : Txt → Option OV) (n : Txt) (v : OV) (w : World) (h : MapO w B g) :
    ∃ w', (Instr.mapUpdate 117 (.map (some B)) (.string (bs n)) (oV v)).run Try.prog w = .ok () w' ∧ MapO w' B (setG g n v) ∧ w.grownBy w' (some B) ∧ w'.heap.size = w.heap.size := by
  obtain ⟨es, c, hb, hm⟩ := h
  have hlt : B < w.heap.size := (Array.getElem?_eq_some_iff.1 hb).1
  have ck : (Instr.checkKey false 10000 9 (.string (bs n))).run Try.prog w = .ok () w := MapKept.run_checkKey (P := Try.prog) (w := w) (kt := 9) (d := .string) (k := .string (bs n)) strU trivial _ 9999
  rcases hm.find n with ⟨h1, h2⟩ | ⟨j, e, v0, h1, h2, h3, h4⟩
  · have hf := MapKept.run_findKey (P := Try.prog) (w := w) strU h1
    refine ⟨{ w with heap := w.heap.setIfInBounds B (.map (es.push { key := .string (bs n), val := oV v, born := c }) (c + 1)) }, ?_, ⟨es.push { key := .string (bs n), val := oV v, born := c }, c + 1, (MapKept.heap_set hb).1, ?_⟩, ⟨rfl, rfl, rfl, by simp, fun k hk hne => (MapKept.heap_set hb).2 k (fun e => hne (by rw [e]))⟩, by simp⟩
    · unfold Instr.mapUpdate
      simp only [Sem.run_bind, run_underlying Try.underlying117, Result.andThen_ok, MapKept.run_getObj_map hb, ck, hf]
      exact MapKept.run_setObj_map _ hb
    · have old : ∀ (i : Nat) (x : MapEntry), (es.push { key := .string (bs n), val := oV v, born := c })[i]? = some x → (es[i]? = some x) ∨ (i = es.size ∧ x = { key := .string (bs n), val := oV v, born := c }) := by
        intro i x hx
        rw [Array.getElem?_push] at hx
        split at hx
        · rename_i hi
          injection hx with hx
          exact .inr ⟨hi, hx.symm⟩
        · exact .inl hx
      have nk : ∀ (i : Nat) (x : MapEntry), es[i]? = some x → x.key ≠ .string (bs n) := by
        intro i x hx hk
        obtain ⟨m, v', e1, e2, e3⟩ := hm.k i x hx
        rw [hk] at e1
        obtain rfl := strInj e1
        rw [h2] at e2
        cases e2
      refine ⟨fun i x hx => ?_, fun i j x y hx hy hk => ?_, fun m u hu => ?_⟩
      · rcases old i x hx with hx | ⟨_, rfl⟩
        · obtain ⟨m, v', e1, e2, e3⟩ := hm.k i x hx
          refine ⟨m, v', e1, ?_, e3⟩
          unfold setG
          rw [if_neg (fun e => nk i x hx (by rw [e1, e])), e2]
        · exact ⟨n, v, rfl, by unfold setG; rw [if_pos rfl], rfl⟩
      · rcases old i x hx with hx | ⟨hi, rfl⟩ <;> rcases old j y hy with hy | ⟨hj, rfl⟩
        · exact hm.d i j x y hx hy hk
        · exact absurd hk (nk i x hx)
        · exact absurd hk.symm (nk j y hy)
        · omega
      · unfold setG at hu
        split at hu
        · rename_i e
          exact ⟨es.size, _, Array.getElem?_push_size, by rw [e]⟩
        · obtain ⟨i, x, hx, hk⟩ := hm.h m u hu
          refine ⟨i, x, ?_, hk⟩
          have hi := (Array.getElem?_eq_some_iff.1 hx).1
          rw [Array.getElem?_push, if_neg (by omega), hx]
  · have hf := MapKept.run_findKey (P := Try.prog) (w := w) strU h1
    refine ⟨{ w with heap := w.heap.setIfInBounds B (.map (es.modify j fun e => { e with key := .string (bs n), val := oV v }) c) }, ?_, ⟨es.modify j fun e => { e with key := .string (bs n), val := oV v }, c, (MapKept.heap_set hb).1, ?_⟩, ⟨rfl, rfl, rfl, by simp, fun k hk hne => (MapKept.heap_set hb).2 k (fun e => hne (by rw [e]))⟩, by simp⟩
    · unfold Instr.mapUpdate
      have hst : (((es[j]?).map (·.key)).getD (.string (bs n))) = .string (bs n) := by rw [h2]; exact h3
      simp only [Sem.run_bind, run_underlying Try.underlying117, Result.andThen_ok, MapKept.run_getObj_map hb, ck, hf, hst, MapKept.run_keyThatStays (d := .string) (k := .string (bs n)) trivial]
      exact MapKept.run_setObj_map _ hb
    · have old : ∀ (i : Nat) (x : MapEntry), (es.modify j fun e => { e with key := .string (bs n), val := oV v })[i]? = some x → (i ≠ j ∧ es[i]? = some x) ∨ (i = j ∧ x = { e with key := .string (bs n), val := oV v }) := by
        intro i x hx
        rw [Array.getElem?_modify] at hx
        split at hx
        · rename_i hi
          subst hi
          rw [h2] at hx
          injection hx with hx
          exact .inr ⟨rfl, hx.symm⟩
        · rename_i hi
          exact .inl ⟨fun e => hi e.symm, hx⟩
      have nk : ∀ (i : Nat) (x : MapEntry), i ≠ j → es[i]? = some x → x.key ≠ .string (bs n) := fun i x hi hx hk => hi (hm.d i j x e hx h2 (hk.trans h3.symm))
      refine ⟨fun i x hx => ?_, fun i k x y hx hy hk => ?_, fun m u hu => ?_⟩
      · rcases old i x hx with ⟨hi, hx⟩ | ⟨_, rfl⟩
        · obtain ⟨m, v', e1, e2, e3⟩ := hm.k i x hx
          refine ⟨m, v', e1, ?_, e3⟩
          unfold setG
          rw [if_neg (fun e => nk i x hi hx (by rw [e1, e])), e2]
        · exact ⟨n, v, rfl, by unfold setG; rw [if_pos rfl], rfl⟩
      · rcases old i x hx with ⟨hi, hx⟩ | ⟨hi, rfl⟩ <;> rcases old k y hy with ⟨hk2, hy⟩ | ⟨hk2, rfl⟩
        · exact hm.d i k x y hx hy hk
        · exact absurd hk (nk i x hi hx)
        · exact absurd hk.symm (nk k y hk2 hy)
        · omega
      · have upd : ∀ (i : Nat) (x : MapEntry), es[i]? = some x → ∃ y : MapEntry, (es.modify j fun e => { e with key := .string (bs n), val := oV v })[i]? = some y ∧ y.key = x.key := by
          intro i x hx
          rw [Array.getElem?_modify]
          split
          · rename_i hi
            subst hi
            rw [hx]
            rw [h2] at hx
            injection hx with hx
            subst hx
            exact ⟨_, rfl, h3.symm⟩
          · exact ⟨x, hx, rfl⟩
        unfold setG at hu
        split at hu
        · rename_i e'
          obtain ⟨y, hy, hk⟩ := upd j e h2
          exact ⟨j, y, hy, by rw [hk, h3, e']⟩
        · obtain ⟨i, x, hx, hk⟩ := hm.h m u hu
          obtain ⟨y, hy, hk2⟩ := upd i x hx
          exact ⟨i, y, hy, by rw [hk2, hk]⟩
theorem MapO.of_block {w w' : World} {B : Nat} {g : Txt → Option OV} (h : MapO w B g) (hb : w'.heap[B]? = w.heap[B]?) : MapO w' B g := by
  obtain ⟨es, c, h1, h2⟩ := h
  exact ⟨es, c, hb.trans h1, h2⟩
theorem MapO.lt {w : World} {B : Nat} {g : Txt → Option OV} (h : MapO w B g) : B < w.heap.size := by
  obtain ⟨es, c, hb, he⟩ := h
  exact (Array.getElem?_eq_some_iff.1 hb).1
theorem MapO.new (w : World) : MapO (w.alloc (.map #[] 0)) w.heap.size (fun _ => none) := ⟨#[], 0, heap_alloc_new w _, fun i x hx => by simp at hx, fun i j x y hx => by simp at hx, fun n v hv => by cases hv⟩
end Go.Proofs.Ytnmhkgmmpkjjeaa
