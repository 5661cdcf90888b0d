import Derived.Test.YtnmhkgmmpkjjeabG32
import Derived.Test.YtnmhkgmmpkjjeabG33
namespace Go.Proofs.Ytnmhkgmmpkjjeab
set_option linter.unusedVariables false
set_option linter.unusedSimpArgs false
set_option maxRecDepth 100000

/-! A statement's words, as the program reads them one by one: the same as the model's statement. -/
def kObj : Txt := [111, 98, 106, 101, 99, 116]
def kReg : Txt := [114, 101, 103, 105, 111, 110]
def kGrd : Txt := [103, 117, 97, 114, 100]
def kAtR : Txt := [97, 116]
def kSha : Txt := [115, 104, 97, 114, 101, 100]
def kHug : Txt := [104, 117, 103, 101]
def prObj : List Txt → St
  | [n, c, a, f] => if nameL n = true ∧ numOk c = true ∧ a = kAtR ∧ numOk f = true then ⟨1, n, valL c, valL f, 0, false⟩ else noSt
  | [n, c, a, f, s] => if nameL n = true ∧ numOk c = true ∧ a = kAtR ∧ numOk f = true ∧ s = kSha then ⟨1, n, valL c, valL f, 0, true⟩ else noSt
  | _ => noSt
def prReg : List Txt → St
  | [p, n, q] => if numOk p = true ∧ nameL n = true ∧ ¬ permL q = 0 then ⟨2, n, valL p, 0, permL q, false⟩ else noSt
  | [p, n, q, s] => if numOk p = true ∧ nameL n = true ∧ ¬ permL q = 0 ∧ s = kHug then ⟨2, n, valL p, 0, permL q, true⟩ else noSt
  | _ => noSt
def prGrd : List Txt → St
  | [p, c] => if numOk p = true ∧ numOk c = true then ⟨3, [], valL p, valL c, 0, false⟩ else noSt
  | _ => noSt
def prSt : List Txt → St
  | [] => noSt
  | h :: t => if h = kObj then prObj t else if h = kReg then prReg t else if h = kGrd then prGrd t else noSt
theorem numL_ok {x : Txt} (h : numOk x = true) : numL x = valL x ∧ ¬ numL x < 0 := by
  unfold numL
  rw [if_pos h]
  exact ⟨rfl, by omega⟩
theorem numL_no {x : Txt} (h : ¬ numOk x = true) : numL x < 0 := by
  unfold numL
  rw [if_neg h]
  omega
theorem objL_eq (t : List Txt) : (if (kObj :: t).length < 3 then noSt else objL (kObj :: t)) = prObj t := by
  match t with
  | [] => rfl
  | [_] => rfl
  | [_, _] => rfl
  | [_, _, _] => rfl
  | [n, c, a, f] =>
    show objL [kObj, n, c, a, f] = prObj [n, c, a, f]
    by_cases h1 : nameL n = true
    · by_cases h3 : a = kAtR
      · by_cases h2 : numOk c = true
        · by_cases h4 : numOk f = true
          · obtain ⟨e1, e2⟩ := numL_ok h2
            obtain ⟨e3, e4⟩ := numL_ok h4
            have e5 : ¬ ((valL c : Int) < 0 ∨ (valL f : Int) < 0) := by omega
            simp [objL, prObj, tAt, h1, h2, h3, h4, kAtR, e1, e3, e5]
          · have := numL_no h4
            simp [objL, prObj, tAt, h1, h2, h3, h4, kAtR, this]
        · have := numL_no h2
          simp [objL, prObj, tAt, h1, h2, h3, kAtR, this]
      · have h3' : ¬ a = [97, 116] := h3
        simp [objL, prObj, tAt, h3, h3']
    · simp [objL, prObj, tAt, h1]
  | [n, c, a, f, s] =>
    show objL [kObj, n, c, a, f, s] = prObj [n, c, a, f, s]
    by_cases h1 : nameL n = true
    · by_cases h3 : a = kAtR
      · by_cases h5 : s = kSha
        · by_cases h2 : numOk c = true
          · by_cases h4 : numOk f = true
            · obtain ⟨e1, e2⟩ := numL_ok h2
              obtain ⟨e3, e4⟩ := numL_ok h4
              have e5 : ¬ ((valL c : Int) < 0 ∨ (valL f : Int) < 0) := by omega
              simp [objL, prObj, tAt, h1, h2, h3, h4, h5, kAtR, kSha, e1, e3, e5]
            · have := numL_no h4
              simp [objL, prObj, tAt, h1, h2, h3, h4, h5, kAtR, kSha, this]
          · have := numL_no h2
            simp [objL, prObj, tAt, h1, h2, h3, h5, kAtR, kSha, this]
        · have h5' : ¬ s = [115, 104, 97, 114, 101, 100] := h5
          simp [objL, prObj, tAt, h1, h3, h5, kAtR, h5']
      · have h3' : ¬ a = [97, 116] := h3
        simp [objL, prObj, tAt, h3, h3']
    · simp [objL, prObj, tAt, h1]
  | _ :: _ :: _ :: _ :: _ :: _ :: _ =>
    unfold objL prObj
    simp
theorem regL_eq (t : List Txt) : (if (kReg :: t).length < 3 then noSt else regL (kReg :: t)) = prReg t := by
  match t with
  | [] => rfl
  | [_] => rfl
  | [_, _] => rfl
  | [p, n, q] =>
    show regL [kReg, p, n, q] = prReg [p, n, q]
    by_cases h1 : nameL n = true
    · by_cases h2 : numOk p = true
      · obtain ⟨e1, e2⟩ := numL_ok h2
        have e5 : ¬ (valL p : Int) < 0 := by omega
        by_cases h3 : permL q = 0
        · simp [regL, prReg, tAt, h1, h2, h3]
        · simp [regL, prReg, tAt, h1, h2, h3, e1, e5]
      · have := numL_no h2
        simp [regL, prReg, tAt, h1, h2, this]
    · simp [regL, prReg, tAt, h1]
  | [p, n, q, s] =>
    show regL [kReg, p, n, q, s] = prReg [p, n, q, s]
    by_cases h1 : nameL n = true
    · by_cases h5 : s = kHug
      · by_cases h2 : numOk p = true
        · obtain ⟨e1, e2⟩ := numL_ok h2
          have e5 : ¬ (valL p : Int) < 0 := by omega
          by_cases h3 : permL q = 0
          · simp [regL, prReg, tAt, h1, h2, h3, h5, kHug]
          · simp [regL, prReg, tAt, h1, h2, h3, h5, kHug, e1, e5]
        · have := numL_no h2
          simp [regL, prReg, tAt, h1, h2, h5, kHug, this]
      · have h5' : ¬ s = [104, 117, 103, 101] := h5
        simp [regL, prReg, tAt, h1, h5, h5']
    · simp [regL, prReg, tAt, h1]
  | _ :: _ :: _ :: _ :: _ :: _ =>
    unfold regL prReg
    simp
theorem grdL_eq (t : List Txt) : (if (kGrd :: t).length < 3 then noSt else if (kGrd :: t).length = 3 then grdL (kGrd :: t) else noSt) = prGrd t := by
  match t with
  | [] => rfl
  | [_] => rfl
  | [p, c] =>
    show grdL [kGrd, p, c] = prGrd [p, c]
    by_cases h2 : numOk p = true
    · by_cases h4 : numOk c = true
      · obtain ⟨e1, e2⟩ := numL_ok h2
        obtain ⟨e3, e4⟩ := numL_ok h4
        have e5 : ¬ ((valL p : Int) < 0 ∨ (valL c : Int) < 0) := by omega
        simp [grdL, prGrd, tAt, h2, h4, e1, e3, e5]
      · have := numL_no h4
        simp [grdL, prGrd, tAt, h2, h4, this]
    · have := numL_no h2
      simp [grdL, prGrd, tAt, h2, this]
  | _ :: _ :: _ :: _ =>
    unfold prGrd
    simp
theorem prSt_eq (ts : List Txt) : prSt ts = stmtL ts := by
  cases ts with
  | nil => rfl
  | cons h t =>
    have e0 : tAt (h :: t) 0 = h := rfl
    unfold prSt stmtL
    rw [e0]
    dsimp only
    by_cases h1 : h = kObj
    · subst h1
      rw [if_pos rfl, ← objL_eq t]
      rfl
    · have h1' : (h == [111, 98, 106, 101, 99, 116]) = false := beq_eq_false_iff_ne.2 h1
      rw [if_neg h1, h1']
      by_cases h2 : h = kReg
      · subst h2
        rw [if_pos rfl, ← regL_eq t]
        rfl
      · have h2' : (h == [114, 101, 103, 105, 111, 110]) = false := beq_eq_false_iff_ne.2 h2
        rw [if_neg h2, h2']
        by_cases h3 : h = kGrd
        · subst h3
          rw [if_pos rfl, ← grdL_eq t]
          by_cases hl : (kGrd :: t).length = 3
          · simp [hl, kGrd]
          · have hl' : ¬ t.length = 2 := by simpa using hl
            simp [hl']
        · have h3' : (h == [103, 117, 97, 114, 100]) = false := beq_eq_false_iff_ne.2 h3
          rw [if_neg h3, h3']
          simp

/-! What the program keeps of the statements read: the frames of objects. -/
def framesOf (all : List St) : List RunE := (all.filter fun e => e.kind == 1).map fun e => ⟨e.b, e.a⟩
theorem framesOf_any (all : List St) (s : St) : (framesOf all).any (meetR ⟨s.b, s.a⟩) = all.any (hitObj s) := by
  unfold framesOf
  rw [List.any_map, List.any_filter]
  congr 1
theorem framesOf_snoc (all : List St) (s : St) : framesOf (all ++ [s]) = if s.kind == 1 then framesOf all ++ [⟨s.b, s.a⟩] else framesOf all := by
  unfold framesOf
  rw [List.filter_append, List.map_append, List.filter_cons]
  split <;> simp
theorem objOf_snoc (all : List St) (s : St) (n : Txt) : objOf (all ++ [s]) n = if (objOf all n).kind == 1 then objOf all n else if isObj n s then s else noSt := by
  induction all with
  | nil => simp [objOf, noSt]
  | cons e r ih =>
    rw [List.cons_append]
    unfold objOf
    by_cases h : isObj n e = true
    · rw [if_pos h, if_pos h]
      have : (e.kind == 1) = true := by unfold isObj at h; simp at h; simpa using h.1
      rw [if_pos this]
    · rw [if_neg h, if_neg h]
      exact ih
end Go.Proofs.Ytnmhkgmmpkjjeab
