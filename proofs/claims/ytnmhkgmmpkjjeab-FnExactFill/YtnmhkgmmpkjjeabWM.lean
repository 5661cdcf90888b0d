import Derived.Test.YtnmhkgmmpkjjeabSRead
namespace Go.Proofs.Ytnmhkgmmpkjjeab
open Go.ChangeShapes Go.WideShapes Go.ChangeAt Go.RowKit
set_option linter.unusedVariables false

/-! What a walk of a machine does, as plain functions. -/
structure HitR where
  kind : Int
  out : Int
  perm : Int
  size : Int
def hitV (h : HitR) : Value := .agg #[.int .i64 h.kind, .int .i64 h.out, .int .i64 h.perm, .int .i64 h.size]
def anyR (f : Nat → Bool) (n : Nat) : Bool := (List.range n).any f
theorem anyR_zero (f : Nat → Bool) : anyR f 0 = false := rfl
theorem anyR_succ (f : Nat → Bool) (n : Nat) : anyR f (n + 1) = (anyR f n || f n) := by simp [anyR, List.range_succ, List.any_append]
theorem anyR_true (f : Nat → Bool) (i n : Nat) (hi : i < n) (h : f i = true) : anyR f n = true := by
  unfold anyR
  rw [List.any_eq_true]
  exact ⟨i, by simpa using hi, h⟩
/-- The first index below n at which f holds; n if there is none. -/
def firstR (f : Nat → Bool) : Nat → Nat → Nat
  | 0, i => i
  | n + 1, i => if f i then i else firstR f n (i + 1)
def wcEq (a b : WcE) : Bool := decide (a.level = b.level) && decide (a.page = b.page) && decide (a.table = b.table) && (a.doom == b.doom)
def tlbEq (a b : TlbE) : Bool := sameB a b && (a.doom == b.doom)
def hasWc (M : Mach) (e : WcE) : Bool := anyR (fun i => wcEq (eAt eWc M.wc i) e) M.wc.length
def hasTlb (M : Mach) (e : TlbE) : Bool := anyR (fun i => tlbEq (eAt eTlb M.tlb i) e) M.tlb.length
def addWcM (M : Mach) (e : WcE) : Mach := if hasWc M e || decide (256 ≤ M.wc.length) then M else ⟨M.mem, M.pend, M.tlb, M.wc ++ [e]⟩
def addTlbM (M : Mach) (e : TlbE) : Mach := if hasTlb M e || decide (256 ≤ M.tlb.length) then M else ⟨M.mem, M.pend, M.tlb ++ [e], M.wc⟩
/-- The word that a walk reads for a page in a table. -/
def wordM (M : Mach) (page choice level frame : Int) : Int := readM M (frame * 16 + idx page level) (bitI choice level.toNat)
def sizR (level x : Int) : Int := if dKind level x = 2 then 16 else 1
/-- A walk ends at a word. -/
def endM (page choice : Int) (M : Mach) (level x : Int) (doom : Bool) : Mach × HitR :=
  if dKind level x = 0 then (M, ⟨0, 0, 0, 0⟩)
  else if dKind level x = 2 ∨ dKind level x = 3 then
    (if bitI choice 6 then addTlbM M ⟨page - page % sizR level x, sizR level x, dOut level x, dPerm level x, doom⟩ else M, ⟨1, dOut level x + page % sizR level x, dPerm level x, sizR level x⟩)
  else (M, ⟨3, 0, 0, 0⟩)
def leadsM (M : Mach) (level x : Int) : Bool := decide (dKind level x = 1) && decide (dOut level x < nfr M.mem.length)
def stepM (page choice : Int) (M : Mach) (level x : Int) (doom : Bool) : Mach :=
  if bitI choice (level + 3).toNat then addWcM M ⟨level + 1, page - page % cov level, dOut level x, doom⟩ else M
/-- A walk from a table on. -/
def goM (page choice : Int) : Nat → Mach → Int → Int → Bool → Mach × HitR
  | 0, M, level, frame, doom => endM page choice M level (wordM M page choice level frame) doom
  | d + 1, M, level, frame, doom =>
    if leadsM M level (wordM M page choice level frame) then
      goM page choice d (stepM page choice M level (wordM M page choice level frame) doom) (level + 1) (dOut level (wordM M page choice level frame)) doom
    else endM page choice M level (wordM M page choice level frame) doom
/-- Whether entry i of the walk cache serves a page at a level. -/
def serves (M : Mach) (page level : Int) (i : Nat) : Bool := decide ((eAt eWc M.wc i).level = level) && wcCov (eAt eWc M.wc i) page
def findW (M : Mach) (page level : Int) : Nat := firstR (serves M page level) M.wc.length 0
/-- The table in which a walk begins. -/
def startM (M : Mach) (page choice : Int) : WcE :=
  if bitI choice 0 then
    if findW M page 3 < M.wc.length then eAt eWc M.wc (findW M page 3)
    else if findW M page 2 < M.wc.length then eAt eWc M.wc (findW M page 2)
    else ⟨1, 0, 0, false⟩
  else ⟨1, 0, 0, false⟩
def walkM (M : Mach) (page choice : Int) : Mach × HitR :=
  goM page choice (3 - (startM M page choice).level).toNat M (startM M page choice).level (startM M page choice).table (startM M page choice).doom

theorem firstR_le (f : Nat → Bool) : ∀ n i, firstR f n i ≤ i + n
  | 0, i => Nat.le_refl _
  | n + 1, i => by
    unfold firstR
    split
    · omega
    · have := firstR_le f n (i + 1); omega
theorem firstR_hit (f : Nat → Bool) : ∀ n i, firstR f n i < i + n → f (firstR f n i) = true
  | 0, i, h => by simp [firstR] at h
  | n + 1, i, h => by
    unfold firstR at h ⊢
    split
    · assumption
    · rename_i hf
      rw [if_neg hf] at h
      exact firstR_hit f n (i + 1) (by omega)
/-- Up to t nothing serves: the search goes on from t. -/
theorem firstR_skip (f : Nat → Bool) : ∀ n i t, t ≤ n → (∀ j, j < t → f (i + j) = false) → firstR f n i = firstR f (n - t) (i + t)
  | n, i, 0, _, _ => by simp
  | 0, i, t + 1, h, _ => by omega
  | n + 1, i, t + 1, h, hf => by
    have h0 := hf 0 (by omega)
    rw [Nat.add_zero] at h0
    conv => lhs; unfold firstR
    rw [h0]
    simp only [Bool.false_eq_true, if_false]
    rw [firstR_skip f n (i + 1) t (by omega) (fun j hj => by have := hf (j + 1) (by omega); rw [show i + 1 + j = i + (j + 1) by omega]; exact this)]
    rw [show n + 1 - (t + 1) = n - t by omega, show i + 1 + t = i + (t + 1) by omega]
theorem firstR_at (f : Nat → Bool) (n t : Nat) (ht : t < n) (hf : ∀ j, j < t → f j = false) (h : f t = true) : firstR f n 0 = t := by
  rw [firstR_skip f n 0 t (by omega) (fun j hj => by rw [Nat.zero_add]; exact hf j hj), Nat.zero_add]
  obtain ⟨m, hm⟩ : ∃ m, n - t = m + 1 := ⟨n - t - 1, by omega⟩
  rw [hm]
  unfold firstR
  rw [if_pos h]
theorem firstR_none (f : Nat → Bool) (n : Nat) (hf : ∀ j, j < n → f j = false) : firstR f n 0 = n := by
  rw [firstR_skip f n 0 n (Nat.le_refl _) (fun j hj => by rw [Nat.zero_add]; exact hf j hj)]
  simp [firstR]

/-- What a walk may lean on. -/
structure WOk (M : Mach) : Prop where
  n0 : nfr M.mem.length ≠ 0
  word : ∀ i, 0 ≤ M.mem.getD i 0 ∧ M.mem.getD i 0 < 2 ^ 64
  pw : ∀ i, 0 ≤ (eAt eWrite M.pend i).word ∧ (eAt eWrite M.pend i).word < 2 ^ 64
  p : M.pend.length ≤ 10000
  t : M.tlb.length ≤ 256
  c : M.wc.length ≤ 256
theorem WOk.small {M : Mach} (h : WOk M) : M.Small := by
  have := nfr_le M.mem.length
  have := nfr_mul M.mem.length h.n0
  exact ⟨by omega, by have := h.p; omega, by have := h.t; omega, by have := h.c; omega⟩
theorem readTo_rng {M : Mach} (h : WOk M) (a : Int) : ∀ k, 0 ≤ readTo M a k ∧ readTo M a k < 2 ^ 64
  | 0 => h.word _
  | k + 1 => by
    unfold readTo
    split
    · exact h.pw k
    · exact readTo_rng h a k
theorem wordM_rng {M : Mach} (h : WOk M) (page choice level frame : Int) : 0 ≤ wordM M page choice level frame ∧ wordM M page choice level frame < 2 ^ 64 := by
  unfold wordM readM
  split
  · exact readTo_rng h _ _
  · exact h.word _
theorem addWcM_ok {M : Mach} (h : WOk M) (e : WcE) : WOk (addWcM M e) := by
  unfold addWcM
  split
  · exact h
  · rename_i hn
    have hl : ¬ 256 ≤ M.wc.length := by
      intro hc; apply hn; simp [hc]
    exact ⟨h.n0, h.word, h.pw, h.p, h.t, by simp; omega⟩
theorem addTlbM_ok {M : Mach} (h : WOk M) (e : TlbE) : WOk (addTlbM M e) := by
  unfold addTlbM
  split
  · exact h
  · rename_i hn
    have hl : ¬ 256 ≤ M.tlb.length := by
      intro hc; apply hn; simp [hc]
    exact ⟨h.n0, h.word, h.pw, h.p, by simp; omega, h.c⟩
theorem addWcM_mem (M : Mach) (e : WcE) : (addWcM M e).mem = M.mem ∧ (addWcM M e).pend = M.pend ∧ (addWcM M e).tlb = M.tlb := by
  unfold addWcM; split <;> simp
theorem stepM_ok {M : Mach} (h : WOk M) (page choice level x : Int) (doom : Bool) : WOk (stepM page choice M level x doom) := by
  unfold stepM
  split
  · exact addWcM_ok h _
  · exact h
theorem stepM_mem (page choice : Int) (M : Mach) (level x : Int) (doom : Bool) : (stepM page choice M level x doom).mem = M.mem ∧ (stepM page choice M level x doom).pend = M.pend ∧ (stepM page choice M level x doom).tlb = M.tlb := by
  unfold stepM
  split
  · exact addWcM_mem _ _
  · simp
theorem endM_ok {M : Mach} (h : WOk M) (page choice level x : Int) (doom : Bool) : WOk (endM page choice M level x doom).1 := by
  unfold endM
  split
  · exact h
  · split
    · show WOk (if bitI choice 6 = true then _ else _)
      split
      · exact addTlbM_ok h _
      · exact h
    · exact h
theorem goM_ok (page choice : Int) : ∀ d {M : Mach}, WOk M → ∀ level frame doom, WOk (goM page choice d M level frame doom).1
  | 0, M, h, level, frame, doom => endM_ok h _ _ _ _ _
  | d + 1, M, h, level, frame, doom => by
    unfold goM
    split
    · exact goM_ok page choice d (stepM_ok h _ _ _ _ _) _ _ _
    · exact endM_ok h _ _ _ _ _
theorem WOk.of {M : Mach} (hk : MOk M) (hv : validB M = true) : WOk M := by
  unfold validB at hv
  simp only [Bool.and_eq_true] at hv
  have hl := hv.1.1.1
  unfold validL at hl
  simp only [Bool.and_eq_true, Bool.not_eq_true', decide_eq_false_iff_not, decide_eq_true_eq] at hl
  obtain ⟨⟨⟨a, b⟩, c⟩, d⟩ := hl
  refine ⟨a, hk.word, fun i => ?_, b, c, d⟩
  by_cases hi : i < M.pend.length
  · have := (hk.pend i hi).2
    have := bounds_u64 this
    omega
  · have : eAt eWrite M.pend i = eWrite.dflt := by
      unfold eAt
      rw [List.getD_eq_getElem?_getD, List.getElem?_eq_none (by omega)]
      rfl
    rw [this]
    exact ⟨by decide, by decide⟩
theorem valid_wc {M : Mach} (hv : validB M = true) (i : Nat) (hi : i < M.wc.length) : wcOkB (nfr M.mem.length) (eAt eWc M.wc i) = true := by
  unfold validB at hv
  simp only [Bool.and_eq_true] at hv
  have := hv.2
  unfold wcAll at this
  rw [List.all_eq_true] at this
  exact this i (by simpa using hi)
theorem valid_tlb {M : Mach} (hv : validB M = true) (i : Nat) (hi : i < M.tlb.length) : tlbOkB (eAt eTlb M.tlb i) = true := by
  unfold validB at hv
  simp only [Bool.and_eq_true] at hv
  have := hv.1.2
  unfold tlbAll at this
  rw [List.all_eq_true] at this
  exact this i (by simpa using hi)
theorem valid_pend {M : Mach} (hv : validB M = true) (i : Nat) (hi : i < M.pend.length) : 0 ≤ (eAt eWrite M.pend i).addr ∧ (eAt eWrite M.pend i).addr < M.mem.length := by
  unfold validB at hv
  simp only [Bool.and_eq_true] at hv
  have := hv.1.1.2
  unfold pendAll at this
  rw [List.all_eq_true] at this
  have := this i (by simpa using hi)
  simpa [pendOkB] using this
/-- The beginning is a table that there is, of a level 1 to 3. -/
theorem startM_ok {M : Mach} (hv : validB M = true) (page choice : Int) : 1 ≤ (startM M page choice).level ∧ (startM M page choice).level ≤ 3 ∧ 0 ≤ (startM M page choice).table ∧ (startM M page choice).table < nfr M.mem.length := by
  have h1 : (1 : Int) ≤ 1 ∧ (1 : Int) ≤ 3 ∧ (0 : Int) ≤ 0 ∧ 0 < nfr M.mem.length := by
    have hv' := hv
    unfold validB at hv'
    simp only [Bool.and_eq_true] at hv'
    have hl := hv'.1.1.1
    unfold validL at hl
    simp only [Bool.and_eq_true, Bool.not_eq_true', decide_eq_false_iff_not, decide_eq_true_eq] at hl
    have := nfr_mul _ hl.1.1.1
    omega
  have key : ∀ i, i < M.wc.length → 1 ≤ (eAt eWc M.wc i).level ∧ (eAt eWc M.wc i).level ≤ 3 ∧ 0 ≤ (eAt eWc M.wc i).table ∧ (eAt eWc M.wc i).table < nfr M.mem.length := by
    intro i hi
    have := valid_wc hv i hi
    simp only [wcOkB, Bool.and_eq_true, Bool.or_eq_true, decide_eq_true_eq] at this
    omega
  unfold startM
  split
  · split
    · rename_i h
      exact key _ h
    · split
      · rename_i h
        exact key _ h
      · exact h1
  · exact h1
end Go.Proofs.Ytnmhkgmmpkjjeab
