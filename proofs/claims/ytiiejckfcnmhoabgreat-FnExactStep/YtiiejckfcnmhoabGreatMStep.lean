import Derived.Test.YtiiejckfcnmhoabGreatUState
import Derived.Test.YtiiejckfcnmhoabGreatULate
import Derived.Test.YtiiejckfcnmhoabGreatMDrop
namespace Go.Proofs.YtiiejckfcnmhoabGreat

/-! What an operation does, plainly. -/
structure OpE where
  kind : Int
  a : Int
  b : Int
  word : Int
structure OpOk (o : OpE) : Prop where
  k : -9223372036854775808 ≤ o.kind ∧ o.kind ≤ 9223372036854775807
  a : -9223372036854775808 ≤ o.a ∧ o.a ≤ 9223372036854775807
  b : -9223372036854775808 ≤ o.b ∧ o.b ≤ 9223372036854775807
  w : 0 ≤ o.word ∧ o.word < 2 ^ 64
def opB (M : Mach) (o : OpE) : Bool :=
  if o.kind = 1 then decide (0 ≤ o.a ∧ o.a < M.mem.length ∧ o.b = 0 ∧ M.pend.length < 10000)
  else if o.kind = 2 then decide (o.a = 0 ∧ o.b = 0 ∧ o.word = 0)
  else if o.kind = 3 then decide (0 ≤ o.a ∧ o.a < 4096 ∧ 1 ≤ o.b ∧ o.a + o.b ≤ 4096 ∧ o.word = 0)
  else if o.kind = 4 then decide (0 ≤ o.a ∧ o.a < nfr M.mem.length ∧ o.b = 0 ∧ o.word = 0)
  else false
def plcHas (ps : List P3) (f : Int) : Bool := anyR (fun i => decide ((pAt ps i).fr = f)) ps.length
def cachT (M : Mach) (pg n : Int) (i : Nat) : Bool := meets (eAt eTlb M.tlb i).page (eAt eTlb M.tlb i).size pg n
def cachW (M : Mach) (lv pg n : Int) (i : Nat) : Bool := decide (lv < (eAt eWc M.wc i).level) && meets (eAt eWc M.wc i).page (16 * cov (eAt eWc M.wc i).level) pg n
def cachedB (M : Mach) (lv pg n : Int) : Bool := anyR (cachT M pg n) M.tlb.length || anyR (cachW M lv pg n) M.wc.length
def plcC (M : Mach) (ps : List P3) (f ix : Int) (i : Nat) : Bool := decide ((pAt ps i).fr = f) && cachedB M (pAt ps i).lv ((pAt ps i).pg + ix * cov (pAt ps i).lv) (cov (pAt ps i).lv)
def oldW (M : Mach) (a : Int) : Int := (lateL M).getD a.toNat 0
def wrCode (M : Mach) (o : OpE) : Int :=
  if o.word % 2 = 0 then 0
  else if oldW M o.a % 2 = 1 then (if oldW M o.a ≠ o.word ∧ plcHas (plist (lateL M)) (o.a / 16) = true then 2 else 0)
  else if anyR (plcC M (plist (lateL M)) (o.a / 16) (o.a % 16)) (plist (lateL M)).length = true then 3 else 0
def wcHas (M : Mach) (f : Int) : Bool := anyR (fun i => decide ((eAt eWc M.wc i).table = f)) M.wc.length
def inUse (M : Mach) (f : Int) : Bool := plcHas (plist M.mem) f || plcHas (plist (lateL M)) f || wcHas M f
def doomT (a b : Int) (e : TlbE) : TlbE := ⟨e.page, e.size, e.out, e.perm, e.doom || meets e.page e.size a b⟩
def doomW (a b : Int) (e : WcE) : WcE := ⟨e.level, e.page, e.table, e.doom || meets e.page (16 * cov e.level) a b⟩
def opM (M : Mach) (o : OpE) : Mach × Int :=
  if opB M o = false then (M, 1)
  else if o.kind = 1 then (if wrCode M o = 0 then ⟨M.mem, M.pend ++ [⟨o.a, o.word⟩], M.tlb, M.wc⟩ else M, wrCode M o)
  else if o.kind = 2 then (⟨lateL M, [], M.tlb.filter (fun e => !e.doom), M.wc.filter (fun e => !e.doom)⟩, 0)
  else if o.kind = 3 then (⟨M.mem, M.pend, M.tlb.map (doomT o.a o.b), M.wc.map (doomW o.a o.b)⟩, 0)
  else (M, if inUse M o.a then 4 else 0)
def stepR (M : Mach) (o : OpE) : Mach × Int := if validB M then opM M o else (zM, 9)
theorem anyR_false (f : Nat → Bool) (n : Nat) (h : ∀ j, j < n → f j = false) : anyR f n = false := by
  rw [anyR, List.any_eq_false]
  intro x hx
  simp [h x (List.mem_range.1 hx)]
theorem meets_comm (a n b m : Int) : meets a n b m = meets b m a n := by unfold meets; rw [Bool.and_comm]
theorem opM_small {M : Mach} (hs : M.Small) (hok : WOk M) (o : OpE) : (opM M o).1.Small := by
  have h1 := hok.p
  have h2 := lateL_length M
  unfold opM
  split
  · exact hs
  · split
    · dsimp only
      split
      · exact ⟨hs.w, by simp; omega, hs.t, hs.c⟩
      · exact hs
    · split
      · exact ⟨by dsimp only; rw [h2]; exact hs.w, by simp, Nat.le_trans (List.length_filter_le _ _) hs.t, Nat.le_trans (List.length_filter_le _ _) hs.c⟩
      · split
        · exact ⟨hs.w, hs.p, by simpa using hs.t, by simpa using hs.c⟩
        · exact hs
theorem plcHas_root (zs : List Int) (h : nfr zs.length ≠ 0) : plcHas (plist zs) 0 = true := by
  have e : plist zs = belowL zs (nfr zs.length) 2 ⟨0, 1, 0⟩ := by unfold plist; rw [if_neg h]
  rw [e]
  refine anyR_true _ 0 _ (by simp [belowL, downs]) ?_
  simp [belowL, downs, pAt]
end Go.Proofs.YtiiejckfcnmhoabGreat
