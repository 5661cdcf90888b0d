import Derived.Test.YtnmhkgmmpkjjeabDecI
import Derived.Test.YtnmhkgmmpkjjeabPRow
namespace Go.Proofs.Ytnmhkgmmpkjjeab

/-! The plain meaning of Places. -/
def cov (l : Int) : Int := if l = 1 then 256 else if l = 2 then 16 else 1
theorem cov_bd (l : Int) : 0 ≤ cov l ∧ cov l ≤ 256 := by
  unfold cov
  by_cases a : l = 1 <;> by_cases b : l = 2 <;> simp [a, b]
def wordAt (zs : List Int) (f : Int) (i : Nat) : Int := zs.getD ((f * 16).toNat + i) 0
/-- Does entry i of the table of p lead on? -/
def leads (zs : List Int) (n : Int) (p : P3) (i : Nat) : Bool := decide (dKind p.lv (wordAt zs p.fr i) = 1) && decide (dOut p.lv (wordAt zs p.fr i) < n)
def under (zs : List Int) (p : P3) (i : Nat) : P3 := ⟨dOut p.lv (wordAt zs p.fr i), p.lv + 1, p.pg + i * cov p.lv⟩
def downs (zs : List Int) (n : Int) (rec : P3 → List P3) (p : P3) (k : Nat) : List P3 := p :: (List.range k).flatMap fun i => if leads zs n p i then rec (under zs p i) else []
def belowL (zs : List Int) (n : Int) : Nat → P3 → List P3
  | 0, p => [p]
  | d + 1, p => downs zs n (belowL zs n d) p 16
def bnd : Nat → Nat
  | 0 => 1
  | d + 1 => 1 + 16 * bnd d

theorem downs_zero (zs : List Int) (n : Int) (rec : P3 → List P3) (p : P3) : downs zs n rec p 0 = [p] := rfl
theorem downs_succ (zs : List Int) (n : Int) (rec : P3 → List P3) (p : P3) (k : Nat) : downs zs n rec p (k + 1) = downs zs n rec p k ++ (if leads zs n p k then rec (under zs p k) else []) := by
  simp [downs, List.range_succ]
theorem downs_length (zs : List Int) (n : Int) (rec : P3 → List P3) (p : P3) (B : Nat) (h : ∀ q, (rec q).length ≤ B) : ∀ k, (downs zs n rec p k).length ≤ 1 + k * B
  | 0 => by simp [downs]
  | k + 1 => by
    rw [downs_succ, List.length_append]
    have := downs_length zs n rec p B h k
    have h2 : (if leads zs n p k then rec (under zs p k) else []).length ≤ B := by split <;> simp [h]
    rw [Nat.add_mul]; omega
theorem belowL_length (zs : List Int) (n : Int) : ∀ d p, (belowL zs n d p).length ≤ bnd d
  | 0, p => by simp [belowL, bnd]
  | d + 1, p => downs_length zs n _ p (bnd d) (belowL_length zs n d) 16

/-- The number of frames, 0 if the memory is not valid. -/
def nfr (m : Nat) : Int := if m < 16 ∨ 8192 < m ∨ ¬ m % 16 = 0 then 0 else (m / 16 : Nat)
theorem nfr_le (m : Nat) : nfr m ≤ 512 := by unfold nfr; split <;> omega
theorem nfr_mul (m : Nat) (h : nfr m ≠ 0) : nfr m * 16 = m ∧ 1 ≤ nfr m := by unfold nfr at h ⊢; split <;> simp_all <;> omega
theorem dOut_lo (l x : Int) : 0 ≤ dOut l x ∧ dOut l x < 65536 := by unfold dOut; split <;> omega

/-! Trees. -/
def soundW (zs : List Int) (n : Int) (p : P3) (i : Nat) : Bool := !(decide (dKind p.lv (wordAt zs p.fr i) = 4) || (decide (dKind p.lv (wordAt zs p.fr i) = 1) && decide (n ≤ dOut p.lv (wordAt zs p.fr i))))
def soundP (zs : List Int) (n : Int) (p : P3) : Bool := (List.range 16).all (soundW zs n p)
def freshP (ps : List P3) (i : Nat) : Bool := (List.range i).all fun j => !decide ((pAt ps i).fr = (pAt ps j).fr)
def treeTo (zs : List Int) (n : Int) (ps : List P3) (k : Nat) : Bool := (List.range k).all fun i => freshP ps i && soundP zs n (pAt ps i)
end Go.Proofs.Ytnmhkgmmpkjjeab
