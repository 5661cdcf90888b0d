import Derived.Test.YtnmhkgmmpkjjeabWM
import Derived.Test.YtnmhkgmmpkjjeabUSmall
namespace Go.Proofs.Ytnmhkgmmpkjjeab
open Go.ChangeShapes Go.WideShapes Go.ChangeAt Go.RowKit
set_option linter.unusedVariables false

/-- Entries i and j of the TLB meet and say different things. -/
def pairB (M : Mach) (i j : Nat) : Bool := meets (eAt eTlb M.tlb i).page (eAt eTlb M.tlb i).size (eAt eTlb M.tlb j).page (eAt eTlb M.tlb j).size && !sameB (eAt eTlb M.tlb i) (eAt eTlb M.tlb j)
def confT (M : Mach) : Bool := anyR (fun j => anyR (fun i => pairB M i j) j) M.tlb.length
/-- What Conflict answers. -/
def confB (M : Mach) : Bool := validB M && confT M
theorem anyR_none (f : Nat → Bool) : ∀ n, (∀ i, i < n → f i = false) → anyR f n = false
  | 0, _ => rfl
  | n + 1, h => by rw [anyR_succ, anyR_none f n (fun i hi => h i (by omega)), h n (by omega)]; rfl
theorem confT_no {M : Mach} (h : ∀ i j, i < j → j < M.tlb.length → pairB M i j = false) : confT M = false :=
  anyR_none _ _ (fun j hj => anyR_none _ _ (fun i hi => h i j hi hj))
theorem confT_yes {M : Mach} (i j : Nat) (hi : i < j) (hj : j < M.tlb.length) (h : pairB M i j = true) : confT M = true :=
  anyR_true _ j _ hj (anyR_true (fun i => pairB M i j) i j hi h)
theorem sameB_comm (a b : TlbE) : sameB a b = sameB b a := by
  unfold sameB
  rw [Bool.eq_iff_iff]
  simp only [Bool.and_eq_true, decide_eq_true_eq]
  constructor <;> (rintro ⟨⟨⟨h1, h2⟩, h3⟩, h4⟩; exact ⟨⟨⟨h1.symm, h2.symm⟩, h3.symm⟩, h4.symm⟩)
structure TRng (e : TlbE) : Prop where
  p0 : 0 ≤ e.page
  p1 : e.page < 4096
  s : e.size = 1 ∨ e.size = 16
  m : e.page % e.size = 0
theorem valid_trng {M : Mach} (hv : validB M = true) (i : Nat) (hi : i < M.tlb.length) : TRng (eAt eTlb M.tlb i) := by
  have h1 := valid_tlb hv i hi
  unfold tlbOkB at h1
  simp only [Bool.and_eq_true, Bool.or_eq_true, decide_eq_true_eq] at h1
  have h2 : 0 ≤ (eAt eTlb M.tlb i).page ∧ (eAt eTlb M.tlb i).page < 4096 := by simpa [pageOk] using h1.1.1.1.1.1.1.2
  exact ⟨h2.1, h2.2, h1.1.1.1.1.1.1.1, h1.1.1.1.1.1.2⟩
theorem cov_iff {e : TlbE} (he : TRng e) (p : Int) (hp : 0 ≤ p) : tlbCov e p = true ↔ e.page ≤ p ∧ p < e.page + e.size := by
  unfold tlbCov
  have hm := he.m
  rcases he.s with h | h <;> rw [h] at hm ⊢ <;> simp only [decide_eq_true_eq] <;> omega
/-- A page of a at which b covers: they meet. -/
theorem meets_of_cov {a b : TlbE} (ha : TRng a) (hb : TRng b) (k : Int) (hk0 : 0 ≤ k) (hk : k < a.size) (h : tlbCov b (a.page + k) = true) : meets b.page b.size a.page a.size = true := by
  have h1 := (cov_iff hb _ (by have := ha.p0; omega)).1 h
  have := ha.s
  have := hb.s
  unfold meets
  simp only [Bool.and_eq_true, decide_eq_true_eq]
  omega
theorem not_meets {a b : TlbE} (ha : TRng a) (hb : TRng b) (h : ∀ k : Nat, (k : Int) < a.size → tlbCov b (a.page + k) = false) : meets b.page b.size a.page a.size = false := by
  cases hm : meets b.page b.size a.page a.size
  · rfl
  · exfalso
    unfold meets at hm
    simp only [Bool.and_eq_true, decide_eq_true_eq] at hm
    have hs := hb.s
    have hs' := ha.s
    have a0 := ha.p0
    by_cases hlt : a.page < b.page
    · have h1 := h (b.page - a.page).toNat (by omega)
      have h2 := (cov_iff hb (a.page + ((b.page - a.page).toNat : Int)) (by omega)).2 (by omega)
      rw [h1] at h2
      cases h2
    · have h1 := h 0 (by omega)
      have h2 := (cov_iff hb (a.page + ((0 : Nat) : Int)) (by simpa using a0)).2 (by simp; omega)
      rw [h1] at h2
      cases h2
end Go.Proofs.Ytnmhkgmmpkjjeab
