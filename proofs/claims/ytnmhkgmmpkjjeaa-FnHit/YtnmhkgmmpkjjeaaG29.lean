import Derived.Test.YtnmhkgmmpkjjeaaG17
import Derived.Test.YtnmhkgmmpkjjeaaG27
import Derived.Test.YtnmhkgmmpkjjeaaG28
import Derived.Deep.RegionHeld3
namespace Go.Proofs.Ytnmhkgmmpkjjeaa
open Go.ChangeShapes Go.WideShapes Go.ChangeAt Go.RowKit
set_option linter.unusedVariables false

/-- Entries i and j of the TLB meet and say different things. -/
def pairB (M : Mach) (i j : Nat) : Bool := meets (eAt eTlb M.tlb i).page (eAt eTlb M.tlb i).size (eAt eTlb M.tlb j).page (eAt eTlb M.tlb j).size && !sameB (eAt eTlb M.tlb i) (eAt eTlb M.tlb j)
def confT (M : Mach) : Bool := anyR (fun j => anyR (fun i => pairB M i j) j) M.tlb.length
/-- What Conflict answers. -/
def confB (M : Mach) : Bool := validB M && confT M
theorem anyR_none (f : Nat → Bool) : ∀ n, (∀ i, i < n → f i = false) → anyR f n = false
  | 0, _ => rfl
  | n + 1, h => by rw [anyR_succ, anyR_none f n (fun i hi => h i (by omega)), h n (by omega)]; rfl
theorem confT_no {M : Mach} (h : ∀ i j, i < j → j < M.tlb.length → pairB M i j = false) : confT M = false :=
  anyR_none _ _ (fun j hj => anyR_none _ _ (fun i hi => h i j hi hj))
theorem confT_yes {M : Mach} (i j : Nat) (hi : i < j) (hj : j < M.tlb.length) (h : pairB M i j = true) : confT M = true :=
  anyR_true _ j _ hj (anyR_true (fun i => pairB M i j) i j hi h)
theorem sameB_comm (a b : TlbE) : sameB a b = sameB b a := by
  unfold sameB
  rw [Bool.eq_iff_iff]
  simp only [Bool.and_eq_true, decide_eq_true_eq]
  constructor <;> (rintro ⟨⟨⟨h1, h2⟩, h3⟩, h4⟩; exact ⟨⟨⟨h1.symm, h2.symm⟩, h3.symm⟩, h4.symm⟩)
structure TRng (e : TlbE) : Prop where
  p0 : 0 ≤ e.page
  p1 : e.page < 4096
  s : e.size = 1 ∨ e.size = 16
  m : e.page % e.size = 0
theorem valid_trng {M : Mach} (hv : validB M = true) (i : Nat) (hi : i < M.tlb.length) : TRng (eAt eTlb M.tlb i) := by
  have h1 := valid_tlb hv i hi
  unfold tlbOkB at h1
  simp only [Bool.and_eq_true, Bool.or_eq_true, decide_eq_true_eq] at h1
  have h2 : 0 ≤ (eAt eTlb M.tlb i).page ∧ (eAt eTlb M.tlb i).page < 4096 := by simpa [pageOk] using h1.1.1.1.1.1.1.2
  exact ⟨h2.1, h2.2, h1.1.1.1.1.1.1.1, h1.1.1.1.1.1.2⟩
theorem cov_iff {e : TlbE} (he : TRng e) (p : Int) (hp : 0 ≤ p) : tlbCov e p = true ↔ e.page ≤ p ∧ p < e.page + e.size := by
  unfold tlbCov
  have hm := he.m
  rcases he.s with h | h <;> rw [h] at hm ⊢ <;> simp only [decide_eq_true_eq] <;> omega
/-- A page of a at which b covers: they meet. -/
theorem meets_of_cov {a b : TlbE} (ha : TRng a) (hb : TRng b) (k : Int) (hk0 : 0 ≤ k) (hk : k < a.size) (h : tlbCov b (a.page + k) = true) : meets b.page b.size a.page a.size = true := by
  have h1 := (cov_iff hb _ (by have := ha.p0; omega)).1 h
  have := ha.s
  have := hb.s
  unfold meets
  simp only [Bool.and_eq_true, decide_eq_true_eq]
  omega
theorem not_meets {a b : TlbE} (ha : TRng a) (hb : TRng b) (h : ∀ k : Nat, (k : Int) < a.size → tlbCov b (a.page + k) = false) : meets b.page b.size a.page a.size = false := by
  cases hm : meets b.page b.size a.page a.size
  · rfl
  · exfalso
    unfold meets at hm
    simp only [Bool.and_eq_true, decide_eq_true_eq] at hm
    have hs := hb.s
    have hs' := ha.s
    have a0 := ha.p0
    by_cases hlt : a.page < b.page
    · have h1 := h (b.page - a.page).toNat (by omega)
      have h2 := (cov_iff hb (a.page + ((b.page - a.page).toNat : Int)) (by omega)).2 (by omega)
      rw [h1] at h2
      cases h2
    · have h1 := h 0 (by omega)
      have h2 := (cov_iff hb (a.page + ((0 : Nat) : Int)) (by simpa using a0)).2 (by simp; omega)
      rw [h1] at h2
      cases h2
end Go.Proofs.Ytnmhkgmmpkjjeaa
namespace Go.Proofs.Ytnmhkgmmpkjjeaa
open Go.ChangeShapes Go.WideShapes Go.ChangeAt Go.RowKit
set_option linter.unusedVariables false
attribute [local go_sem ↓] Go.wp_at_zero Go.wp_at_succ

set_option maxHeartbeats 1000000 in
theorem agrees_any (b o : Nat) (x y : TlbE) (w : World) (hb : b < w.heap.size) (c0 : w.cell? ⟨b, o, none⟩ = some (.int .i64 x.page)) (c1 : w.cell? ⟨b, o + 1, none⟩ = some (.int .i64 x.size)) (c2 : w.cell? ⟨b, o + 2, none⟩ = some (.bool x.doom)) (c3 : w.cell? ⟨b, o + 3, none⟩ = some (.int .i64 x.out)) (c4 : w.cell? ⟨b, o + 4, none⟩ = some (.int .i64 x.perm)) :
    Calls Try.prog 153 #[.pointer (some ⟨b, o, none⟩), .agg #[.int .i64 y.page, .int .i64 y.size, .bool y.doom, .int .i64 y.out, .int .i64 y.perm]] w fun r w' => r = .returned (.bool (sameB x y)) ∧ Below w.heap.size w w' := by
  by_cases h0 : x.page = y.page
  · have k0 : (x.page == y.page) = true := by simpa using h0
    by_cases h1 : x.size = y.size
    · have k1 : (x.size == y.size) = true := by simpa using h1
      by_cases h2 : x.out = y.out
      · have k2 : (x.out == y.out) = true := by simpa using h2
        by_cases h3 : x.perm = y.perm
        · have k3 : (x.perm == y.perm) = true := by simpa using h3
          have hs : sameB x y = true := by simp [sameB, h0, h1, h2, h3]
          rw [hs]
          clear hs h0 h1 h2 h3
          go_enter Try.func153, Try.ntmps153
          go_wp2_with fail
          go_quiet (fail)
          go_wp2_with fail
          go_ret
          exact ⟨rfl, bDrewN ((Below.refl _ _).alloc (Nat.le_refl _) _) _⟩
        · have k3 : (x.perm == y.perm) = false := by simpa using h3
          have hs : sameB x y = false := by simp [sameB, h3]
          rw [hs]
          clear hs h0 h1 h2 h3
          go_enter Try.func153, Try.ntmps153
          go_wp2_with fail
          go_quiet (fail)
          go_wp2_with fail
          go_ret
          exact ⟨rfl, bDrewN ((Below.refl _ _).alloc (Nat.le_refl _) _) _⟩
      · have k2 : (x.out == y.out) = false := by simpa using h2
        have hs : sameB x y = false := by simp [sameB, h2]
        rw [hs]
        clear hs h0 h1 h2
        go_enter Try.func153, Try.ntmps153
        go_wp2_with fail
        go_quiet (fail)
        go_wp2_with fail
        go_ret
        exact ⟨rfl, bDrewN ((Below.refl _ _).alloc (Nat.le_refl _) _) _⟩
    · have k1 : (x.size == y.size) = false := by simpa using h1
      have hs : sameB x y = false := by simp [sameB, h1]
      rw [hs]
      clear hs h0 h1
      go_enter Try.func153, Try.ntmps153
      go_wp2_with fail
      go_quiet (fail)
      go_wp2_with fail
      go_ret
      exact ⟨rfl, bDrewN ((Below.refl _ _).alloc (Nat.le_refl _) _) _⟩
  · have k0 : (x.page == y.page) = false := by simpa using h0
    have hs : sameB x y = false := by simp [sameB, h0]
    rw [hs]
    clear hs h0
    go_enter Try.func153, Try.ntmps153
    go_wp2_with fail
    go_quiet (fail)
    go_wp2_with fail
    go_ret
    exact ⟨rfl, bDrewN ((Below.refl _ _).alloc (Nat.le_refl _) _) _⟩
end Go.Proofs.Ytnmhkgmmpkjjeaa
