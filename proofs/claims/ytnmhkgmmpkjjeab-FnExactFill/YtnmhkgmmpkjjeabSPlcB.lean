import Derived.Test.YtnmhkgmmpkjjeabSPlc
namespace Go.Proofs.Ytnmhkgmmpkjjeab
open Go.ChangeShapes Go.WideShapes Go.ChangeAt Go.RowKit
set_option linter.unusedVariables false
attribute [local go_sem ↓] Go.wp_at_zero Go.wp_at_succ

/-- A memory of words that is valid. -/
structure OkMem (zs : List Int) : Prop where
  n0 : nfr zs.length ≠ 0
  rng : ∀ i, 0 ≤ zs.getD i 0 ∧ zs.getD i 0 < 2 ^ 64
/-- A place whose table is there. -/
def OkP (zs : List Int) (d : Nat) (p : P3) : Prop := p.lv + d = 3 ∧ 1 ≤ p.lv ∧ 0 ≤ p.fr ∧ p.fr < nfr zs.length ∧ 0 ≤ p.pg ∧ p.pg ≤ 4096 * p.lv

theorem okP_under {zs : List Int} {d : Nat} {p : P3} (h : OkP zs (d + 1) p) (i : Nat) (hi : i < 16) (hl : leads zs (nfr zs.length) p i = true) : OkP zs d (under zs p i) := by
  obtain ⟨a, b, c, e, f, g⟩ := h
  simp only [leads, Bool.and_eq_true, decide_eq_true_eq] at hl
  have ho := dOut_lo p.lv (wordAt zs p.fr i)
  have hc := cov_bd p.lv
  have y0 : 0 ≤ (i : Int) * cov p.lv := Int.mul_nonneg (by omega) hc.1
  have y1 : (i : Int) * cov p.lv ≤ 15 * 256 := Int.mul_le_mul (by omega) hc.2 hc.1 (by omega)
  refine ⟨?_, ?_, ho.1, hl.2, ?_, ?_⟩
  · show p.lv + 1 + d = 3; omega
  · show 1 ≤ p.lv + 1; omega
  · show 0 ≤ p.pg + i * cov p.lv; omega
  · show p.pg + i * cov p.lv ≤ 4096 * (p.lv + 1); omega

theorem belowL_ok {zs : List Int} : ∀ (d : Nat) (p : P3), OkP zs d p → ∀ q ∈ belowL zs (nfr zs.length) d p, ∃ d', OkP zs d' q
  | 0, p, h => by intro q hq; simp [belowL] at hq; subst hq; exact ⟨0, h⟩
  | d + 1, p, h => by
    intro q hq
    simp only [belowL, downs, List.mem_cons, List.mem_flatMap, List.mem_range] at hq
    rcases hq with rfl | ⟨i, hi, hq⟩
    · exact ⟨d + 1, h⟩
    · by_cases hl : leads zs (nfr zs.length) p i = true
      · rw [if_pos hl] at hq
        exact belowL_ok d _ (okP_under h i hi hl) q hq
      · rw [if_neg hl] at hq
        simp at hq

theorem specBelow_any (g : Nat) (zs : List Int) (c : Nat) (hz : OkMem zs) : ∀ (d : Nat), d ≤ 2 → ∀ (p : P3) (w : World), OkP zs d p → CRow w g zs →
    Calls Try.prog 51 #[.agg #[.slice (some ⟨g, 0, none⟩) zs.length c], .agg #[.int .i64 p.fr, .int .i64 p.lv, .int .i64 p.pg]] w fun e w' => ∃ a c, e = .returned (.slice a (belowL zs (nfr zs.length) d p).length c) ∧ PRow w' w.heap.size (.slice a (belowL zs (nfr zs.length) d p).length c) (belowL zs (nfr zs.length) d p) ∧ Below w.heap.size w w'
  | 0, _, p, w, hp, hg => below_leaf g zs.length c p (by have := hp.1; omega) w
  | d + 1, hd, p, w, hp, hg => by
    have hm := nfr_mul zs.length hz.n0
    have hle := nfr_le zs.length
    have hp' := hp
    obtain ⟨a, b, c1, e, f, g1⟩ := hp'
    refine below_step g zs c d p p.fr.toNat (by omega) (by omega) (by omega) b (by omega) f g1 (belowL zs (nfr zs.length) d) ?_ (nfr zs.length) rfl ?_ ?_ w hg
    · intro q
      have := belowL_length zs (nfr zs.length) d q
      have : bnd d ≤ 17 := by
        rcases (show d = 0 ∨ d = 1 by omega) with rfl | rfl <;> decide
      omega
    · intro i hi w
      have := hz.rng ((p.fr * 16).toNat + i)
      exact specDecode_any p.lv (wordAt zs p.fr i) this.1 this.2 w
    · intro i w hi hl hg
      exact specBelow_any g zs c hz d (by omega) (under zs p i) w (okP_under hp i hi hl) hg

/-- The places of a memory, and whether it is a tree. -/
def plist (zs : List Int) : List P3 := if nfr zs.length = 0 then [] else belowL zs (nfr zs.length) 2 ⟨0, 1, 0⟩
def ptree (zs : List Int) : Bool := !decide (nfr zs.length = 0) && treeTo zs (nfr zs.length) (plist zs) (plist zs).length
theorem plist_length (zs : List Int) : (plist zs).length ≤ 273 := by
  unfold plist
  split
  · simp
  · exact belowL_length zs _ 2 _

/-- The memory is not valid. -/
theorem specPlaces_no (g : Nat) (n c : Nat) (hn : n ≤ 1048576) (h0 : nfr n = 0) (w : World) :
    Calls Try.prog 13 #[.agg #[.slice (some ⟨g, 0, none⟩) n c]] w fun e w' => ∃ a c', e = .returned (.tuple #[.slice a 0 c', .bool false]) ∧ PRow w' w.heap.size (.slice a 0 c') [] ∧ Below w.heap.size w w' := by
  have hf := frames_any (some ⟨g, 0, none⟩) n c (by omega)
  rw [h0] at hf
  go_enter Try.func13, Try.ntmps13
  go_wp2_with (go_at_call 50; refine (hf _).mono ?_; rintro e w1 ⟨rfl, hb1⟩)
  go_ret2
  have hs := hb1.size
  simp at hs
  exact ⟨_, _, rfl, ⟨rfl, .inr ⟨w1.heap.size, 0, #[], rfl, by omega, heap_alloc_new w1 _, Nat.le_refl _, by unfold maxLen; omega, rfl, rfl⟩⟩, (((Below.refl _ _).alloc (Nat.le_refl _) _).trans (hb1.mono (by simp))).alloc (by omega) _⟩
end Go.Proofs.Ytnmhkgmmpkjjeab
