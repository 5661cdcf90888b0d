import Derived.Test.YtnmhkgmmpkjjeabIAdd
namespace Go.Proofs.Ytnmhkgmmpkjjeab
open Go.ChangeShapes Go.WideShapes Go.ChangeAt Go.RowKit
set_option linter.unusedVariables false

theorem dKind_3 (x : Int) : dKind 3 x ≠ 1 := by
  unfold dKind
  rw [if_neg (by omega)]
  by_cases h1 : x % 2 = 0
  · rw [if_pos h1]; omega
  · rw [if_neg h1]
    by_cases h2 : x / 32 % 128 ≠ 0 ∨ x / 268435456 ≠ 0
    · rw [if_pos h2]; omega
    · rw [if_neg h2, if_neg (by omega), if_neg (by omega)]
      by_cases h3 : (3 : Int) = 3 ∧ x / 2 % 2 = 1 ∧ 0 < x / 4 % 8
      · rw [if_pos h3]; omega
      · rw [if_neg h3]; omega
theorem leads_3 (zs : List Int) (n : Int) (p : P3) (i : Nat) (h : p.lv = 3) : leads zs n p i = false := by
  unfold leads
  rw [h]
  simp [dKind_3]
theorem downs_3 (zs : List Int) (n : Int) (rec : P3 → List P3) (p : P3) (h : p.lv = 3) : ∀ k, downs zs n rec p k = [p]
  | 0 => rfl
  | k + 1 => by rw [downs_succ, downs_3 zs n rec p h k, leads_3 zs n p k h]; rfl

theorem implAdd_any (g : Nat) (zs : List Int) (c : Nat) (hz : OkMem zs) (hcc : zs.length ≤ c) (B : Nat) (hgB : g < B) : ∀ (d : Nat), d ≤ 2 → ∀ (p : P3) (v : Value) (qs : List P3) (w : World), OkP zs d p → CRow w g zs → B ≤ w.heap.size → qs.length ≤ 100000 - 10000 * d → PRow w B v qs →
    Calls Try.prog 117 #[v, .agg #[.slice (some ⟨g, 0, none⟩) zs.length c], .agg #[.int .i64 p.fr, .int .i64 p.lv, .int .i64 p.pg]] w fun e w' => Grew w B v (qs ++ belowL zs (nfr zs.length) d p) e w'
  | 0, _, p, v, qs, w, hp, hg, hB, hq, hv => by
    have hm := nfr_mul zs.length hz.n0
    have hle := nfr_le zs.length
    obtain ⟨a, b, c1, e, f, g1⟩ := hp
    have hl : p.lv = 3 := by omega
    exact add_last g zs c p hl B hgB 100000 (by omega) v qs (by omega) w hg hB hv
  | d + 1, hd, p, v, qs, w, hp, hg, hB, hq, hv => by
    have hm := nfr_mul zs.length hz.n0
    have hle := nfr_le zs.length
    have hp' := hp
    obtain ⟨a, b, c1, e, f, g1⟩ := hp'
    refine add_step g zs c p p.fr.toNat (by omega) (by omega) (by omega) hcc b (by omega) f g1 (belowL zs (nfr zs.length) d) ?_ (nfr zs.length) hm.1
      (fun i hi w => implDecode_any p.lv (wordAt zs p.fr i) (hz.rng _).1 (hz.rng _).2 w) B hgB (100000 - 10000 * (d + 1)) (by omega) ?_ v qs hq w hg hB hv
    · intro q
      have := belowL_length zs (nfr zs.length) d q
      have : bnd d ≤ 17 := by
        rcases (show d = 0 ∨ d = 1 by omega) with rfl | rfl <;> decide
      omega
    · intro i w v qs hi hl hg hB hq hv
      exact implAdd_any g zs c hz hcc B hgB d (by omega) (under zs p i) v qs w (okP_under hp i hi hl) hg hB (by omega) hv
end Go.Proofs.Ytnmhkgmmpkjjeab
