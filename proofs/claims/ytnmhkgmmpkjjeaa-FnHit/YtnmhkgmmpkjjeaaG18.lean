import Derived.Test.YtnmhkgmmpkjjeaaG11
import Derived.Laws.Cover3
import Derived.Outline
namespace Go.Proofs.Ytnmhkgmmpkjjeaa
open Go.ChangeShapes Go.WideShapes Go.ChangeAt Go.RowKit
set_option linter.unusedVariables false
attribute [local go_sem ↓] Go.wp_at_zero Go.wp_at_succ

/-- A memory of words that is valid. -/
structure OkMem (zs : List Int) : Prop where
  n0 : nfr zs.length ≠ 0
  rng : ∀ i, 0 ≤ zs.getD i 0 ∧ zs.getD i 0 < 2 ^ 64
/-- A place whose table is there. -/
def OkP (zs : List Int) (d : Nat) (p : P3) : Prop := p.lv + d = 3 ∧ 1 ≤ p.lv ∧ 0 ≤ p.fr ∧ p.fr < nfr zs.length ∧ 0 ≤ p.pg ∧ p.pg ≤ 4096 * p.lv

theorem okP_under {zs : List Int} {d : Nat} {p : P3} (h : OkP zs (d + 1) p) (i : Nat) (hi : i < 16) (hl : leads zs (nfr zs.length) p i = true) : OkP zs d (under zs p i) := by
  obtain ⟨a, b, c, e, f, g⟩ := h
  simp only [leads, Bool.and_eq_true, decide_eq_true_eq] at hl
  have ho := dOut_lo p.lv (wordAt zs p.fr i)
  have hc := cov_bd p.lv
  have y0 : 0 ≤ (i : Int) * cov p.lv := Int.mul_nonneg (by omega) hc.1
  have y1 : (i : Int) * cov p.lv ≤ 15 * 256 := Int.mul_le_mul (by omega) hc.2 hc.1 (by omega)
  refine ⟨?_, ?_, ho.1, hl.2, ?_, ?_⟩
  · show p.lv + 1 + d = 3; omega
  · show 1 ≤ p.lv + 1; omega
  · show 0 ≤ p.pg + i * cov p.lv; omega
  · show p.pg + i * cov p.lv ≤ 4096 * (p.lv + 1); omega

theorem belowL_ok {zs : List Int} : ∀ (d : Nat) (p : P3), OkP zs d p → ∀ q ∈ belowL zs (nfr zs.length) d p, ∃ d', OkP zs d' q
  | 0, p, h => by intro q hq; simp [belowL] at hq; subst hq; exact ⟨0, h⟩
  | d + 1, p, h => by
    intro q hq
    simp only [belowL, downs, List.mem_cons, List.mem_flatMap, List.mem_range] at hq
    rcases hq with rfl | ⟨i, hi, hq⟩
    · exact ⟨d + 1, h⟩
    · by_cases hl : leads zs (nfr zs.length) p i = true
      · rw [if_pos hl] at hq
        exact belowL_ok d _ (okP_under h i hi hl) q hq
      · rw [if_neg hl] at hq
        simp at hq

theorem specBelow_any (g : Nat) (zs : List Int) (c : Nat) (hz : OkMem zs) : ∀ (d : Nat), d ≤ 2 → ∀ (p : P3) (w : World), OkP zs d p → CRow w g zs →
    Calls Try.prog 40 #[.agg #[.slice (some ⟨g, 0, none⟩) zs.length c], .agg #[.int .i64 p.fr, .int .i64 p.lv, .int .i64 p.pg]] w fun e w' => ∃ a c, e = .returned (.slice a (belowL zs (nfr zs.length) d p).length c) ∧ PRow w' w.heap.size (.slice a (belowL zs (nfr zs.length) d p).length c) (belowL zs (nfr zs.length) d p) ∧ Below w.heap.size w w'
  | 0, _, p, w, hp, hg => below_leaf g zs.length c p (by have := hp.1; omega) w
  | d + 1, hd, p, w, hp, hg => by
    have hm := nfr_mul zs.length hz.n0
    have hle := nfr_le zs.length
    have hp' := hp
    obtain ⟨a, b, c1, e, f, g1⟩ := hp'
    refine below_step g zs c d p p.fr.toNat (by omega) (by omega) (by omega) b (by omega) f g1 (belowL zs (nfr zs.length) d) ?_ (nfr zs.length) rfl ?_ ?_ w hg
    · intro q
      have := belowL_length zs (nfr zs.length) d q
      have : bnd d ≤ 17 := by
        rcases (show d = 0 ∨ d = 1 by omega) with rfl | rfl <;> decide
      omega
    · intro i hi w
      have := hz.rng ((p.fr * 16).toNat + i)
      exact specDecode_any p.lv (wordAt zs p.fr i) this.1 this.2 w
    · intro i w hi hl hg
      exact specBelow_any g zs c hz d (by omega) (under zs p i) w (okP_under hp i hi hl) hg

/-- The places of a memory, and whether it is a tree. -/
def plist (zs : List Int) : List P3 := if nfr zs.length = 0 then [] else belowL zs (nfr zs.length) 2 ⟨0, 1, 0⟩
def ptree (zs : List Int) : Bool := !decide (nfr zs.length = 0) && treeTo zs (nfr zs.length) (plist zs) (plist zs).length
theorem plist_length (zs : List Int) : (plist zs).length ≤ 273 := by
  unfold plist
  split
  · simp
  · exact belowL_length zs _ 2 _

/-- The memory is not valid. -/
theorem specPlaces_no (g : Nat) (n c : Nat) (hn : n ≤ 1048576) (h0 : nfr n = 0) (w : World) :
    Calls Try.prog 10 #[.agg #[.slice (some ⟨g, 0, none⟩) n c]] w fun e w' => ∃ a c', e = .returned (.tuple #[.slice a 0 c', .bool false]) ∧ PRow w' w.heap.size (.slice a 0 c') [] ∧ Below w.heap.size w w' := by
  have hf := frames_any (some ⟨g, 0, none⟩) n c (by omega)
  rw [h0] at hf
  go_enter Try.func10, Try.ntmps10
  go_wp2_with (go_at_call 39; refine (hf _).mono ?_; rintro e w1 ⟨rfl, hb1⟩)
  go_ret2
  have hs := hb1.size
  simp at hs
  exact ⟨_, _, rfl, ⟨rfl, .inr ⟨w1.heap.size, 0, #[], rfl, by omega, heap_alloc_new w1 _, Nat.le_refl _, by unfold maxLen; omega, rfl, rfl⟩⟩, (((Below.refl _ _).alloc (Nat.le_refl _) _).trans (hb1.mono (by simp))).alloc (by omega) _⟩
end Go.Proofs.Ytnmhkgmmpkjjeaa
namespace Go.Proofs.Ytnmhkgmmpkjjeaa
open Go.ChangeShapes Go.WideShapes Go.ChangeAt Go.RowKit
set_option linter.unusedVariables false
attribute [local go_sem ↓] Go.wp_at_zero Go.wp_at_succ

theorem valid_any (a : Option Addr) (m c : Nat) (hm : m ≤ 17592186044416) (w : World) :
    Calls Try.prog 71 #[.agg #[.slice a m c]] w fun e w' => e = .returned (.bool (!decide (nfr m = 0))) ∧ Below w.heap.size w w' := by
  by_cases h1 : m < 16
  · have e : nfr m = 0 := by unfold nfr; rw [if_pos (.inl h1)]
    simp only [e, decide_true, Bool.not_true]
    have h1' : decide ((16 : Int) ≤ m) = false := by simp; omega
    clear e
    go_enter Try.func71, Try.ntmps71
    go_wp2
    go_ret
    exact ⟨rfl, (Below.refl _ _).alloc (Nat.le_refl _) _⟩
  · by_cases h2 : 8192 < m
    · have e : nfr m = 0 := by unfold nfr; rw [if_pos (.inr (.inl h2))]
      simp only [e, decide_true, Bool.not_true]
      have h1' : decide ((16 : Int) ≤ m) = true := by simp; omega
      have h2' : decide ((m : Int) ≤ 8192) = false := by simp; omega
      clear e
      go_enter Try.func71, Try.ntmps71
      go_wp2
      go_ret
      exact ⟨rfl, (Below.refl _ _).alloc (Nat.le_refl _) _⟩
    · have h1' : decide ((16 : Int) ≤ m) = true := by simp; omega
      have h2' : decide ((m : Int) ≤ 8192) = true := by simp; omega
      by_cases h3 : m % 16 = 0
      · have e : ¬ nfr m = 0 := by unfold nfr; rw [if_neg (by omega)]; omega
        simp only [e, decide_false, Bool.not_false]
        have h3' : ((m : Int) % 16 == 0) = true := by simp; omega
        clear e
        go_enter Try.func71, Try.ntmps71
        go_wp2
        go_ret
        exact ⟨rfl, (Below.refl _ _).alloc (Nat.le_refl _) _⟩
      · have e : nfr m = 0 := by unfold nfr; rw [if_pos (.inr (.inr h3))]
        simp only [e, decide_true, Bool.not_true]
        have h3' : ((m : Int) % 16 == 0) = false := by simp; omega
        clear e
        go_enter Try.func71, Try.ntmps71
        go_wp2
        go_ret
        exact ⟨rfl, (Below.refl _ _).alloc (Nat.le_refl _) _⟩
theorem hasFrame_any (a : Option Addr) (m c : Nat) (o n : Int) (hn : n * 16 = m) (ho : 0 ≤ o) (hm : m ≤ 8192) (w : World) :
    Calls Try.prog 107 #[.agg #[.slice a m c], .int .i64 o] w fun e w' => e = .returned (.bool (decide (o < n))) ∧ Below w.heap.size w w' := by
  have e1 : (m : Int) / 16 = n := by omega
  have h0 : decide (0 ≤ o) = true := by simpa using ho
  by_cases h : o < n
  · have h1 : decide (o < (m : Int) / 16) = true := by rw [e1]; simpa using h
    simp only [h, decide_true]
    clear e1 h
    go_enter Try.func107, Try.ntmps107
    go_wp2
    go_ret
    exact ⟨rfl, (Below.refl _ _).alloc (Nat.le_refl _) _⟩
  · have h1 : decide (o < (m : Int) / 16) = false := by rw [e1]; simpa using h
    simp only [h, decide_false]
    clear e1 h
    go_enter Try.func107, Try.ntmps107
    go_wp2
    go_ret
    exact ⟨rfl, (Below.refl _ _).alloc (Nat.le_refl _) _⟩
theorem entryPages_any (l : Int) (w : World) :
    Calls Try.prog 148 #[.int .i64 l] w fun e w' => e = .returned (.int .i64 (cov l)) ∧ w' = w := by
  by_cases h1 : l = 1
  · subst h1
    go_enter Try.func148, Try.ntmps148
    go_wp2
    go_ret
    exact ⟨rfl, rfl⟩
  · by_cases h2 : l = 2
    · subst h2
      go_enter Try.func148, Try.ntmps148
      go_wp2
      go_ret
      exact ⟨rfl, rfl⟩
    · have e : cov l = 1 := by simp [cov, h1, h2]
      rw [e]
      have h1' : (l == 1) = false := by simpa using h1
      have h2' : (l == 2) = false := by simpa using h2
      clear e h1 h2
      go_enter Try.func148, Try.ntmps148
      go_wp2
      go_ret
      exact ⟨rfl, rfl⟩

theorem tablePages_any (l : Int) (w : World) :
    Calls Try.prog 102 #[.int .i64 l] w fun e w' => e = .returned (.int .i64 (16 * cov l)) ∧ w' = w := by
  have hc := entryPages_any l
  have hb := cov_bd l
  generalize cov l = C at *
  go_enter Try.func102, Try.ntmps102
  go_wp2_with (go_at_call 148; refine (hc _).mono ?_; rintro e w1 ⟨rfl, rfl⟩)
  go_ret
  exact ⟨rfl, rfl⟩

set_option maxRecDepth 100000 in
set_option maxHeartbeats 1000000 in
theorem tableAt_any (g : Nat) (zs : List Int) (c F : Nat) (hF : F * 16 + 16 ≤ zs.length) (hlen : zs.length ≤ 8192) (hc : zs.length ≤ c) (w : World) (hg : CRow w g zs) :
    Calls Try.prog 161 #[.agg #[.slice (some ⟨g, 0, none⟩) zs.length c], .int .i64 F] w fun e w' => (∃ T : Array Value, e = .returned (.agg T) ∧ T.size = 16 ∧ ∀ k, k < 16 → T[k]? = some (.int .u64 (zs.getD (F * 16 + k) 0))) ∧ Below w.heap.size w w' := by
  have a1 : (0 : Int) ≤ F * 16 := by omega
  have a2 : (F : Int) * 16 ≤ (F + 1) * 16 := by omega
  have a3 : ((F : Int) + 1) * 16 ≤ c := by omega
  have hgl := hg.lt
  have hat : ∀ w, (Instr.arrayAt 226 (.slice (some ⟨g, F * 16, none⟩) ((F + 1) * 16 - F * 16) (c - F * 16))).run Try.prog w = .ok (.pointer (some ⟨g, F * 16, none⟩)) w := fun w => run_arrayAt w 226 _ 16 _ _ _ Try.underlying226 (by omega)
  have w0 := hg.cell (i := F * 16) (by omega)
  have w1 := hg.cell (i := F * 16 + 1) (by omega)
  have w2 := hg.cell (i := F * 16 + 2) (by omega)
  have w3 := hg.cell (i := F * 16 + 3) (by omega)
  have w4 := hg.cell (i := F * 16 + 4) (by omega)
  have w5 := hg.cell (i := F * 16 + 5) (by omega)
  have w6 := hg.cell (i := F * 16 + 6) (by omega)
  have w7 := hg.cell (i := F * 16 + 7) (by omega)
  have w8 := hg.cell (i := F * 16 + 8) (by omega)
  have w9 := hg.cell (i := F * 16 + 9) (by omega)
  have w10 := hg.cell (i := F * 16 + 10) (by omega)
  have w11 := hg.cell (i := F * 16 + 11) (by omega)
  have w12 := hg.cell (i := F * 16 + 12) (by omega)
  have w13 := hg.cell (i := F * 16 + 13) (by omega)
  have w14 := hg.cell (i := F * 16 + 14) (by omega)
  have w15 := hg.cell (i := F * 16 + 15) (by omega)
  clear hg
  go_enter Try.func161, Try.ntmps161
  go_wp2
  refine bodyPost_ret (v := .agg #[.int .u64 (zs.getD (F * 16 + 0) 0), .int .u64 (zs.getD (F * 16 + 1) 0), .int .u64 (zs.getD (F * 16 + 2) 0), .int .u64 (zs.getD (F * 16 + 3) 0), .int .u64 (zs.getD (F * 16 + 4) 0), .int .u64 (zs.getD (F * 16 + 5) 0), .int .u64 (zs.getD (F * 16 + 6) 0), .int .u64 (zs.getD (F * 16 + 7) 0), .int .u64 (zs.getD (F * 16 + 8) 0), .int .u64 (zs.getD (F * 16 + 9) 0), .int .u64 (zs.getD (F * 16 + 10) 0), .int .u64 (zs.getD (F * 16 + 11) 0), .int .u64 (zs.getD (F * 16 + 12) 0), .int .u64 (zs.getD (F * 16 + 13) 0), .int .u64 (zs.getD (F * 16 + 14) 0), .int .u64 (zs.getD (F * 16 + 15) 0)]) (by simp [results, Try.results161, go_sem]) rfl ⟨⟨_, rfl, rfl, ?_⟩, ((Below.refl _ _).alloc (Nat.le_refl _) _).alloc (by simp) _⟩
  intro k hk
  match k, hk with
  | 0, _ => rfl
  | 1, _ => rfl
  | 2, _ => rfl
  | 3, _ => rfl
  | 4, _ => rfl
  | 5, _ => rfl
  | 6, _ => rfl
  | 7, _ => rfl
  | 8, _ => rfl
  | 9, _ => rfl
  | 10, _ => rfl
  | 11, _ => rfl
  | 12, _ => rfl
  | 13, _ => rfl
  | 14, _ => rfl
  | 15, _ => rfl
  | k + 16, h => omega
end Go.Proofs.Ytnmhkgmmpkjjeaa
