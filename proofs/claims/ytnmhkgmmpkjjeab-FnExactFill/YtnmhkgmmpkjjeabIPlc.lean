import Derived.Test.YtnmhkgmmpkjjeabSPlcB
import Derived.Laws.Cover3
import Derived.Outline
namespace Go.Proofs.Ytnmhkgmmpkjjeab
open Go.ChangeShapes Go.WideShapes Go.ChangeAt Go.RowKit
set_option linter.unusedVariables false
attribute [local go_sem ↓] Go.wp_at_zero Go.wp_at_succ

theorem valid_any (a : Option Addr) (m c : Nat) (hm : m ≤ 17592186044416) (w : World) :
    Calls Try.prog 54 #[.agg #[.slice a m c]] w fun e w' => e = .returned (.bool (!decide (nfr m = 0))) ∧ Below w.heap.size w w' := by
  by_cases h1 : m < 16
  · have e : nfr m = 0 := by unfold nfr; rw [if_pos (.inl h1)]
    simp only [e, decide_true, Bool.not_true]
    have h1' : decide ((16 : Int) ≤ m) = false := by simp; omega
    clear e
    go_enter Try.func54, Try.ntmps54
    go_wp2
    go_ret
    exact ⟨rfl, (Below.refl _ _).alloc (Nat.le_refl _) _⟩
  · by_cases h2 : 8192 < m
    · have e : nfr m = 0 := by unfold nfr; rw [if_pos (.inr (.inl h2))]
      simp only [e, decide_true, Bool.not_true]
      have h1' : decide ((16 : Int) ≤ m) = true := by simp; omega
      have h2' : decide ((m : Int) ≤ 8192) = false := by simp; omega
      clear e
      go_enter Try.func54, Try.ntmps54
      go_wp2
      go_ret
      exact ⟨rfl, (Below.refl _ _).alloc (Nat.le_refl _) _⟩
    · have h1' : decide ((16 : Int) ≤ m) = true := by simp; omega
      have h2' : decide ((m : Int) ≤ 8192) = true := by simp; omega
      by_cases h3 : m % 16 = 0
      · have e : ¬ nfr m = 0 := by unfold nfr; rw [if_neg (by omega)]; omega
        simp only [e, decide_false, Bool.not_false]
        have h3' : ((m : Int) % 16 == 0) = true := by simp; omega
        clear e
        go_enter Try.func54, Try.ntmps54
        go_wp2
        go_ret
        exact ⟨rfl, (Below.refl _ _).alloc (Nat.le_refl _) _⟩
      · have e : nfr m = 0 := by unfold nfr; rw [if_pos (.inr (.inr h3))]
        simp only [e, decide_true, Bool.not_true]
        have h3' : ((m : Int) % 16 == 0) = false := by simp; omega
        clear e
        go_enter Try.func54, Try.ntmps54
        go_wp2
        go_ret
        exact ⟨rfl, (Below.refl _ _).alloc (Nat.le_refl _) _⟩
theorem hasFrame_any (a : Option Addr) (m c : Nat) (o n : Int) (hn : n * 16 = m) (ho : 0 ≤ o) (hm : m ≤ 8192) (w : World) :
    Calls Try.prog 125 #[.agg #[.slice a m c], .int .i64 o] w fun e w' => e = .returned (.bool (decide (o < n))) ∧ Below w.heap.size w w' := by
  have e1 : (m : Int) / 16 = n := by omega
  have h0 : decide (0 ≤ o) = true := by simpa using ho
  by_cases h : o < n
  · have h1 : decide (o < (m : Int) / 16) = true := by rw [e1]; simpa using h
    simp only [h, decide_true]
    clear e1 h
    go_enter Try.func125, Try.ntmps125
    go_wp2
    go_ret
    exact ⟨rfl, (Below.refl _ _).alloc (Nat.le_refl _) _⟩
  · have h1 : decide (o < (m : Int) / 16) = false := by rw [e1]; simpa using h
    simp only [h, decide_false]
    clear e1 h
    go_enter Try.func125, Try.ntmps125
    go_wp2
    go_ret
    exact ⟨rfl, (Below.refl _ _).alloc (Nat.le_refl _) _⟩
theorem entryPages_any (l : Int) (w : World) :
    Calls Try.prog 173 #[.int .i64 l] w fun e w' => e = .returned (.int .i64 (cov l)) ∧ w' = w := by
  by_cases h1 : l = 1
  · subst h1
    go_enter Try.func173, Try.ntmps173
    go_wp2
    go_ret
    exact ⟨rfl, rfl⟩
  · by_cases h2 : l = 2
    · subst h2
      go_enter Try.func173, Try.ntmps173
      go_wp2
      go_ret
      exact ⟨rfl, rfl⟩
    · have e : cov l = 1 := by simp [cov, h1, h2]
      rw [e]
      have h1' : (l == 1) = false := by simpa using h1
      have h2' : (l == 2) = false := by simpa using h2
      clear e h1 h2
      go_enter Try.func173, Try.ntmps173
      go_wp2
      go_ret
      exact ⟨rfl, rfl⟩

theorem tablePages_any (l : Int) (w : World) :
    Calls Try.prog 128 #[.int .i64 l] w fun e w' => e = .returned (.int .i64 (16 * cov l)) ∧ w' = w := by
  have hc := entryPages_any l
  have hb := cov_bd l
  generalize cov l = C at *
  go_enter Try.func128, Try.ntmps128
  go_wp2_with (go_at_call 173; refine (hc _).mono ?_; rintro e w1 ⟨rfl, rfl⟩)
  go_ret
  exact ⟨rfl, rfl⟩

set_option maxRecDepth 100000 in
set_option maxHeartbeats 1000000 in
theorem tableAt_any (g : Nat) (zs : List Int) (c F : Nat) (hF : F * 16 + 16 ≤ zs.length) (hlen : zs.length ≤ 8192) (hc : zs.length ≤ c) (w : World) (hg : CRow w g zs) :
    Calls Try.prog 172 #[.agg #[.slice (some ⟨g, 0, none⟩) zs.length c], .int .i64 F] w fun e w' => (∃ T : Array Value, e = .returned (.agg T) ∧ T.size = 16 ∧ ∀ k, k < 16 → T[k]? = some (.int .u64 (zs.getD (F * 16 + k) 0))) ∧ Below w.heap.size w w' := by
  have a1 : (0 : Int) ≤ F * 16 := by omega
  have a2 : (F : Int) * 16 ≤ (F + 1) * 16 := by omega
  have a3 : ((F : Int) + 1) * 16 ≤ c := by omega
  have hgl := hg.lt
  have hat : ∀ w, (Instr.arrayAt 216 (.slice (some ⟨g, F * 16, none⟩) ((F + 1) * 16 - F * 16) (c - F * 16))).run Try.prog w = .ok (.pointer (some ⟨g, F * 16, none⟩)) w := fun w => run_arrayAt w 216 _ 16 _ _ _ Try.underlying216 (by omega)
  have w0 := hg.cell (i := F * 16) (by omega)
  have w1 := hg.cell (i := F * 16 + 1) (by omega)
  have w2 := hg.cell (i := F * 16 + 2) (by omega)
  have w3 := hg.cell (i := F * 16 + 3) (by omega)
  have w4 := hg.cell (i := F * 16 + 4) (by omega)
  have w5 := hg.cell (i := F * 16 + 5) (by omega)
  have w6 := hg.cell (i := F * 16 + 6) (by omega)
  have w7 := hg.cell (i := F * 16 + 7) (by omega)
  have w8 := hg.cell (i := F * 16 + 8) (by omega)
  have w9 := hg.cell (i := F * 16 + 9) (by omega)
  have w10 := hg.cell (i := F * 16 + 10) (by omega)
  have w11 := hg.cell (i := F * 16 + 11) (by omega)
  have w12 := hg.cell (i := F * 16 + 12) (by omega)
  have w13 := hg.cell (i := F * 16 + 13) (by omega)
  have w14 := hg.cell (i := F * 16 + 14) (by omega)
  have w15 := hg.cell (i := F * 16 + 15) (by omega)
  clear hg
  go_enter Try.func172, Try.ntmps172
  go_wp2
  refine bodyPost_ret (v := .agg #[.int .u64 (zs.getD (F * 16 + 0) 0), .int .u64 (zs.getD (F * 16 + 1) 0), .int .u64 (zs.getD (F * 16 + 2) 0), .int .u64 (zs.getD (F * 16 + 3) 0), .int .u64 (zs.getD (F * 16 + 4) 0), .int .u64 (zs.getD (F * 16 + 5) 0), .int .u64 (zs.getD (F * 16 + 6) 0), .int .u64 (zs.getD (F * 16 + 7) 0), .int .u64 (zs.getD (F * 16 + 8) 0), .int .u64 (zs.getD (F * 16 + 9) 0), .int .u64 (zs.getD (F * 16 + 10) 0), .int .u64 (zs.getD (F * 16 + 11) 0), .int .u64 (zs.getD (F * 16 + 12) 0), .int .u64 (zs.getD (F * 16 + 13) 0), .int .u64 (zs.getD (F * 16 + 14) 0), .int .u64 (zs.getD (F * 16 + 15) 0)]) (by simp [results, Try.results172, go_sem]) rfl ⟨⟨_, rfl, rfl, ?_⟩, ((Below.refl _ _).alloc (Nat.le_refl _) _).alloc (by simp) _⟩
  intro k hk
  match k, hk with
  | 0, _ => rfl
  | 1, _ => rfl
  | 2, _ => rfl
  | 3, _ => rfl
  | 4, _ => rfl
  | 5, _ => rfl
  | 6, _ => rfl
  | 7, _ => rfl
  | 8, _ => rfl
  | 9, _ => rfl
  | 10, _ => rfl
  | 11, _ => rfl
  | 12, _ => rfl
  | 13, _ => rfl
  | 14, _ => rfl
  | 15, _ => rfl
  | k + 16, h => omega
end Go.Proofs.Ytnmhkgmmpkjjeab
