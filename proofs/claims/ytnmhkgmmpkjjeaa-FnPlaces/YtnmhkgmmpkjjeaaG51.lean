import Derived.Test.YtnmhkgmmpkjjeaaG29
import Derived.Test.YtnmhkgmmpkjjeaaG37
import Derived.Test.YtnmhkgmmpkjjeaaG48
import Derived.Test.YtnmhkgmmpkjjeaaG50
namespace Go.Proofs.Ytnmhkgmmpkjjeaa
open Go.ChangeShapes Go.WideShapes Go.ChangeAt Go.RowKit
set_option linter.unusedVariables false
set_option maxRecDepth 100000
attribute [local go_sem ↓] Go.wp_at_zero Go.wp_at_succ

theorem hasP_at (ps : List P3) (f l g : Int) (k : Nat) (hk : k < ps.length) (h : (pAt ps k).fr = f ∧ (pAt ps k).lv = l ∧ (pAt ps k).pg = g) : hasP ps f l g = true := by
  unfold hasP
  rw [List.any_eq_true]
  exact ⟨_, mem_pAt ps k hk, by simp [h]⟩
theorem hasP_no (ps : List P3) (f l g : Int) (h : ∀ k, k < ps.length → ¬ ((pAt ps k).fr = f ∧ (pAt ps k).lv = l ∧ (pAt ps k).pg = g)) : hasP ps f l g = false := by
  cases hh : hasP ps f l g
  · rfl
  · unfold hasP at hh
    rw [List.any_eq_true] at hh
    obtain ⟨p, hp, he⟩ := hh
    obtain ⟨k, hk, rfl⟩ := pAt_of_mem _ _ hp
    exact absurd (by simpa [and_assoc] using he) (h k hk)

set_option maxHeartbeats 1000000 in
theorem wHas_any (a : Option Addr) (c b : Nat) (ps : List P3) (f l g : Int) (w : World) (hn : ps.length ≤ 1000) (hr : PRow w b (.slice a ps.length c) ps) :
    Calls Try.prog 25 #[.slice a ps.length c, .int .i64 f, .int .i64 l, .int .i64 g] w fun e w' => e = .returned (.bool (hasP ps f l g)) ∧ Below w.heap.size w w' := by
  obtain ⟨gp, hgp, hpc⟩ := plc_cells hr
  have HPC : Hid _ := hpc
  have HNO : Hid _ := hidP (hasP_no ps f l g)
  have HAT : Hid _ := hidP (hasP_at ps f l g)
  clear hr hpc
  generalize hasP ps f l g = H at *
  go_enter Try.func25, Try.ntmps25
  go_wp2_with fail
  go_loopw [9] (fun iv wr => ∃ k : Nat, k ≤ ps.length ∧ iv = .int .i64 (k : Int) ∧ Hid (∀ j, j < k → ¬ ((pAt ps j).fr = f ∧ (pAt ps j).lv = l ∧ (pAt ps j).pg = g)) ∧ Below w.heap.size w wr) (fun iv _ => ps.length - (intOf iv).toNat)
  case atStart => exact ⟨0, Nat.zero_le _, rfl, hidP (fun j hj => absurd hj (by omega)), Below.refl _ _⟩
  case round =>
    obtain ⟨k, hk, rfl, HF, hb⟩ := hrel
    by_cases hlt : k < ps.length
    · obtain ⟨e1, hgl⟩ := hgp (by omega)
      subst e1
      obtain ⟨c0, c1, c2⟩ := HPC.out k (pAt ps k).fr (pAt ps k).lv (pAt ps k).pg hlt rfl wr hb
      have K1 : (0 : Int) ≤ (k : Int) := by omega
      have K2 : (k : Int) < (ps.length : Int) := by omega
      have HAk := HAT.out k hlt
      have HST : Hid (¬ ((pAt ps k).fr = f ∧ (pAt ps k).lv = l ∧ (pAt ps k).pg = g) → ∀ j, j < k + 1 → ¬ ((pAt ps j).fr = f ∧ (pAt ps j).lv = l ∧ (pAt ps j).pg = g)) := hidP (fun h j hj => by
        by_cases e : j = k
        · subst e; exact h
        · exact HF.out j (by omega))
      have HA2 : Hid _ := HAk
      generalize (pAt ps k).fr = F at *
      generalize (pAt ps k).lv = L at *
      generalize (pAt ps k).pg = P at *
      have HB : Hid (Below _ _ _) := hb
      clear hb HAk hgp
      by_cases h1 : F = f
      · subst h1
        by_cases h2 : L = l
        · subst h2
          by_cases h3 : P = g
          · subst h3
            have HH : Hid (H = true) := hidP (HA2.out ⟨rfl, rfl, rfl⟩)
            go_wp2_with fail
            go_ret
            exact ⟨by rw [HH.out]; rfl, HB.out⟩
          · have b3 : (P == g) = false := by simpa using h3
            have HZ : Hid _ := hidP (HST.out (fun h => h3 h.2.2))
            go_wp2_with fail
            go_roundw
            case rel => exact ⟨k + 1, by omega, by go_num, HZ, HB.out⟩
            case measure => first | (simp [intOf]; done) | (simp [intOf]; omega)
        · have b2 : (L == l) = false := by simpa using h2
          have HZ : Hid _ := hidP (HST.out (fun h => h2 h.2.1))
          go_wp2_with fail
          go_roundw
          case rel => exact ⟨k + 1, by omega, by go_num, HZ, HB.out⟩
          case measure => first | (simp [intOf]; done) | (simp [intOf]; omega)
      · have b1 : (F == f) = false := by simpa using h1
        have HZ : Hid _ := hidP (HST.out (fun h => h1 h.1))
        go_wp2_with fail
        go_roundw
        case rel => exact ⟨k + 1, by omega, by go_num, HZ, HB.out⟩
        case measure => first | (simp [intOf]; done) | (simp [intOf]; omega)
    · have HH : Hid (H = false) := hidP (HNO.out (fun j hj => HF.out j (by omega)))
      have K2 : ¬ (k : Int) < (ps.length : Int) := by omega
      have HB : Hid (Below _ _ _) := hb
      clear hb hgp
      go_wp2_with fail
      go_ret
      exact ⟨by rw [HH.out]; rfl, HB.out⟩
theorem run_field_hit (k o p s : Int) (w : World) : (Instr.field 32 (.agg #[.int .i64 k, .int .i64 o, .int .i64 p, .int .i64 s]) 0).run Try.prog w = .ok (.int .i64 k) w := by rfl

theorem fp_big (a : Option Addr) (n cap : Nat) (hb : 1048576 < n) (hm : n ≤ 9223372036854775807) (w : World) :
    Calls Try.prog 5 #[.slice a n cap] w fun e w' => e = .returned (.bool true) ∧ Below w.heap.size w w' := by
  go_enter Try.func5, Try.ntmps5
  go_wp2
  go_ret
  exact ⟨rfl, Below.refl _ _⟩
end Go.Proofs.Ytnmhkgmmpkjjeaa
