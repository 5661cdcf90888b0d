import Derived.Test.YtnmhkgmmpkjjeaaG49
import Derived.Test.YtnmhkgmmpkjjeaaG13
namespace Go.Proofs.Ytnmhkgmmpkjjeaa
open Go.ChangeShapes Go.WideShapes Go.ChangeAt Go.RowKit
set_option linter.unusedVariables false
attribute [local go_sem ↓] Go.wp_at_zero Go.wp_at_succ

theorem bcellS {W w1 : World} (hb : Below W.heap.size W w1) : (∀ b o, b < W.heap.size → w1.cell? ⟨b, o, none⟩ = W.cell? ⟨b, o, none⟩) ∧ (∀ b o, b < W.heap.size → w1.frozen? ⟨b, o, none⟩ = W.frozen? ⟨b, o, none⟩) :=
  ⟨fun b o h => hb.cell (p := ⟨b, o, none⟩) h, fun b o h => hb.frozen (p := ⟨b, o, none⟩) h⟩

theorem hitClo_any (ba bx g cap : Nat) (n k : Nat) (page P C O R : Int) (G : Bool) (w : World) (hk : k < n) (hn : n ≤ 1048576) (hok : spanOk ⟨P, C, O, R, G⟩ = true)
    (HK : Hid (∀ wX, Below w.heap.size w wX → (wX.cell? ⟨ba, 0, none⟩ = some (.slice (some ⟨g, 0, none⟩) n cap) ∧ wX.cell? ⟨bx, 0, none⟩ = some (.int .i64 page)) ∧ (wX.cell? ⟨g, k * 5, none⟩ = some (.int .i64 P) ∧ wX.cell? ⟨g, k * 5 + 1, none⟩ = some (.int .i64 C) ∧ wX.cell? ⟨g, k * 5 + 2, none⟩ = some (.int .i64 O) ∧ wX.cell? ⟨g, k * 5 + 3, none⟩ = some (.int .i64 R) ∧ wX.cell? ⟨g, k * 5 + 4, none⟩ = some (.bool G)))) :
    Calls Try.prog 132 #[.int .i64 k, .pointer (some ⟨ba, 0, none⟩), .pointer (some ⟨bx, 0, none⟩)] w fun e w' => e = .returned (.bool (decide (page < P + C))) ∧ Below w.heap.size w w' := by
  have hk7 := spanOk_iff.1 hok
  dsimp only at hk7
  obtain ⟨t1, t2, t3, _⟩ := hk7
  have hse := spanEnd_any P C O R G (by omega) (by omega) (by omega) (by omega)
  have L1 : (0 : Int) ≤ (k : Int) := by omega
  have L2 : (k : Int) < (n : Int) := by omega
  clear hok
  go_enter Try.func132, Try.ntmps132
  go_wp2_with fail
  go_region_held3 (fun wX => (wX.cell? ⟨ba, 0, none⟩ = some (.slice (some ⟨g, 0, none⟩) n cap) ∧ wX.cell? ⟨bx, 0, none⟩ = some (.int .i64 page)) ∧ (wX.cell? ⟨g, k * 5, none⟩ = some (.int .i64 P) ∧ wX.cell? ⟨g, k * 5 + 1, none⟩ = some (.int .i64 C) ∧ wX.cell? ⟨g, k * 5 + 2, none⟩ = some (.int .i64 O) ∧ wX.cell? ⟨g, k * 5 + 3, none⟩ = some (.int .i64 R) ∧ wX.cell? ⟨g, k * 5 + 4, none⟩ = some (.bool G)))
    ((refine HK.out _ ?_; repeat (first | exact Below.refl _ _ | with_reducible refine Below.drew ?_ | refine Below.trans ?_ (hb1.mono (by first | omega | (simp <;> omega))))))
    (first | (go_at_call 66; refine (hse _).mono ?_; rintro e w1 ⟨rfl, hb1⟩))
  all_goals
    go_wp2_with fail
    go_ret
    exact ⟨rfl, (Below.refl _ _).drew.trans (hb1.mono (by simp))⟩

set_option maxHeartbeats 2000000 in
theorem search_any (ba bx : Nat) (n : Nat) (p : Nat → Bool) (w : World) (hn : n ≤ 1048576)
    (hf : ∀ wX, Below w.heap.size w wX → ∀ i : Nat, i < n → Calls Try.prog 132 #[.int .i64 i, .pointer (some ⟨ba, 0, none⟩), .pointer (some ⟨bx, 0, none⟩)] wX fun e w' => e = .returned (.bool (p i)) ∧ Below wX.heap.size wX w')
    (hmono : ∀ a b, a ≤ b → b < n → p a = true → p b = true) :
    Calls Try.prog 131 #[.int .i64 n, .func (.func 132) #[] #[.pointer (some ⟨ba, 0, none⟩), .pointer (some ⟨bx, 0, none⟩)]] w fun e w' => ∃ r : Nat, e = .returned (.int .i64 r) ∧ r ≤ n ∧ (∀ t, t < r → p t = false) ∧ (∀ t, r ≤ t → t < n → p t = true) ∧ Below w.heap.size w w' := by
  have HF : Hid _ := hf
  have HM : Hid _ := hmono
  clear hf hmono
  go_enter Try.func131, Try.ntmps131
  go_wp2_with fail
  go_loopw [5, 6] (fun s5 s6 wr => ∃ (lo hi : Nat), s5 = .int .i64 lo ∧ s6 = .int .i64 hi ∧ lo ≤ hi ∧ hi ≤ n ∧ Hid ((∀ t, t < lo → p t = false) ∧ (∀ t, hi ≤ t → t < n → p t = true)) ∧ Below w.heap.size w wr) (fun s5 s6 _ => (intOf s6).toNat - (intOf s5).toNat)
  case atStart => exact ⟨0, n, rfl, rfl, Nat.zero_le _, Nat.le_refl _, ⟨fun t ht => absurd ht (Nat.not_lt_zero _), fun t h1 h2 => by omega⟩, Below.refl _ _⟩
  case round =>
    obtain ⟨lo, hi, rfl, rfl, hlh, hin, I, hb⟩ := hrel
    by_cases hlt : lo < hi
    · have hc := HF.out wr hb ((lo + hi) / 2) (by omega)
      rw [show (((lo + hi) / 2 : Nat) : Int) = ((lo : Int) + (hi : Int)) / 2 by omega] at hc
      have HB : Hid (Below w.heap.size w wr) := hb
      clear hb
      cases hp : p ((lo + hi) / 2) <;> rw [hp] at hc
      · have HP : Hid (p ((lo + hi) / 2) = false) := hp
        clear hp
        go_wp2_with (go_at_call 132; refine hc.mono ?_; rintro e w' ⟨rfl, hb1⟩)
        go_roundw
        case rel =>
          refine ⟨(lo + hi) / 2 + 1, hi, by rw [show ((lo : Int) + (hi : Int)) / 2 + 1 = (((lo + hi) / 2 + 1 : Nat) : Int) by omega], rfl, by omega, hin, ⟨fun t ht => ?_, I.out.2⟩, HB.out.trans (hb1.mono HB.out.size)⟩
          cases h : p t with
          | false => rfl
          | true => have := HM.out t ((lo + hi) / 2) (by omega) (by omega) h; rw [HP.out] at this; cases this
        case measure => simp [intOf]; omega
      · have HP : Hid (p ((lo + hi) / 2) = true) := hp
        clear hp
        go_wp2_with (go_at_call 132; refine hc.mono ?_; rintro e w' ⟨rfl, hb1⟩)
        go_roundw
        case rel =>
          exact ⟨lo, (lo + hi) / 2, rfl, by rw [show ((lo : Int) + (hi : Int)) / 2 = (((lo + hi) / 2 : Nat) : Int) by omega], by omega, by omega, ⟨I.out.1, fun t ht htn => HM.out ((lo + hi) / 2) t ht htn HP.out⟩, HB.out.trans (hb1.mono HB.out.size)⟩
        case measure => simp [intOf]; omega
    · obtain rfl : hi = lo := by omega
      go_wp2_with fail
      go_ret
      exact ⟨hi, rfl, hin, I.out.1, I.out.2, hb⟩

theorem big_any (P C O R : Int) (G : Bool) (page : Int) (w : World) (hok : spanOk ⟨P, C, O, R, G⟩ = true) (hp0 : 0 ≤ page) (hp1 : page < 4096) :
    Calls Try.prog 133 #[.agg #[.int .i64 P, .int .i64 C, .int .i64 O, .int .i64 R, .bool G], .int .i64 page] w fun e w' => e = .returned (.bool (bigB ⟨P, C, O, R, G⟩ page)) ∧ Below w.heap.size w w' := by
  have hk7 := spanOk_iff.1 hok
  dsimp only at hk7
  obtain ⟨t1, t2, t3, t4, t5, _⟩ := hk7
  have hse := spanEnd_any P C O R G (by omega) (by omega) (by omega) (by omega)
  have hm0 : 0 ≤ page % 16 := by omega
  have hm1 : page % 16 < 16 := by omega
  clear hok
  cases G
  · have hr : bigB ⟨P, C, O, R, false⟩ page = false := rfl
    rw [hr]
    clear hr hse
    go_enter Try.func133, Try.ntmps133
    go_wp2_with fail
    go_ret
    exact ⟨rfl, (Below.refl _ _).alloc (Nat.le_refl _) _⟩
  · by_cases h1 : P ≤ page - page % 16
    · have d1 : decide (P ≤ page - page % 16) = true := decide_eq_true h1
      by_cases h2 : page - page % 16 + 16 ≤ P + C
      · have d2 : decide (page - page % 16 + 16 ≤ P + C) = true := decide_eq_true h2
        by_cases h3 : (O + (page - page % 16) - P) % 16 = 0
        · have d3 : ((O + (page - page % 16) - P) % 16 == 0) = true := by rw [h3]; rfl
          have hr : bigB ⟨P, C, O, R, true⟩ page = true := by unfold bigB; dsimp only; rw [decide_eq_true ⟨h1, h2, h3⟩]; rfl
          rw [hr]
          clear hr h3
          go_enter Try.func133, Try.ntmps133
          go_wp2_with (go_at_call 66; refine (hse _).mono ?_; rintro e w1 ⟨rfl, hb1⟩; obtain ⟨hc1, hf1⟩ := bcellS hb1)
          go_ret
          exact ⟨rfl, ((Below.refl _ _).alloc (Nat.le_refl _) _).trans (hb1.mono (by simp))⟩
        · have d3 : ((O + (page - page % 16) - P) % 16 == 0) = false := by simpa using h3
          have hr : bigB ⟨P, C, O, R, true⟩ page = false := by unfold bigB; dsimp only; rw [decide_eq_false (fun h => h3 h.2.2)]; rfl
          rw [hr]
          clear hr h3
          go_enter Try.func133, Try.ntmps133
          go_wp2_with (go_at_call 66; refine (hse _).mono ?_; rintro e w1 ⟨rfl, hb1⟩; obtain ⟨hc1, hf1⟩ := bcellS hb1)
          go_ret
          exact ⟨rfl, ((Below.refl _ _).alloc (Nat.le_refl _) _).trans (hb1.mono (by simp))⟩
      · have d2 : decide (page - page % 16 + 16 ≤ P + C) = false := decide_eq_false h2
        have hr : bigB ⟨P, C, O, R, true⟩ page = false := by unfold bigB; dsimp only; rw [decide_eq_false (fun h => h2 h.2.1)]; rfl
        rw [hr]
        clear hr h2
        go_enter Try.func133, Try.ntmps133
        go_wp2_with (go_at_call 66; refine (hse _).mono ?_; rintro e w1 ⟨rfl, hb1⟩; obtain ⟨hc1, hf1⟩ := bcellS hb1)
        go_ret
        exact ⟨rfl, ((Below.refl _ _).alloc (Nat.le_refl _) _).trans (hb1.mono (by simp))⟩
    · have d1 : decide (P ≤ page - page % 16) = false := decide_eq_false h1
      have hr : bigB ⟨P, C, O, R, true⟩ page = false := by unfold bigB; dsimp only; rw [decide_eq_false (fun h => h1 h.1)]; rfl
      rw [hr]
      clear hr h1 hse
      go_enter Try.func133, Try.ntmps133
      go_wp2_with fail
      go_ret
      exact ⟨rfl, (Below.refl _ _).alloc (Nat.le_refl _) _⟩

set_option maxHeartbeats 2000000 in
theorem l4Big_any (P C O R : Int) (G : Bool) (page : Int) (w : World) (hok : spanOk ⟨P, C, O, R, G⟩ = true) (hp0 : 0 ≤ page) (hp1 : page < 4096) :
    Calls Try.prog 135 #[.agg #[.int .i64 P, .int .i64 C, .int .i64 O, .int .i64 R, .bool G], .int .i64 page] w fun e w' => e = .returned (.bool (bigB ⟨P, C, O, R, G⟩ page)) ∧ Below w.heap.size w w' := by
  have hk7 := spanOk_iff.1 hok
  dsimp only at hk7
  obtain ⟨t1, t2, t3, t4, t5, _⟩ := hk7
  have hm0 : 0 ≤ page % 16 := by omega
  have hm1 : page % 16 < 16 := by omega
  clear hok
  cases G
  · have hr : bigB ⟨P, C, O, R, false⟩ page = false := rfl
    rw [hr]
    clear hr
    go_enter Try.func135, Try.ntmps135
    go_wp2_with fail
    go_ret
    exact ⟨rfl, (Below.refl _ _).alloc (Nat.le_refl _) _⟩
  · obtain ⟨wb, hwb⟩ : ∃ wb, wb = w.alloc (.cells #[.int .i64 P, .int .i64 C, .int .i64 O, .int .i64 R, .bool true] 125) := ⟨_, rfl⟩
    have hbb : Below w.heap.size w wb := by rw [hwb]; exact (Below.refl _ _).alloc (Nat.le_refl _) _
    have q0 : wb.cell? ⟨w.heap.size, 0, none⟩ = some (.int .i64 P) := by rw [hwb]; simp [go_sem]
    have q1 : wb.cell? ⟨w.heap.size, 1, none⟩ = some (.int .i64 C) := by rw [hwb]; simp [go_sem]
    have q2 : wb.cell? ⟨w.heap.size, 2, none⟩ = some (.int .i64 O) := by rw [hwb]; simp [go_sem]
    have HWB : Hid (wb = _) := hwb
    have HBB : Hid (Below w.heap.size w wb) := hbb
    clear hwb hbb
    obtain ⟨F, hF⟩ : ∃ F, F = page - page % 16 := ⟨_, rfl⟩
    have f0 : 0 ≤ F := by omega
    have f1 : F < 4096 := by omega
    have HBG : Hid (bigB ⟨P, C, O, R, true⟩ page = decide (P ≤ F ∧ F + 16 ≤ P + C ∧ (O + F - P) % 16 = 0)) := by rw [hF]; rfl
    go_enter Try.func135, Try.ntmps135
    go_wp2_with fail
    rw [← HWB.out]
    rw [← hF]
    clear hF
    go_loopw [6] (fun i wr => ∃ k : Nat, k ≤ 16 ∧ i = .int .i64 k ∧ Hid (∀ j : Nat, j < k → P ≤ F + j ∧ F + j < P + C) ∧ wr = wb) (fun i _ => 16 - (intOf i).toNat)
    case atStart => exact ⟨0, by omega, rfl, fun j hj => absurd hj (by omega), rfl⟩
    case round =>
      obtain ⟨k, hk, rfl, hall, rfl⟩ := hrel
      by_cases hlt : k < 16
      · have L1 : (k : Int) < 16 := by omega
        have L2 : (0 : Int) ≤ (k : Int) := by omega
        by_cases h1 : F + k < P
        · have d1 : decide (F + (k : Int) < P) = true := decide_eq_true h1
          have hr : bigB ⟨P, C, O, R, true⟩ page = false := by rw [HBG.out]; exact decide_eq_false (by omega)
          have HR : Hid _ := hr
          clear hr
          go_wp2_with fail
          go_ret
          exact ⟨by rw [HR.out]; rfl, HBB.out⟩
        · have d1 : decide (F + (k : Int) < P) = false := decide_eq_false h1
          by_cases h2 : P + C ≤ F + k
          · have d2 : decide (P + C ≤ F + (k : Int)) = true := decide_eq_true h2
            have hr : bigB ⟨P, C, O, R, true⟩ page = false := by rw [HBG.out]; exact decide_eq_false (by omega)
            have HR : Hid _ := hr
            clear hr
            go_wp2_with fail
            go_ret
            exact ⟨by rw [HR.out]; rfl, HBB.out⟩
          · have d2 : decide (P + C ≤ F + (k : Int)) = false := decide_eq_false h2
            go_wp2_with fail
            go_roundw
            case rel =>
              refine ⟨k + 1, by omega, by go_num, fun j hj => ?_, by first | rfl | trivial⟩
              by_cases e : j = k
              · rw [e]; omega
              · exact hall.out j (by omega)
            case measure => simp [intOf]; omega
      · obtain rfl : k = 16 := by omega
        have a0 := hall.out 0 (by omega)
        have a15 := hall.out 15 (by omega)
        have hP : P ≤ F := by omega
        have hE : F + 16 ≤ P + C := by omega
        by_cases h3 : (O + F - P) % 16 = 0
        · have d3 : ((O + F - P) % 16 == 0) = true := by rw [h3]; rfl
          have hr : bigB ⟨P, C, O, R, true⟩ page = true := by rw [HBG.out]; exact decide_eq_true ⟨hP, hE, h3⟩
          have HR : Hid _ := hr
          clear hr hall a0 a15
          go_wp2_with fail
          go_ret
          exact ⟨by rw [HR.out]; rfl, HBB.out⟩
        · have d3 : ((O + F - P) % 16 == 0) = false := by simpa using h3
          have hr : bigB ⟨P, C, O, R, true⟩ page = false := by rw [HBG.out]; exact decide_eq_false (fun h => h3 h.2.2)
          have HR : Hid _ := hr
          clear hr hall a0 a15
          go_wp2_with fail
          go_ret
          exact ⟨by rw [HR.out]; rfl, HBB.out⟩
end Go.Proofs.Ytnmhkgmmpkjjeaa
