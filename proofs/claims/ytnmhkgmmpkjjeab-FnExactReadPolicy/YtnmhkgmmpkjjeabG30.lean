import Derived.Test.YtnmhkgmmpkjjeabG29
namespace Go.Proofs.Ytnmhkgmmpkjjeab
open Go.ChangeShapes Go.WideShapes Go.ChangeAt Go.RowKit
set_option linter.unusedVariables false
set_option linter.unusedSimpArgs false
set_option maxRecDepth 100000
attribute [local go_sem ↓] Go.wp_at_zero Go.wp_at_succ
attribute [local go_sem] bs_size bs_cAt bs_app bs_mk bs_cut bs_list

/-! Words, as the program reads them. -/
theorem permW_any (x : Txt) (w : World) : Calls Try.prog 224 #[.string (bs x)] w fun e w' => e = .returned (.int .i64 (permL x)) ∧ w' = w := by
  by_cases h0 : x = [114]
  · subst h0
    go_enter Try.func224, Try.ntmps224
    go_wp2_with fail
    go_ret
    exact ⟨rfl, rfl⟩
  by_cases h1 : x = [119]
  · subst h1
    go_enter Try.func224, Try.ntmps224
    go_wp2_with fail
    go_ret
    exact ⟨rfl, rfl⟩
  by_cases h2 : x = [120]
  · subst h2
    go_enter Try.func224, Try.ntmps224
    go_wp2_with fail
    go_ret
    exact ⟨rfl, rfl⟩
  by_cases h3 : x = [114, 119]
  · subst h3
    go_enter Try.func224, Try.ntmps224
    go_wp2_with fail
    go_ret
    exact ⟨rfl, rfl⟩
  by_cases h4 : x = [114, 120]
  · subst h4
    go_enter Try.func224, Try.ntmps224
    go_wp2_with fail
    go_ret
    exact ⟨rfl, rfl⟩
  by_cases h5 : x = [119, 120]
  · subst h5
    go_enter Try.func224, Try.ntmps224
    go_wp2_with fail
    go_ret
    exact ⟨rfl, rfl⟩
  by_cases h6 : x = [114, 119, 120]
  · subst h6
    go_enter Try.func224, Try.ntmps224
    go_wp2_with fail
    go_ret
    exact ⟨rfl, rfl⟩
  have HR : Hid (permL x = 0) := hidP (by unfold permL; simp [h0, h1, h2, h3, h4, h5, h6])
  have e0 : (x == [114]) = false := by simpa using h0
  have e1 : (x == [119]) = false := by simpa using h1
  have e2 : (x == [120]) = false := by simpa using h2
  have e3 : (x == [114, 119]) = false := by simpa using h3
  have e4 : (x == [114, 120]) = false := by simpa using h4
  have e5 : (x == [119, 120]) = false := by simpa using h5
  have e6 : (x == [114, 119, 120]) = false := by simpa using h6
  clear h0 h1 h2 h3 h4 h5 h6
  go_enter Try.func224, Try.ntmps224
  go_wp2_with fail
  go_ret
  exact ⟨by rw [HR.out]; rfl, rfl⟩
theorem isName_any (x : Txt) (w : World) (h : 0 < x.length) (hl : x.length ≤ 20000) : Calls Try.prog 231 #[.string (bs x)] w fun e w' => e = .returned (.bool (nameL x)) ∧ w' = w := by
  by_cases h0 : x = [111, 98, 106, 101, 99, 116]
  · subst h0
    go_enter Try.func231, Try.ntmps231
    go_wp2_with fail
    go_ret
    exact ⟨rfl, rfl⟩
  by_cases h1 : x = [114, 101, 103, 105, 111, 110]
  · subst h1
    go_enter Try.func231, Try.ntmps231
    go_wp2_with fail
    go_ret
    exact ⟨rfl, rfl⟩
  by_cases h2 : x = [103, 117, 97, 114, 100]
  · subst h2
    go_enter Try.func231, Try.ntmps231
    go_wp2_with fail
    go_ret
    exact ⟨rfl, rfl⟩
  by_cases h3 : x = [97, 116]
  · subst h3
    go_enter Try.func231, Try.ntmps231
    go_wp2_with fail
    go_ret
    exact ⟨rfl, rfl⟩
  by_cases h4 : x = [115, 104, 97, 114, 101, 100]
  · subst h4
    go_enter Try.func231, Try.ntmps231
    go_wp2_with fail
    go_ret
    exact ⟨rfl, rfl⟩
  by_cases h5 : x = [104, 117, 103, 101]
  · subst h5
    go_enter Try.func231, Try.ntmps231
    go_wp2_with fail
    go_ret
    exact ⟨rfl, rfl⟩
  have hk : isKw x = false := by unfold isKw; simp [h0, h1, h2, h3, h4, h5]
  have e0 : (x == [111, 98, 106, 101, 99, 116]) = false := by simpa using h0
  have e1 : (x == [114, 101, 103, 105, 111, 110]) = false := by simpa using h1
  have e2 : (x == [103, 117, 97, 114, 100]) = false := by simpa using h2
  have e3 : (x == [97, 116]) = false := by simpa using h3
  have e4 : (x == [115, 104, 97, 114, 101, 100]) = false := by simpa using h4
  have e5 : (x == [104, 117, 103, 101]) = false := by simpa using h5
  clear h0 h1 h2 h3 h4 h5
  have L0 : (0 : Int) < (x.length : Int) := by omega
  have t1 := isLetter_any (cAt x 0) w
  by_cases h16 : x.length ≤ 16
  · have L1 : (x.length : Int) ≤ 16 := by omega
    have HR : Hid (nameL x = isLow (cAt x 0)) := hidP (by unfold nameL; rw [hk]; simp [h, h16])
    clear hk
    go_enter Try.func231, Try.ntmps231
    go_wp2_with fail
    refine t1.mono ?_
    rintro e w1 ⟨rfl, rfl⟩
    go_wp2_with fail
    go_ret
    exact ⟨by rw [HR.out]; rfl, rfl⟩
  · have L1 : ¬ (x.length : Int) ≤ 16 := by omega
    have HR : Hid (nameL x = false) := hidP (by unfold nameL; rw [hk]; simp [h16])
    clear hk t1
    go_enter Try.func231, Try.ntmps231
    go_wp2_with fail
    go_ret
    exact ⟨by rw [HR.out]; rfl, rfl⟩
theorem name_none (b at_ : Nat) (s : SlE) (w : World) (h : PW w b at_ s []) : Calls Try.prog 218 #[.pointer (some ⟨b, 0, none⟩)] w fun e w' => e = .panicked [{ v := diagV 4 (at_ : Int), recovered := false }] ∧ w' = w := by
  have t1 := next_no b at_ s w h
  clear h
  go_enter Try.func218, Try.ntmps218
  go_wp2_with fail
  refine t1.mono ?_
  rintro e w1 ⟨rfl, rfl⟩
  exact ⟨rfl, rfl, rfl⟩
theorem name_yes (b at_ : Nat) (s : SlE) (x : Txt) (ws : List Txt) (w : World) (h : PW w b at_ s (x :: ws)) (h0 : 0 < x.length) (hl : x.length ≤ 20000) (hn : nameL x = true) : Calls Try.prog 218 #[.pointer (some ⟨b, 0, none⟩)] w fun e w' => e = .returned (.string (bs x)) ∧ TookW w b at_ ws w' := by
  have t1 := next_yes b at_ s x ws w h
  have HN : Hid (∀ wX, Calls Try.prog 231 #[.string (bs x)] wX fun e w' => e = .returned (.bool true) ∧ w' = wX) := hidP (fun wX => by rw [← hn]; exact isName_any x wX h0 hl)
  have HF : Hid (∀ wX, Calls Try.prog 204 #[.pointer (some ⟨b, 0, none⟩), .bool false, .int .i64 4] wX fun e w' => e = .returned (.tuple #[]) ∧ w' = wX) := hidP (fun wX => refuse_no b 4 wX)
  clear h hn
  go_enter Try.func218, Try.ntmps218
  go_wp2_with fail
  refine t1.mono ?_
  rintro e w1 ⟨rfl, htk⟩
  have HTK : Hid (TookW w b at_ ws w1) := htk
  have t2 := HN.out w1
  have t3 := HF.out w1
  clear t1 htk HN HF
  go_wp2_with fail
  refine t2.mono ?_
  rintro e w2 ⟨rfl, ew⟩
  obtain rfl : w1 = w2 := ew.symm
  clear t2
  go_wp2_with fail
  refine t3.mono ?_
  rintro e w3 ⟨rfl, ew⟩
  obtain rfl : w1 = w3 := ew.symm
  clear t3
  go_wp2_with fail
  go_ret
  exact ⟨rfl, HTK.out⟩
theorem name_no (b at_ : Nat) (s : SlE) (x : Txt) (ws : List Txt) (w : World) (h : PW w b at_ s (x :: ws)) (h0 : 0 < x.length) (hl : x.length ≤ 20000) (hn : nameL x = false) : Calls Try.prog 218 #[.pointer (some ⟨b, 0, none⟩)] w fun e w' => e = .panicked [{ v := diagV 4 (at_ : Int), recovered := false }] ∧ TookW w b at_ ws w' := by
  have t1 := next_yes b at_ s x ws w h
  have HN : Hid (∀ wX, Calls Try.prog 231 #[.string (bs x)] wX fun e w' => e = .returned (.bool false) ∧ w' = wX) := hidP (fun wX => by rw [← hn]; exact isName_any x wX h0 hl)
  clear h hn
  go_enter Try.func218, Try.ntmps218
  go_wp2_with fail
  refine t1.mono ?_
  rintro e w1 ⟨rfl, htk⟩
  have HTK : Hid (TookW w b at_ ws w1) := htk
  have t2 := HN.out w1
  have t3 : Hid (Calls Try.prog 204 #[.pointer (some ⟨b, 0, none⟩), .bool true, .int .i64 4] w1 fun e w' => e = .panicked [{ v := diagV 4 (at_ : Int), recovered := false }] ∧ w' = w1) := hidP (by obtain ⟨s', _, hp⟩ := htk; exact refuse_yes b 4 at_ w1 hp.pa)
  clear t1 htk HN
  go_wp2_with fail
  refine t2.mono ?_
  rintro e w2 ⟨rfl, ew⟩
  obtain rfl : w1 = w2 := ew.symm
  clear t2
  go_wp2_with fail
  refine t3.out.mono ?_
  rintro e w3 ⟨rfl, ew⟩
  obtain rfl : w1 = w3 := ew.symm
  exact ⟨rfl, rfl, HTK.out⟩
end Go.Proofs.Ytnmhkgmmpkjjeab
