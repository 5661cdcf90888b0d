import Derived.Test.YtnmhkgmmpkjjeaaG21
namespace Go.Proofs.Ytnmhkgmmpkjjeaa
open Go.ChangeShapes Go.WideShapes Go.ChangeAt Go.RowKit
set_option linter.unusedVariables false
set_option linter.unusedSimpArgs false
set_option maxRecDepth 100000
attribute [local go_sem ↓] Go.wp_at_zero Go.wp_at_succ
attribute [local go_sem] bs_size bs_cAt bs_app bs_mk bs_cut bs_list

/-! The words that are left of a statement, in the policy's box at block b. -/
structure WSub (w : World) (b : Nat) (s : SlE) (ws : List Txt) : Prop where
  n : s.n = ws.length
  l : ws.length ≤ 20000
  c : s.n ≤ s.c
  m : s.c ≤ maxLen
  r : 0 < ws.length → ∃ g off, s.a = some ⟨g, off, none⟩ ∧ g ≠ b ∧ ∀ i, i < ws.length → w.cell? ⟨g, off + i, none⟩ = some (.string (bs (tAt ws i)))
structure PW (w : World) (b : Nat) (at_ : Nat) (s : SlE) (ws : List Txt) : Prop where
  pa : w.cell? ⟨b, 4, none⟩ = some (.int .i64 (at_ : Int))
  ps : w.cell? ⟨b, 5, none⟩ = some s.v
  pf : w.frozen? ⟨b, 5, none⟩ = false
  pw : WSub w b s ws
theorem refuse_no (b : Nat) (c : Int) (w : World) : Calls Try.prog 175 #[.pointer (some ⟨b, 0, none⟩), .bool false, .int .i64 c] w fun e w' => e = .returned (.tuple #[]) ∧ w' = w := by
  go_enter Try.func175, Try.ntmps175
  go_wp2_with fail
  go_end0
  exact ⟨rfl, rfl⟩
theorem refuse_yes (b : Nat) (c : Int) (at_ : Nat) (w : World) (h : w.cell? ⟨b, 4, none⟩ = some (.int .i64 (at_ : Int))) : Calls Try.prog 175 #[.pointer (some ⟨b, 0, none⟩), .bool true, .int .i64 c] w fun e w' => e = .panicked [{ v := diagV c (at_ : Int), recovered := false }] ∧ w' = w := by
  go_enter Try.func175, Try.ntmps175
  go_wp2_with fail
  exact ⟨rfl, rfl, rfl⟩
theorem next_no (b at_ : Nat) (s : SlE) (w : World) (h : PW w b at_ s []) : Calls Try.prog 171 #[.pointer (some ⟨b, 0, none⟩)] w fun e w' => e = .panicked [{ v := diagV 4 (at_ : Int), recovered := false }] ∧ w' = w := by
  have t1 := refuse_yes b 4 at_ w h.pa
  have h5 := h.ps
  obtain ⟨a, n, c⟩ := s
  have hn : n = 0 := h.pw.n
  subst hn
  clear h
  go_enter Try.func171, Try.ntmps171
  go_wp2_with fail
  refine t1.mono ?_
  rintro e w1 ⟨rfl, rfl⟩
  exact ⟨rfl, rfl, rfl⟩
theorem PW.tail {w : World} {b at_ : Nat} {s : SlE} {x : Txt} {ws : List Txt} (h : PW w b at_ s (x :: ws)) : ∃ g off c, s = ⟨some ⟨g, off, none⟩, ws.length + 1, c⟩ ∧ ws.length + 1 ≤ 20000 ∧ ws.length + 1 ≤ c ∧ c ≤ maxLen ∧ w.cell? ⟨b, 4, none⟩ = some (.int .i64 (at_ : Int)) ∧ w.cell? ⟨b, 5, none⟩ = some (.slice (some ⟨g, off, none⟩) (ws.length + 1) c) ∧ w.frozen? ⟨b, 5, none⟩ = false ∧ w.cell? ⟨g, off, none⟩ = some (.string (bs x)) ∧
    ∀ o : Nat, (0 < ws.length → o = off + 1) → PW (w.setCell ⟨b, 5, none⟩ (.slice (some ⟨g, o, none⟩) ws.length (c - 1))) b at_ ⟨some ⟨g, o, none⟩, ws.length, c - 1⟩ ws := by
  have h4 := h.pa
  have h5 := h.ps
  have hf := h.pf
  have hl := h.pw.l
  have hcn := h.pw.c
  have hcm := h.pw.m
  obtain ⟨g, off, ha, hgb, hcl⟩ := h.pw.r (by simp)
  obtain ⟨a, n, c⟩ := s
  have hn : n = ws.length + 1 := h.pw.n
  try dsimp only at ha hcn hcm
  subst ha hn
  simp only [List.length_cons] at hl
  refine ⟨g, off, c, rfl, hl, hcn, hcm, h4, h5, hf, hcl 0 (by simp), fun o ho => ?_⟩
  refine ⟨?_, ?_, ?_, ⟨rfl, by omega, by show ws.length ≤ c - 1; omega, by show c - 1 ≤ maxLen; omega, fun h0 => ⟨g, o, rfl, hgb, fun i hi => ?_⟩⟩⟩
  · rw [World.cell?_setCell_other _ _ _ _ (by intro e; injection e with _ e; cases e)]; exact h4
  · exact World.cell?_setCell_same _ _ _ h5
  · rw [World.frozen?_setCell]; exact hf
  · rw [World.cell?_setCell_other _ _ _ _ (by intro e; injection e with e; exact hgb e.symm), ho h0]
    have := hcl (i + 1) (by simp; omega)
    rw [show off + (i + 1) = off + 1 + i by omega] at this
    exact this
def TookW (w : World) (b at_ : Nat) (ws : List Txt) (w' : World) : Prop := ∃ s' : SlE, w' = w.setCell ⟨b, 5, none⟩ s'.v ∧ PW w' b at_ s' ws
theorem next_yes (b at_ : Nat) (s : SlE) (x : Txt) (ws : List Txt) (w : World) (h : PW w b at_ s (x :: ws)) : Calls Try.prog 171 #[.pointer (some ⟨b, 0, none⟩)] w fun e w' => e = .returned (.string (bs x)) ∧ TookW w b at_ ws w' := by
  have t1 := refuse_no b 4 w
  obtain ⟨g, off, c, rfl, hl, hcn, hcm, h4, h5, hf, hx, hp⟩ := h.tail
  have HP : Hid (∀ o : Nat, (0 < ws.length → o = off + 1) → PW (w.setCell ⟨b, 5, none⟩ (.slice (some ⟨g, o, none⟩) ws.length (c - 1))) b at_ ⟨some ⟨g, o, none⟩, ws.length, c - 1⟩ ws) := hp
  have hz : ((ws.length : Int) + 1 == 0) = false := by simp; omega
  have L1 : (0 : Int) < (ws.length : Int) + 1 := by omega
  have L2 : (1 : Int) ≤ (ws.length : Int) + 1 := by omega
  clear h hp
  go_enter Try.func171, Try.ntmps171
  go_wp2_with fail
  refine t1.mono ?_
  rintro e w1 ⟨rfl, ew⟩
  obtain rfl : w = w1 := ew.symm
  clear t1
  by_cases hc1 : c - 1 = 0
  · have hw0 : ws.length = 0 := by omega
    go_wp2_with fail
    go_ret
    have := HP.out off (by omega)
    rw [hw0, hc1] at this
    exact ⟨rfl, ⟨some ⟨g, off, none⟩, 0, 0⟩, rfl, this⟩
  · go_wp2_with fail
    go_ret
    exact ⟨rfl, _, rfl, HP.out (off + 1) (fun _ => rfl)⟩
theorem end_yes (b at_ : Nat) (s : SlE) (w : World) (h : PW w b at_ s []) : Calls Try.prog 197 #[.pointer (some ⟨b, 0, none⟩)] w fun e w' => e = .returned (.tuple #[]) ∧ w' = w := by
  have t1 := refuse_no b 4 w
  have h5 := h.ps
  obtain ⟨a, n, c⟩ := s
  have hn : n = 0 := h.pw.n
  subst hn
  clear h
  go_enter Try.func197, Try.ntmps197
  go_wp2_with fail
  refine t1.mono ?_
  rintro e w1 ⟨rfl, rfl⟩
  go_wp2_with fail
  go_end0
  exact ⟨rfl, rfl⟩
theorem end_no (b at_ : Nat) (s : SlE) (ws : List Txt) (w : World) (h : PW w b at_ s ws) (h0 : 0 < ws.length) : Calls Try.prog 197 #[.pointer (some ⟨b, 0, none⟩)] w fun e w' => e = .panicked [{ v := diagV 4 (at_ : Int), recovered := false }] ∧ w' = w := by
  have t1 := refuse_yes b 4 at_ w h.pa
  have h5 := h.ps
  obtain ⟨a, n, c⟩ := s
  have hn : n = ws.length := h.pw.n
  subst hn
  have hz : decide ((0 : Int) < (ws.length : Int)) = true := by simp; omega
  have hz2 : (0 : Int) < (ws.length : Int) := by omega
  clear h
  go_enter Try.func197, Try.ntmps197
  go_wp2_with fail
  refine t1.mono ?_
  rintro e w1 ⟨rfl, rfl⟩
  exact ⟨rfl, rfl, rfl⟩
theorem option_none (b at_ : Nat) (s : SlE) (x : Txt) (w : World) (h : PW w b at_ s []) : Calls Try.prog 196 #[.pointer (some ⟨b, 0, none⟩), .string (bs x)] w fun e w' => e = .returned (.bool false) ∧ w' = w := by
  have h5 := h.ps
  obtain ⟨a, n, c⟩ := s
  have hn : n = 0 := h.pw.n
  subst hn
  clear h
  go_enter Try.func196, Try.ntmps196
  go_wp2_with fail
  go_ret
  exact ⟨rfl, rfl⟩
theorem option_no (b at_ : Nat) (s : SlE) (x y : Txt) (ws : List Txt) (w : World) (h : PW w b at_ s (y :: ws)) (hxy : y ≠ x) : Calls Try.prog 196 #[.pointer (some ⟨b, 0, none⟩), .string (bs x)] w fun e w' => e = .returned (.bool false) ∧ w' = w := by
  obtain ⟨g, off, c, rfl, hl, hcn, hcm, h4, h5, hf, hx, hp⟩ := h.tail
  have HP : Hid (∀ o : Nat, (0 < ws.length → o = off + 1) → PW (w.setCell ⟨b, 5, none⟩ (.slice (some ⟨g, o, none⟩) ws.length (c - 1))) b at_ ⟨some ⟨g, o, none⟩, ws.length, c - 1⟩ ws) := hp
  have hz : ((ws.length : Int) + 1 == 0) = false := by simp; omega
  have L1 : (0 : Int) < (ws.length : Int) + 1 := by omega
  have L2 : (1 : Int) ≤ (ws.length : Int) + 1 := by omega
  clear h hp
  have hb : (y == x) = false := by simpa using hxy
  clear HP
  go_enter Try.func196, Try.ntmps196
  go_wp2_with fail
  go_ret
  exact ⟨rfl, rfl⟩
theorem option_yes (b at_ : Nat) (s : SlE) (x : Txt) (ws : List Txt) (w : World) (h : PW w b at_ s (x :: ws)) : Calls Try.prog 196 #[.pointer (some ⟨b, 0, none⟩), .string (bs x)] w fun e w' => e = .returned (.bool true) ∧ TookW w b at_ ws w' := by
  obtain ⟨g, off, c, rfl, hl, hcn, hcm, h4, h5, hf, hx, hp⟩ := h.tail
  have HP : Hid (∀ o : Nat, (0 < ws.length → o = off + 1) → PW (w.setCell ⟨b, 5, none⟩ (.slice (some ⟨g, o, none⟩) ws.length (c - 1))) b at_ ⟨some ⟨g, o, none⟩, ws.length, c - 1⟩ ws) := hp
  have hz : ((ws.length : Int) + 1 == 0) = false := by simp; omega
  have L1 : (0 : Int) < (ws.length : Int) + 1 := by omega
  have L2 : (1 : Int) ≤ (ws.length : Int) + 1 := by omega
  clear h hp
  have hb : (x == x) = true := by simp
  go_enter Try.func196, Try.ntmps196
  by_cases hc1 : c - 1 = 0
  · have hw0 : ws.length = 0 := by omega
    go_wp2_with fail
    go_ret
    have := HP.out off (by omega)
    rw [hw0, hc1] at this
    exact ⟨rfl, ⟨some ⟨g, off, none⟩, 0, 0⟩, rfl, this⟩
  · go_wp2_with fail
    go_ret
    exact ⟨rfl, _, rfl, HP.out (off + 1) (fun _ => rfl)⟩

/-! Words, as the program reads them. -/
theorem permW_any (x : Txt) (w : World) : Calls Try.prog 200 #[.string (bs x)] w fun e w' => e = .returned (.int .i64 (permL x)) ∧ w' = w := by
  by_cases h0 : x = [114]
  · subst h0
    go_enter Try.func200, Try.ntmps200
    go_wp2_with fail
    go_ret
    exact ⟨rfl, rfl⟩
  by_cases h1 : x = [119]
  · subst h1
    go_enter Try.func200, Try.ntmps200
    go_wp2_with fail
    go_ret
    exact ⟨rfl, rfl⟩
  by_cases h2 : x = [120]
  · subst h2
    go_enter Try.func200, Try.ntmps200
    go_wp2_with fail
    go_ret
    exact ⟨rfl, rfl⟩
  by_cases h3 : x = [114, 119]
  · subst h3
    go_enter Try.func200, Try.ntmps200
    go_wp2_with fail
    go_ret
    exact ⟨rfl, rfl⟩
  by_cases h4 : x = [114, 120]
  · subst h4
    go_enter Try.func200, Try.ntmps200
    go_wp2_with fail
    go_ret
    exact ⟨rfl, rfl⟩
  by_cases h5 : x = [119, 120]
  · subst h5
    go_enter Try.func200, Try.ntmps200
    go_wp2_with fail
    go_ret
    exact ⟨rfl, rfl⟩
  by_cases h6 : x = [114, 119, 120]
  · subst h6
    go_enter Try.func200, Try.ntmps200
    go_wp2_with fail
    go_ret
    exact ⟨rfl, rfl⟩
  have HR : Hid (permL x = 0) := hidP (by unfold permL; simp [h0, h1, h2, h3, h4, h5, h6])
  have e0 : (x == [114]) = false := by simpa using h0
  have e1 : (x == [119]) = false := by simpa using h1
  have e2 : (x == [120]) = false := by simpa using h2
  have e3 : (x == [114, 119]) = false := by simpa using h3
  have e4 : (x == [114, 120]) = false := by simpa using h4
  have e5 : (x == [119, 120]) = false := by simpa using h5
  have e6 : (x == [114, 119, 120]) = false := by simpa using h6
  clear h0 h1 h2 h3 h4 h5 h6
  go_enter Try.func200, Try.ntmps200
  go_wp2_with fail
  go_ret
  exact ⟨by rw [HR.out]; rfl, rfl⟩
theorem isName_any (x : Txt) (w : World) (h : 0 < x.length) (hl : x.length ≤ 20000) : Calls Try.prog 208 #[.string (bs x)] w fun e w' => e = .returned (.bool (nameL x)) ∧ w' = w := by
  by_cases h0 : x = [111, 98, 106, 101, 99, 116]
  · subst h0
    go_enter Try.func208, Try.ntmps208
    go_wp2_with fail
    go_ret
    exact ⟨rfl, rfl⟩
  by_cases h1 : x = [114, 101, 103, 105, 111, 110]
  · subst h1
    go_enter Try.func208, Try.ntmps208
    go_wp2_with fail
    go_ret
    exact ⟨rfl, rfl⟩
  by_cases h2 : x = [103, 117, 97, 114, 100]
  · subst h2
    go_enter Try.func208, Try.ntmps208
    go_wp2_with fail
    go_ret
    exact ⟨rfl, rfl⟩
  by_cases h3 : x = [97, 116]
  · subst h3
    go_enter Try.func208, Try.ntmps208
    go_wp2_with fail
    go_ret
    exact ⟨rfl, rfl⟩
  by_cases h4 : x = [115, 104, 97, 114, 101, 100]
  · subst h4
    go_enter Try.func208, Try.ntmps208
    go_wp2_with fail
    go_ret
    exact ⟨rfl, rfl⟩
  by_cases h5 : x = [104, 117, 103, 101]
  · subst h5
    go_enter Try.func208, Try.ntmps208
    go_wp2_with fail
    go_ret
    exact ⟨rfl, rfl⟩
  have hk : isKw x = false := by unfold isKw; simp [h0, h1, h2, h3, h4, h5]
  have e0 : (x == [111, 98, 106, 101, 99, 116]) = false := by simpa using h0
  have e1 : (x == [114, 101, 103, 105, 111, 110]) = false := by simpa using h1
  have e2 : (x == [103, 117, 97, 114, 100]) = false := by simpa using h2
  have e3 : (x == [97, 116]) = false := by simpa using h3
  have e4 : (x == [115, 104, 97, 114, 101, 100]) = false := by simpa using h4
  have e5 : (x == [104, 117, 103, 101]) = false := by simpa using h5
  clear h0 h1 h2 h3 h4 h5
  have L0 : (0 : Int) < (x.length : Int) := by omega
  have t1 := isLetter_any (cAt x 0) w
  by_cases h16 : x.length ≤ 16
  · have L1 : (x.length : Int) ≤ 16 := by omega
    have HR : Hid (nameL x = isLow (cAt x 0)) := hidP (by unfold nameL; rw [hk]; simp [h, h16])
    clear hk
    go_enter Try.func208, Try.ntmps208
    go_wp2_with fail
    refine t1.mono ?_
    rintro e w1 ⟨rfl, rfl⟩
    go_wp2_with fail
    go_ret
    exact ⟨by rw [HR.out]; rfl, rfl⟩
  · have L1 : ¬ (x.length : Int) ≤ 16 := by omega
    have HR : Hid (nameL x = false) := hidP (by unfold nameL; rw [hk]; simp [h16])
    clear hk t1
    go_enter Try.func208, Try.ntmps208
    go_wp2_with fail
    go_ret
    exact ⟨by rw [HR.out]; rfl, rfl⟩
theorem name_none (b at_ : Nat) (s : SlE) (w : World) (h : PW w b at_ s []) : Calls Try.prog 194 #[.pointer (some ⟨b, 0, none⟩)] w fun e w' => e = .panicked [{ v := diagV 4 (at_ : Int), recovered := false }] ∧ w' = w := by
  have t1 := next_no b at_ s w h
  clear h
  go_enter Try.func194, Try.ntmps194
  go_wp2_with fail
  refine t1.mono ?_
  rintro e w1 ⟨rfl, rfl⟩
  exact ⟨rfl, rfl, rfl⟩
theorem name_yes (b at_ : Nat) (s : SlE) (x : Txt) (ws : List Txt) (w : World) (h : PW w b at_ s (x :: ws)) (h0 : 0 < x.length) (hl : x.length ≤ 20000) (hn : nameL x = true) : Calls Try.prog 194 #[.pointer (some ⟨b, 0, none⟩)] w fun e w' => e = .returned (.string (bs x)) ∧ TookW w b at_ ws w' := by
  have t1 := next_yes b at_ s x ws w h
  have HN : Hid (∀ wX, Calls Try.prog 208 #[.string (bs x)] wX fun e w' => e = .returned (.bool true) ∧ w' = wX) := hidP (fun wX => by rw [← hn]; exact isName_any x wX h0 hl)
  have HF : Hid (∀ wX, Calls Try.prog 175 #[.pointer (some ⟨b, 0, none⟩), .bool false, .int .i64 4] wX fun e w' => e = .returned (.tuple #[]) ∧ w' = wX) := hidP (fun wX => refuse_no b 4 wX)
  clear h hn
  go_enter Try.func194, Try.ntmps194
  go_wp2_with fail
  refine t1.mono ?_
  rintro e w1 ⟨rfl, htk⟩
  have HTK : Hid (TookW w b at_ ws w1) := htk
  have t2 := HN.out w1
  have t3 := HF.out w1
  clear t1 htk HN HF
  go_wp2_with fail
  refine t2.mono ?_
  rintro e w2 ⟨rfl, ew⟩
  obtain rfl : w1 = w2 := ew.symm
  clear t2
  go_wp2_with fail
  refine t3.mono ?_
  rintro e w3 ⟨rfl, ew⟩
  obtain rfl : w1 = w3 := ew.symm
  clear t3
  go_wp2_with fail
  go_ret
  exact ⟨rfl, HTK.out⟩
theorem name_no (b at_ : Nat) (s : SlE) (x : Txt) (ws : List Txt) (w : World) (h : PW w b at_ s (x :: ws)) (h0 : 0 < x.length) (hl : x.length ≤ 20000) (hn : nameL x = false) : Calls Try.prog 194 #[.pointer (some ⟨b, 0, none⟩)] w fun e w' => e = .panicked [{ v := diagV 4 (at_ : Int), recovered := false }] ∧ TookW w b at_ ws w' := by
  have t1 := next_yes b at_ s x ws w h
  have HN : Hid (∀ wX, Calls Try.prog 208 #[.string (bs x)] wX fun e w' => e = .returned (.bool false) ∧ w' = wX) := hidP (fun wX => by rw [← hn]; exact isName_any x wX h0 hl)
  clear h hn
  go_enter Try.func194, Try.ntmps194
  go_wp2_with fail
  refine t1.mono ?_
  rintro e w1 ⟨rfl, htk⟩
  have HTK : Hid (TookW w b at_ ws w1) := htk
  have t2 := HN.out w1
  have t3 : Hid (Calls Try.prog 175 #[.pointer (some ⟨b, 0, none⟩), .bool true, .int .i64 4] w1 fun e w' => e = .panicked [{ v := diagV 4 (at_ : Int), recovered := false }] ∧ w' = w1) := hidP (by obtain ⟨s', _, hp⟩ := htk; exact refuse_yes b 4 at_ w1 hp.pa)
  clear t1 htk HN
  go_wp2_with fail
  refine t2.mono ?_
  rintro e w2 ⟨rfl, ew⟩
  obtain rfl : w1 = w2 := ew.symm
  clear t2
  go_wp2_with fail
  refine t3.out.mono ?_
  rintro e w3 ⟨rfl, ew⟩
  obtain rfl : w1 = w3 := ew.symm
  exact ⟨rfl, rfl, HTK.out⟩
end Go.Proofs.Ytnmhkgmmpkjjeaa
