import Derived.Test.YtnmhkgmmpkjjeabG28
namespace Go.Proofs.Ytnmhkgmmpkjjeab
open Go.ChangeShapes Go.WideShapes Go.ChangeAt Go.RowKit
set_option linter.unusedVariables false
set_option linter.unusedSimpArgs false
set_option maxRecDepth 100000
attribute [local go_sem ↓] Go.wp_at_zero Go.wp_at_succ
attribute [local go_sem] bs_size bs_cAt bs_app bs_mk bs_cut bs_list

/-! The words that are left of a statement, in the policy's box at block b. -/
structure WSub (w : World) (b : Nat) (s : SlE) (ws : List Txt) : Prop where
  n : s.n = ws.length
  l : ws.length ≤ 20000
  c : s.n ≤ s.c
  m : s.c ≤ maxLen
  r : 0 < ws.length → ∃ g off, s.a = some ⟨g, off, none⟩ ∧ g ≠ b ∧ ∀ i, i < ws.length → w.cell? ⟨g, off + i, none⟩ = some (.string (bs (tAt ws i)))
structure PW (w : World) (b : Nat) (at_ : Nat) (s : SlE) (ws : List Txt) : Prop where
  pa : w.cell? ⟨b, 4, none⟩ = some (.int .i64 (at_ : Int))
  ps : w.cell? ⟨b, 5, none⟩ = some s.v
  pf : w.frozen? ⟨b, 5, none⟩ = false
  pw : WSub w b s ws
theorem refuse_no (b : Nat) (c : Int) (w : World) : Calls Try.prog 204 #[.pointer (some ⟨b, 0, none⟩), .bool false, .int .i64 c] w fun e w' => e = .returned (.tuple #[]) ∧ w' = w := by
  go_enter Try.func204, Try.ntmps204
  go_wp2_with fail
  go_end0
  exact ⟨rfl, rfl⟩
theorem refuse_yes (b : Nat) (c : Int) (at_ : Nat) (w : World) (h : w.cell? ⟨b, 4, none⟩ = some (.int .i64 (at_ : Int))) : Calls Try.prog 204 #[.pointer (some ⟨b, 0, none⟩), .bool true, .int .i64 c] w fun e w' => e = .panicked [{ v := diagV c (at_ : Int), recovered := false }] ∧ w' = w := by
  go_enter Try.func204, Try.ntmps204
  go_wp2_with fail
  exact ⟨rfl, rfl, rfl⟩
theorem next_no (b at_ : Nat) (s : SlE) (w : World) (h : PW w b at_ s []) : Calls Try.prog 200 #[.pointer (some ⟨b, 0, none⟩)] w fun e w' => e = .panicked [{ v := diagV 4 (at_ : Int), recovered := false }] ∧ w' = w := by
  have t1 := refuse_yes b 4 at_ w h.pa
  have h5 := h.ps
  obtain ⟨a, n, c⟩ := s
  have hn : n = 0 := h.pw.n
  subst hn
  clear h
  go_enter Try.func200, Try.ntmps200
  go_wp2_with fail
  refine t1.mono ?_
  rintro e w1 ⟨rfl, rfl⟩
  exact ⟨rfl, rfl, rfl⟩
theorem PW.tail {w : World} {b at_ : Nat} {s : SlE} {x : Txt} {ws : List Txt} (h : PW w b at_ s (x :: ws)) : ∃ g off c, s = ⟨some ⟨g, off, none⟩, ws.length + 1, c⟩ ∧ ws.length + 1 ≤ 20000 ∧ ws.length + 1 ≤ c ∧ c ≤ maxLen ∧ w.cell? ⟨b, 4, none⟩ = some (.int .i64 (at_ : Int)) ∧ w.cell? ⟨b, 5, none⟩ = some (.slice (some ⟨g, off, none⟩) (ws.length + 1) c) ∧ w.frozen? ⟨b, 5, none⟩ = false ∧ w.cell? ⟨g, off, none⟩ = some (.string (bs x)) ∧
    ∀ o : Nat, (0 < ws.length → o = off + 1) → PW (w.setCell ⟨b, 5, none⟩ (.slice (some ⟨g, o, none⟩) ws.length (c - 1))) b at_ ⟨some ⟨g, o, none⟩, ws.length, c - 1⟩ ws := by
  have h4 := h.pa
  have h5 := h.ps
  have hf := h.pf
  have hl := h.pw.l
  have hcn := h.pw.c
  have hcm := h.pw.m
  obtain ⟨g, off, ha, hgb, hcl⟩ := h.pw.r (by simp)
  obtain ⟨a, n, c⟩ := s
  have hn : n = ws.length + 1 := h.pw.n
  try dsimp only at ha hcn hcm
  subst ha hn
  simp only [List.length_cons] at hl
  refine ⟨g, off, c, rfl, hl, hcn, hcm, h4, h5, hf, hcl 0 (by simp), fun o ho => ?_⟩
  refine ⟨?_, ?_, ?_, ⟨rfl, by omega, by show ws.length ≤ c - 1; omega, by show c - 1 ≤ maxLen; omega, fun h0 => ⟨g, o, rfl, hgb, fun i hi => ?_⟩⟩⟩
  · rw [World.cell?_setCell_other _ _ _ _ (by intro e; injection e with _ e; cases e)]; exact h4
  · exact World.cell?_setCell_same _ _ _ h5
  · rw [World.frozen?_setCell]; exact hf
  · rw [World.cell?_setCell_other _ _ _ _ (by intro e; injection e with e; exact hgb e.symm), ho h0]
    have := hcl (i + 1) (by simp; omega)
    rw [show off + (i + 1) = off + 1 + i by omega] at this
    exact this
def TookW (w : World) (b at_ : Nat) (ws : List Txt) (w' : World) : Prop := ∃ s' : SlE, w' = w.setCell ⟨b, 5, none⟩ s'.v ∧ PW w' b at_ s' ws
theorem next_yes (b at_ : Nat) (s : SlE) (x : Txt) (ws : List Txt) (w : World) (h : PW w b at_ s (x :: ws)) : Calls Try.prog 200 #[.pointer (some ⟨b, 0, none⟩)] w fun e w' => e = .returned (.string (bs x)) ∧ TookW w b at_ ws w' := by
  have t1 := refuse_no b 4 w
  obtain ⟨g, off, c, rfl, hl, hcn, hcm, h4, h5, hf, hx, hp⟩ := h.tail
  have HP : Hid (∀ o : Nat, (0 < ws.length → o = off + 1) → PW (w.setCell ⟨b, 5, none⟩ (.slice (some ⟨g, o, none⟩) ws.length (c - 1))) b at_ ⟨some ⟨g, o, none⟩, ws.length, c - 1⟩ ws) := hp
  have hz : ((ws.length : Int) + 1 == 0) = false := by simp; omega
  have L1 : (0 : Int) < (ws.length : Int) + 1 := by omega
  have L2 : (1 : Int) ≤ (ws.length : Int) + 1 := by omega
  clear h hp
  go_enter Try.func200, Try.ntmps200
  go_wp2_with fail
  refine t1.mono ?_
  rintro e w1 ⟨rfl, ew⟩
  obtain rfl : w = w1 := ew.symm
  clear t1
  by_cases hc1 : c - 1 = 0
  · have hw0 : ws.length = 0 := by omega
    go_wp2_with fail
    go_ret
    have := HP.out off (by omega)
    rw [hw0, hc1] at this
    exact ⟨rfl, ⟨some ⟨g, off, none⟩, 0, 0⟩, rfl, this⟩
  · go_wp2_with fail
    go_ret
    exact ⟨rfl, _, rfl, HP.out (off + 1) (fun _ => rfl)⟩
theorem end_yes (b at_ : Nat) (s : SlE) (w : World) (h : PW w b at_ s []) : Calls Try.prog 221 #[.pointer (some ⟨b, 0, none⟩)] w fun e w' => e = .returned (.tuple #[]) ∧ w' = w := by
  have t1 := refuse_no b 4 w
  have h5 := h.ps
  obtain ⟨a, n, c⟩ := s
  have hn : n = 0 := h.pw.n
  subst hn
  clear h
  go_enter Try.func221, Try.ntmps221
  go_wp2_with fail
  refine t1.mono ?_
  rintro e w1 ⟨rfl, rfl⟩
  go_wp2_with fail
  go_end0
  exact ⟨rfl, rfl⟩
theorem end_no (b at_ : Nat) (s : SlE) (ws : List Txt) (w : World) (h : PW w b at_ s ws) (h0 : 0 < ws.length) : Calls Try.prog 221 #[.pointer (some ⟨b, 0, none⟩)] w fun e w' => e = .panicked [{ v := diagV 4 (at_ : Int), recovered := false }] ∧ w' = w := by
  have t1 := refuse_yes b 4 at_ w h.pa
  have h5 := h.ps
  obtain ⟨a, n, c⟩ := s
  have hn : n = ws.length := h.pw.n
  subst hn
  have hz : decide ((0 : Int) < (ws.length : Int)) = true := by simp; omega
  have hz2 : (0 : Int) < (ws.length : Int) := by omega
  clear h
  go_enter Try.func221, Try.ntmps221
  go_wp2_with fail
  refine t1.mono ?_
  rintro e w1 ⟨rfl, rfl⟩
  exact ⟨rfl, rfl, rfl⟩
theorem option_none (b at_ : Nat) (s : SlE) (x : Txt) (w : World) (h : PW w b at_ s []) : Calls Try.prog 220 #[.pointer (some ⟨b, 0, none⟩), .string (bs x)] w fun e w' => e = .returned (.bool false) ∧ w' = w := by
  have h5 := h.ps
  obtain ⟨a, n, c⟩ := s
  have hn : n = 0 := h.pw.n
  subst hn
  clear h
  go_enter Try.func220, Try.ntmps220
  go_wp2_with fail
  go_ret
  exact ⟨rfl, rfl⟩
theorem option_no (b at_ : Nat) (s : SlE) (x y : Txt) (ws : List Txt) (w : World) (h : PW w b at_ s (y :: ws)) (hxy : y ≠ x) : Calls Try.prog 220 #[.pointer (some ⟨b, 0, none⟩), .string (bs x)] w fun e w' => e = .returned (.bool false) ∧ w' = w := by
  obtain ⟨g, off, c, rfl, hl, hcn, hcm, h4, h5, hf, hx, hp⟩ := h.tail
  have HP : Hid (∀ o : Nat, (0 < ws.length → o = off + 1) → PW (w.setCell ⟨b, 5, none⟩ (.slice (some ⟨g, o, none⟩) ws.length (c - 1))) b at_ ⟨some ⟨g, o, none⟩, ws.length, c - 1⟩ ws) := hp
  have hz : ((ws.length : Int) + 1 == 0) = false := by simp; omega
  have L1 : (0 : Int) < (ws.length : Int) + 1 := by omega
  have L2 : (1 : Int) ≤ (ws.length : Int) + 1 := by omega
  clear h hp
  have hb : (y == x) = false := by simpa using hxy
  clear HP
  go_enter Try.func220, Try.ntmps220
  go_wp2_with fail
  go_ret
  exact ⟨rfl, rfl⟩
theorem option_yes (b at_ : Nat) (s : SlE) (x : Txt) (ws : List Txt) (w : World) (h : PW w b at_ s (x :: ws)) : Calls Try.prog 220 #[.pointer (some ⟨b, 0, none⟩), .string (bs x)] w fun e w' => e = .returned (.bool true) ∧ TookW w b at_ ws w' := by
  obtain ⟨g, off, c, rfl, hl, hcn, hcm, h4, h5, hf, hx, hp⟩ := h.tail
  have HP : Hid (∀ o : Nat, (0 < ws.length → o = off + 1) → PW (w.setCell ⟨b, 5, none⟩ (.slice (some ⟨g, o, none⟩) ws.length (c - 1))) b at_ ⟨some ⟨g, o, none⟩, ws.length, c - 1⟩ ws) := hp
  have hz : ((ws.length : Int) + 1 == 0) = false := by simp; omega
  have L1 : (0 : Int) < (ws.length : Int) + 1 := by omega
  have L2 : (1 : Int) ≤ (ws.length : Int) + 1 := by omega
  clear h hp
  have hb : (x == x) = true := by simp
  go_enter Try.func220, Try.ntmps220
  by_cases hc1 : c - 1 = 0
  · have hw0 : ws.length = 0 := by omega
    go_wp2_with fail
    go_ret
    have := HP.out off (by omega)
    rw [hw0, hc1] at this
    exact ⟨rfl, ⟨some ⟨g, off, none⟩, 0, 0⟩, rfl, this⟩
  · go_wp2_with fail
    go_ret
    exact ⟨rfl, _, rfl, HP.out (off + 1) (fun _ => rfl)⟩
end Go.Proofs.Ytnmhkgmmpkjjeab
