import Derived.Test.YtnmhkgmmpkjjeabG31
namespace Go.Proofs.Ytnmhkgmmpkjjeab
open Go.ChangeShapes Go.WideShapes Go.ChangeAt Go.RowKit
set_option linter.unusedVariables false
set_option linter.unusedSimpArgs false
set_option maxRecDepth 100000
attribute [local go_sem ↓] Go.wp_at_zero Go.wp_at_succ
attribute [local go_sem] bs_size bs_cAt bs_app bs_mk bs_cut bs_list

/-! number(); the words' box over what only makes memory. -/
theorem cell_some_lt {w : World} {a : Addr} {v : Value} (h : w.cell? a = some v) : a.block < w.heap.size := by
  unfold World.cell? at h
  by_cases hlt : a.block < w.heap.size
  · exact hlt
  · rw [Array.getElem?_eq_none (by omega)] at h
    cases h
theorem PW.below {w w' : World} {b at_ : Nat} {s : SlE} {ws : List Txt} (h : PW w b at_ s ws) (hb : Below w.heap.size w w') : PW w' b at_ s ws := by
  have hlt : b < w.heap.size := cell_some_lt h.pa
  refine ⟨(hb.cell (p := ⟨b, 4, none⟩) hlt).trans h.pa, (hb.cell (p := ⟨b, 5, none⟩) hlt).trans h.ps, (hb.frozen (p := ⟨b, 5, none⟩) hlt).trans h.pf, h.pw.n, h.pw.l, h.pw.c, h.pw.m, fun h0 => ?_⟩
  obtain ⟨g, off, ha, hne, hc⟩ := h.pw.r h0
  refine ⟨g, off, ha, hne, fun i hi => ?_⟩
  have := hc i hi
  exact (hb.cell (p := ⟨g, off + i, none⟩) (cell_some_lt this)).trans this
def TookB (w : World) (b at_ : Nat) (ws : List Txt) (w' : World) : Prop := ∃ w1, TookW w b at_ ws w1 ∧ Below w1.heap.size w1 w'
theorem TookB.pw {w w' : World} {b at_ : Nat} {ws : List Txt} (h : TookB w b at_ ws w') : ∃ s, PW w' b at_ s ws := by
  obtain ⟨w1, ⟨s, _, hp⟩, hb⟩ := h
  exact ⟨s, hp.below hb⟩
theorem number_none (b at_ : Nat) (s : SlE) (w : World) (h : PW w b at_ s []) : Calls Try.prog 219 #[.pointer (some ⟨b, 0, none⟩)] w fun e w' => e = .panicked [{ v := diagV 4 (at_ : Int), recovered := false }] ∧ w' = w := by
  have t1 := next_no b at_ s w h
  clear h
  go_enter Try.func219, Try.ntmps219
  go_wp2_with fail
  refine t1.mono ?_
  rintro e w1 ⟨rfl, rfl⟩
  exact ⟨rfl, rfl, rfl⟩
theorem number_yes (b at_ : Nat) (s : SlE) (x : Txt) (ws : List Txt) (w : World) (h : PW w b at_ s (x :: ws)) (hl : x.length ≤ 20000) (hn : numOk x = true) : Calls Try.prog 219 #[.pointer (some ⟨b, 0, none⟩)] w fun e w' => e = .returned (.int .i64 (valL x : Int)) ∧ TookB w b at_ ws w' := by
  have t1 := next_yes b at_ s x ws w h
  have HN : Hid (∀ wX, Calls Try.prog 232 #[.string (bs x)] wX fun e w' => e = .returned (.tuple #[.int .i64 (valL x : Int), .bool true]) ∧ Below wX.heap.size wX w') := hidP (fun wX => (numberOf_any x wX hl).mono fun e w' hh => ⟨hh.1 hn, hh.2.2⟩)
  have HF : Hid (∀ wX, Calls Try.prog 204 #[.pointer (some ⟨b, 0, none⟩), .bool false, .int .i64 4] wX fun e w' => e = .returned (.tuple #[]) ∧ w' = wX) := hidP (fun wX => refuse_no b 4 wX)
  clear h hn
  go_enter Try.func219, Try.ntmps219
  go_wp2_with fail
  refine t1.mono ?_
  rintro e w1 ⟨rfl, htk⟩
  have HTK : Hid (TookW w b at_ ws w1) := htk
  have t2 := HN.out w1
  clear t1 htk HN
  go_wp2_with fail
  refine t2.mono ?_
  rintro e w2 ⟨rfl, hb2⟩
  have HB2 : Hid (Below w1.heap.size w1 w2) := hb2
  have t3 := HF.out w2
  clear t2 hb2 HF
  go_wp2_with fail
  refine t3.mono ?_
  rintro e w3 ⟨rfl, ew⟩
  obtain rfl : w2 = w3 := ew.symm
  clear t3
  go_wp2_with fail
  go_ret
  exact ⟨rfl, w1, HTK.out, HB2.out⟩
theorem number_no (b at_ : Nat) (s : SlE) (x : Txt) (ws : List Txt) (w : World) (h : PW w b at_ s (x :: ws)) (hl : x.length ≤ 20000) (hn : numOk x = false) : Calls Try.prog 219 #[.pointer (some ⟨b, 0, none⟩)] w fun e w' => e = .panicked [{ v := diagV 4 (at_ : Int), recovered := false }] ∧ TookB w b at_ ws w' := by
  have t1 := next_yes b at_ s x ws w h
  have HN : Hid (∀ wX, Calls Try.prog 232 #[.string (bs x)] wX fun e w' => e = .returned (.tuple #[.int .i64 0, .bool false]) ∧ Below wX.heap.size wX w') := hidP (fun wX => (numberOf_any x wX hl).mono fun e w' hh => ⟨hh.2.1 hn, hh.2.2⟩)
  clear h hn
  go_enter Try.func219, Try.ntmps219
  go_wp2_with fail
  refine t1.mono ?_
  rintro e w1 ⟨rfl, htk⟩
  have HTK : Hid (TookW w b at_ ws w1) := htk
  have t2 := HN.out w1
  clear t1 htk HN
  go_wp2_with fail
  refine t2.mono ?_
  rintro e w2 ⟨rfl, hb2⟩
  have HTB : Hid (TookB w b at_ ws w2) := hidP ⟨w1, HTK.out, hb2⟩
  have t3 : Hid (Calls Try.prog 204 #[.pointer (some ⟨b, 0, none⟩), .bool true, .int .i64 4] w2 fun e w' => e = .panicked [{ v := diagV 4 (at_ : Int), recovered := false }] ∧ w' = w2) := hidP (by obtain ⟨s', hp⟩ := HTB.out.pw; exact refuse_yes b 4 at_ w2 hp.pa)
  clear t2 hb2
  go_wp2_with fail
  refine t3.out.mono ?_
  rintro e w3 ⟨rfl, ew⟩
  obtain rfl : w2 = w3 := ew.symm
  exact ⟨rfl, rfl, HTB.out⟩
/-- No word is empty. -/
theorem sc_ne : ∀ (r : Txt) (w : Txt) (cm : Bool) (i : Nat) (st : List (List Txt)) (re : List Txt) (st' : List (List Txt)) (re' : List Txt), (∀ s ∈ st, ∀ x ∈ s, x ≠ []) → (∀ x ∈ re, x ≠ []) → sc w cm i st re r = .inr (st', re') → (∀ s ∈ st', ∀ x ∈ s, x ≠ []) ∧ ∀ x ∈ re', x ≠ []
  | [], w, cm, i, st, re, st', re', hs, hr, h => by
    unfold sc at h
    cases h
    refine ⟨hs, fun x hx => ?_⟩
    rcases List.mem_append.1 hx with h | h
    · exact hr x h
    · unfold flush at h
      split at h
      · cases h
      · rename_i hw
        rw [List.mem_singleton.1 h]
        exact hw
  | c :: r, w, cm, i, st, re, st', re', hs, hr, h => by
    have hrf : ∀ x ∈ re ++ flush w, x ≠ [] := by
      intro x hx
      rcases List.mem_append.1 hx with h | h
      · exact hr x h
      · unfold flush at h
        split at h
        · cases h
        · rename_i hw
          rw [List.mem_singleton.1 h]
          exact hw
    unfold sc at h
    split at h
    · split at h
      · exact sc_ne r _ _ _ _ _ _ _ hs hr h
      · exact sc_ne r _ _ _ _ _ _ _ hs hr h
    · split at h
      · exact sc_ne r _ _ _ _ _ _ _ hs hr h
      · split at h
        · exact sc_ne r _ _ _ _ _ _ _ hs hrf h
        · split at h
          · refine sc_ne r _ _ _ _ _ _ _ (fun s hs' => ?_) (fun x hx => by cases hx) h
            rcases List.mem_append.1 hs' with h' | h'
            · exact hs s h'
            · rw [List.mem_singleton.1 h']; exact hrf
          · split at h
            · exact sc_ne r _ _ _ _ _ _ _ hs hrf h
            · cases h
end Go.Proofs.Ytnmhkgmmpkjjeab
