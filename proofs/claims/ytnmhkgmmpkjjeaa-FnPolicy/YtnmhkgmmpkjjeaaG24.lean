import Derived.Test.YtnmhkgmmpkjjeaaG23
namespace Go.Proofs.Ytnmhkgmmpkjjeaa
open Go.ChangeShapes Go.WideShapes Go.ChangeAt Go.RowKit
set_option linter.unusedVariables false
set_option linter.unusedSimpArgs false
set_option maxRecDepth 100000
attribute [local go_sem ↓] Go.wp_at_zero Go.wp_at_succ
attribute [local go_sem] bs_size bs_cAt bs_app bs_mk bs_cut bs_list

/-! number(); the words' box over what only makes memory. -/
theorem cell_some_lt {w : World} {a : Addr} {v : Value} (h : w.cell? a = some v) : a.block < w.heap.size := by
  unfold World.cell? at h
  by_cases hlt : a.block < w.heap.size
  · exact hlt
  · rw [Array.getElem?_eq_none (by omega)] at h
    cases h
theorem PW.below {w w' : World} {b at_ : Nat} {s : SlE} {ws : List Txt} (h : PW w b at_ s ws) (hb : Below w.heap.size w w') : PW w' b at_ s ws := by
  have hlt : b < w.heap.size := cell_some_lt h.pa
  refine ⟨(hb.cell (p := ⟨b, 4, none⟩) hlt).trans h.pa, (hb.cell (p := ⟨b, 5, none⟩) hlt).trans h.ps, (hb.frozen (p := ⟨b, 5, none⟩) hlt).trans h.pf, h.pw.n, h.pw.l, h.pw.c, h.pw.m, fun h0 => ?_⟩
  obtain ⟨g, off, ha, hne, hc⟩ := h.pw.r h0
  refine ⟨g, off, ha, hne, fun i hi => ?_⟩
  have := hc i hi
  exact (hb.cell (p := ⟨g, off + i, none⟩) (cell_some_lt this)).trans this
def TookB (w : World) (b at_ : Nat) (ws : List Txt) (w' : World) : Prop := ∃ w1, TookW w b at_ ws w1 ∧ Below w1.heap.size w1 w'
theorem TookB.pw {w w' : World} {b at_ : Nat} {ws : List Txt} (h : TookB w b at_ ws w') : ∃ s, PW w' b at_ s ws := by
  obtain ⟨w1, ⟨s, _, hp⟩, hb⟩ := h
  exact ⟨s, hp.below hb⟩
theorem number_none (b at_ : Nat) (s : SlE) (w : World) (h : PW w b at_ s []) : Calls Try.prog 195 #[.pointer (some ⟨b, 0, none⟩)] w fun e w' => e = .panicked [{ v := diagV 4 (at_ : Int), recovered := false }] ∧ w' = w := by
  have t1 := next_no b at_ s w h
  clear h
  go_enter Try.func195, Try.ntmps195
  go_wp2_with fail
  refine t1.mono ?_
  rintro e w1 ⟨rfl, rfl⟩
  exact ⟨rfl, rfl, rfl⟩
theorem number_yes (b at_ : Nat) (s : SlE) (x : Txt) (ws : List Txt) (w : World) (h : PW w b at_ s (x :: ws)) (hl : x.length ≤ 20000) (hn : numOk x = true) : Calls Try.prog 195 #[.pointer (some ⟨b, 0, none⟩)] w fun e w' => e = .returned (.int .i64 (valL x : Int)) ∧ TookB w b at_ ws w' := by
  have t1 := next_yes b at_ s x ws w h
  have HN : Hid (∀ wX, Calls Try.prog 209 #[.string (bs x)] wX fun e w' => e = .returned (.tuple #[.int .i64 (valL x : Int), .bool true]) ∧ Below wX.heap.size wX w') := hidP (fun wX => (numberOf_any x wX hl).mono fun e w' hh => ⟨hh.1 hn, hh.2.2⟩)
  have HF : Hid (∀ wX, Calls Try.prog 175 #[.pointer (some ⟨b, 0, none⟩), .bool false, .int .i64 4] wX fun e w' => e = .returned (.tuple #[]) ∧ w' = wX) := hidP (fun wX => refuse_no b 4 wX)
  clear h hn
  go_enter Try.func195, Try.ntmps195
  go_wp2_with fail
  refine t1.mono ?_
  rintro e w1 ⟨rfl, htk⟩
  have HTK : Hid (TookW w b at_ ws w1) := htk
  have t2 := HN.out w1
  clear t1 htk HN
  go_wp2_with fail
  refine t2.mono ?_
  rintro e w2 ⟨rfl, hb2⟩
  have HB2 : Hid (Below w1.heap.size w1 w2) := hb2
  have t3 := HF.out w2
  clear t2 hb2 HF
  go_wp2_with fail
  refine t3.mono ?_
  rintro e w3 ⟨rfl, ew⟩
  obtain rfl : w2 = w3 := ew.symm
  clear t3
  go_wp2_with fail
  go_ret
  exact ⟨rfl, w1, HTK.out, HB2.out⟩
theorem number_no (b at_ : Nat) (s : SlE) (x : Txt) (ws : List Txt) (w : World) (h : PW w b at_ s (x :: ws)) (hl : x.length ≤ 20000) (hn : numOk x = false) : Calls Try.prog 195 #[.pointer (some ⟨b, 0, none⟩)] w fun e w' => e = .panicked [{ v := diagV 4 (at_ : Int), recovered := false }] ∧ TookB w b at_ ws w' := by
  have t1 := next_yes b at_ s x ws w h
  have HN : Hid (∀ wX, Calls Try.prog 209 #[.string (bs x)] wX fun e w' => e = .returned (.tuple #[.int .i64 0, .bool false]) ∧ Below wX.heap.size wX w') := hidP (fun wX => (numberOf_any x wX hl).mono fun e w' hh => ⟨hh.2.1 hn, hh.2.2⟩)
  clear h hn
  go_enter Try.func195, Try.ntmps195
  go_wp2_with fail
  refine t1.mono ?_
  rintro e w1 ⟨rfl, htk⟩
  have HTK : Hid (TookW w b at_ ws w1) := htk
  have t2 := HN.out w1
  clear t1 htk HN
  go_wp2_with fail
  refine t2.mono ?_
  rintro e w2 ⟨rfl, hb2⟩
  have HTB : Hid (TookB w b at_ ws w2) := hidP ⟨w1, HTK.out, hb2⟩
  have t3 : Hid (Calls Try.prog 175 #[.pointer (some ⟨b, 0, none⟩), .bool true, .int .i64 4] w2 fun e w' => e = .panicked [{ v := diagV 4 (at_ : Int), recovered := false }] ∧ w' = w2) := hidP (by obtain ⟨s', hp⟩ := HTB.out.pw; exact refuse_yes b 4 at_ w2 hp.pa)
  clear t2 hb2
  go_wp2_with fail
  refine t3.out.mono ?_
  rintro e w3 ⟨rfl, ew⟩
  obtain rfl : w2 = w3 := ew.symm
  exact ⟨rfl, rfl, HTB.out⟩
/-- No word is empty. -/
theorem sc_ne : ∀ (r : Txt) (w : Txt) (cm : Bool) (i : Nat) (st : List (List Txt)) (re : List Txt) (st' : List (List Txt)) (re' : List Txt), (∀ s ∈ st, ∀ x ∈ s, x ≠ []) → (∀ x ∈ re, x ≠ []) → sc w cm i st re r = .inr (st', re') → (∀ s ∈ st', ∀ x ∈ s, x ≠ []) ∧ ∀ x ∈ re', x ≠ []
  | [], w, cm, i, st, re, st', re', hs, hr, h => by
    unfold sc at h
    cases h
    refine ⟨hs, fun x hx => ?_⟩
    rcases List.mem_append.1 hx with h | h
    · exact hr x h
    · unfold flush at h
      split at h
      · cases h
      · rename_i hw
        rw [List.mem_singleton.1 h]
        exact hw
  | c :: r, w, cm, i, st, re, st', re', hs, hr, h => by
    have hrf : ∀ x ∈ re ++ flush w, x ≠ [] := by
      intro x hx
      rcases List.mem_append.1 hx with h | h
      · exact hr x h
      · unfold flush at h
        split at h
        · cases h
        · rename_i hw
          rw [List.mem_singleton.1 h]
          exact hw
    unfold sc at h
    split at h
    · split at h
      · exact sc_ne r _ _ _ _ _ _ _ hs hr h
      · exact sc_ne r _ _ _ _ _ _ _ hs hr h
    · split at h
      · exact sc_ne r _ _ _ _ _ _ _ hs hr h
      · split at h
        · exact sc_ne r _ _ _ _ _ _ _ hs hrf h
        · split at h
          · refine sc_ne r _ _ _ _ _ _ _ (fun s hs' => ?_) (fun x hx => by cases hx) h
            rcases List.mem_append.1 hs' with h' | h'
            · exact hs s h'
            · rw [List.mem_singleton.1 h']; exact hrf
          · split at h
            · exact sc_ne r _ _ _ _ _ _ _ hs hrf h
            · cases h
end Go.Proofs.Ytnmhkgmmpkjjeaa
namespace Go.Proofs.Ytnmhkgmmpkjjeaa
open Go.ChangeShapes Go.WideShapes Go.ChangeAt Go.RowKit
set_option linter.unusedVariables false
set_option linter.unusedSimpArgs false
set_option maxRecDepth 100000
attribute [local go_sem ↓] Go.wp_at_zero Go.wp_at_succ

/-! Runs: fits, meets. -/
structure RunE where
  f : Int
  c : Int
def eRunR : Elt RunE := ⟨255, 2, fun x => [.int .i64 x.f, .int .i64 x.c], ⟨0, 0⟩, by omega, fun _ => rfl⟩
theorem infoRunR : (Try.prog.info? 255).map (fun i => (i.zero, i.size, i.bytes)) = some (some (.agg #[.int .i64 0, .int .i64 0]), 2, 16) := by kernel_rfl
structure RnB (x : RunE) : Prop where
  f : 0 ≤ x.f ∧ x.f ≤ 1000000
  c : 0 ≤ x.c ∧ x.c ≤ 1000000
def fitsB (x : RunE) (lim : Int) : Bool := decide (1 ≤ x.c) && decide (x.f + x.c ≤ lim)
theorem fits_any (x : RunE) (lim : Int) (w : World) (hx : RnB x) : Calls Try.prog 198 #[.agg #[.int .i64 x.f, .int .i64 x.c], .int .i64 lim] w fun e w' => e = .returned (.bool (fitsB x lim)) ∧ Below w.heap.size w w' := by
  have b1 := hx.f
  have b2 := hx.c
  have W1 : IntKind.i64.wrap (x.f + x.c) = x.f + x.c := by rw [IntKind.wrap_i64]; omega
  obtain ⟨F, C⟩ := x
  dsimp only at b1 b2 W1
  clear hx
  unfold fitsB
  dsimp only
  by_cases h1 : 1 ≤ C
  · have e1 : decide (1 ≤ C) = true := by simpa using h1
    rw [e1, Bool.true_and]
    clear h1
    go_enter Try.func198, Try.ntmps198
    go_wp2_with fail
    go_ret
    exact ⟨rfl, bal⟩
  · have e1 : decide (1 ≤ C) = false := by simpa using h1
    rw [e1, Bool.false_and]
    clear h1
    go_enter Try.func198, Try.ntmps198
    go_wp2_with fail
    go_ret
    exact ⟨rfl, bal⟩
def meetR (x o : RunE) : Bool := decide (x.f < o.f + o.c) && decide (o.f < x.f + x.c)
theorem runCells {w : World} {b cap : Nat} {a : Option Addr} {xs : List RunE} (h : ERow eRunR w b (.slice a xs.length cap) xs) :
    ∀ k, k < xs.length → ∃ g, a = some ⟨g, 0, none⟩ ∧ g < w.heap.size ∧ ∀ wX, Below w.heap.size w wX → wX.cell? ⟨g, k * 2, none⟩ = some (.int .i64 (eAt eRunR xs k).f) ∧ wX.cell? ⟨g, k * 2 + 1, none⟩ = some (.int .i64 (eAt eRunR xs k).c) := by
  intro k hk
  obtain ⟨a', c', e, hf⟩ := h.form
  simp only [Value.slice.injEq] at e
  obtain ⟨e1, _, e3⟩ := e
  obtain ⟨g, N, f, hag, hbg, hr, hN, hc⟩ := hf (by omega)
  refine ⟨g, e1.trans hag, hr.lt, fun wX hX => ?_⟩
  have hl : k * 2 + 1 < N := by have : xs.length * 2 ≤ N := hN; omega
  have c0 := hr.cell (i := k * 2) (by omega)
  have c1 := hr.cell (i := k * 2 + 1) hl
  have f0 : f (k * 2 + 0) = eCell eRunR xs k 0 := hc k hk 0 (by decide)
  have f1 : f (k * 2 + 1) = eCell eRunR xs k 1 := hc k hk 1 (by decide)
  rw [Nat.add_zero] at f0
  rw [f0] at c0
  rw [f1] at c1
  exact ⟨(hX.cell (p := ⟨g, k * 2, none⟩) hr.lt).trans (c0.trans rfl), (hX.cell (p := ⟨g, k * 2 + 1, none⟩) hr.lt).trans (c1.trans rfl)⟩
set_option maxHeartbeats 2000000 in
theorem meets_any (x : RunE) (a : Option Addr) (cap b : Nat) (xs : List RunE) (w : World) (hx : RnB x) (hxs : ∀ i, i < xs.length → RnB (eAt eRunR xs i)) (hl : xs.length ≤ 100000) (h : ERow eRunR w b (.slice a xs.length cap) xs) : Calls Try.prog 199 #[.agg #[.int .i64 x.f, .int .i64 x.c], .slice a xs.length cap] w fun e w' => e = .returned (.bool (xs.any (meetR x))) ∧ Below w.heap.size w w' := by
  have b1 := hx.f
  have b2 := hx.c
  have W1 : IntKind.i64.wrap (x.f + x.c) = x.f + x.c := by rw [IntKind.wrap_i64]; omega
  have HC : Hid (∀ k, k < xs.length → ∃ g o, a = some ⟨g, 0, none⟩ ∧ g < w.heap.size ∧ eAt eRunR xs k = o ∧ RnB o ∧ ∀ wX, Below w.heap.size w wX → wX.cell? ⟨g, k * 2, none⟩ = some (.int .i64 o.f) ∧ wX.cell? ⟨g, k * 2 + 1, none⟩ = some (.int .i64 o.c)) := hidP (fun k hk => by
    obtain ⟨g, e, hg, hc⟩ := runCells h k hk
    exact ⟨g, _, e, hg, rfl, hxs k hk, hc⟩)
  clear hx h hxs
  refine calls_o 32 Try.func199 rfl (by rfl) (by simp) ?_
  intro tm hsz hla
  have s0 := hla 0 (by simp)
  have s1 := hla 1 (by simp)
  clear hla
  simp only [List.getElem_toArray, List.getElem_cons_zero, List.getElem_cons_succ] at s0 s1
  go_upto_region 1 with fail
  obtain ⟨w0, hw0⟩ : ∃ w0, w0 = w.alloc (.cells #[.int .i64 x.f, .int .i64 x.c] 255) := ⟨_, rfl⟩
  rw [← hw0]
  have HB0 : Hid (Below w.heap.size w w0) := hidP (by rw [hw0]; exact bal)
  have HY : Hid (w0.cell? ⟨w.heap.size, 0, none⟩ = some (.int .i64 x.f) ∧ w0.cell? ⟨w.heap.size, 1, none⟩ = some (.int .i64 x.c) ∧ w.heap.size < w0.heap.size) := hidP (by rw [hw0]; refine ⟨?_, ?_, ?_⟩ <;> simp [go_sem])
  clear hw0
  go_wp2_with fail
  refine wp_loop_o 32 (fun j tm wr => ∃ k : Nat, j = xs.length - k ∧ k ≤ xs.length ∧ Fs tm [(2, .pointer (some ⟨w.heap.size, 0, none⟩)), (7, .slice a xs.length cap), (8, .int .i64 (xs.length : Int)), (9, .int .i64 (k : Int))] ∧ Below w0.heap.size w0 wr ∧ ∀ j, j < k → meetR x (eAt eRunR xs j) = false) xs.length (by simp [hsz]) ⟨0, by omega, by omega, by simp only [Fs]; and_intros <;> simp [hsz, s0, s1], Below.refl _ _, fun j hj => absurd hj (Nat.not_lt_zero _)⟩ ?_
  clear s0 s1 hsz
  clear tm
  intro j tm wr J K hsz hI hJ hK
  obtain ⟨k, hj, hk, hs, hbr, hno⟩ := hI
  simp only [Fs] at hs
  obtain ⟨s2, s7, s8, s9, -⟩ := hs
  subst hj
  have HBR : Hid (Below w0.heap.size w0 wr) := hbr
  have HNO : Hid (∀ j, j < k → meetR x (eAt eRunR xs j) = false) := hno
  have y0 : wr.cell? ⟨w.heap.size, 0, none⟩ = some (.int .i64 x.f) := (hbr.cell (p := ⟨w.heap.size, 0, none⟩) HY.out.2.2).trans HY.out.1
  have y1 : wr.cell? ⟨w.heap.size, 1, none⟩ = some (.int .i64 x.c) := (hbr.cell (p := ⟨w.heap.size, 1, none⟩) HY.out.2.2).trans HY.out.2.1
  have hBl : w.heap.size < wr.heap.size := Nat.lt_of_lt_of_le HY.out.2.2 hbr.size
  clear hbr hno
  by_cases hlt : k < xs.length
  · have K0 : (0 : Int) ≤ (k : Int) := by omega
    have K1 : (k : Int) < (xs.length : Int) := by omega
    have W5 : IntKind.i64.wrap ((k : Int) + 1) = (k : Int) + 1 := by rw [IntKind.wrap_i64]; omega
    obtain ⟨g, o, rfl, hg, ho, hro, hc⟩ := HC.out k hlt
    obtain ⟨u0, u1⟩ := hc wr (HB0.out.trans (HBR.out.mono HB0.out.size))
    have b3 := hro.f
    have b4 := hro.c
    have W2 : IntKind.i64.wrap (o.f + o.c) = o.f + o.c := by rw [IntKind.wrap_i64]; omega
    have HMT : Hid (meetR x (eAt eRunR xs k) = (decide (x.f < o.f + o.c) && decide (o.f < x.f + x.c))) := hidP (by rw [ho]; rfl)
    clear hc hro ho
    go_upto_if 10 with fail
    refine wp_cond_true (by go_simp <;> omega) ?_
    go_upto_region 4 with fail
    obtain ⟨w2, hw2⟩ : ∃ w2, w2 = wr.alloc (.cells #[.int .i64 o.f, .int .i64 o.c] 255) := ⟨_, rfl⟩
    rw [← hw2]
    have z0 : w2.cell? ⟨wr.heap.size, 0, none⟩ = some (.int .i64 o.f) := by rw [hw2]; simp [go_sem]
    have z1 : w2.cell? ⟨wr.heap.size, 1, none⟩ = some (.int .i64 o.c) := by rw [hw2]; simp [go_sem]
    have hb2 : Below wr.heap.size wr w2 := by rw [hw2]; exact bal
    have HB2 : Hid (Below w0.heap.size w0 w2) := hidP (HBR.out.trans (hb2.mono HBR.out.size))
    replace y0 := (hb2.cell (p := ⟨w.heap.size, 0, none⟩) hBl).trans y0
    replace y1 := (hb2.cell (p := ⟨w.heap.size, 1, none⟩) hBl).trans y1
    clear hw2 hb2 u0 u1
    by_cases h1 : x.f < o.f + o.c
    · have e1 : decide (x.f < o.f + o.c) = true := by simpa using h1
      by_cases h2 : o.f < x.f + x.c
      · have e2 : decide (o.f < x.f + x.c) = true := by simpa using h2
        have HR : Hid (xs.any (meetR x) = true) := hidP (by
          rw [List.any_eq_true]
          refine ⟨eAt eRunR xs k, ?_, by rw [HMT.out, e1, e2]; rfl⟩
          unfold eAt
          rw [List.getD_eq_getElem?_getD, List.getElem?_eq_getElem hlt]
          exact List.getElem_mem _)
        clear h1 h2
        go_upto_if 30 with fail
        refine wp_cond_true (by go_simp) ?_
        go_wp2_with fail
        exact bodyPost_ret (v := .bool true) (by simp [results, Try.results199, go_sem, hsz]) rfl ⟨by rw [HR.out], HB0.out.trans (HB2.out.mono HB0.out.size)⟩
      · have e2 : decide (o.f < x.f + x.c) = false := by simpa using h2
        have HN : Hid (∀ j, j < k + 1 → meetR x (eAt eRunR xs j) = false) := hidP (fun j hj => by
          rcases Nat.lt_or_ge j k with h | h
          · exact HNO.out j h
          · obtain rfl : j = k := by omega
            rw [HMT.out, e1, e2]; rfl)
        clear h1 h2
        go_upto_if 30 with fail
        refine wp_cond_false (by go_simp) ?_
        go_wp2_with fail
        refine Met.intro (hJ (xs.length - (k + 1)) _ _ (by simp [hsz]) ⟨k + 1, rfl, by omega, by rw [show ((k + 1 : Nat) : Int) = (k : Int) + 1 by omega]; simp only [Fs]; and_intros <;> simp [hsz, s2, s7, s8, s9], HB2.out, HN.out⟩ (by omega))
    · have e1 : decide (x.f < o.f + o.c) = false := by simpa using h1
      have HN : Hid (∀ j, j < k + 1 → meetR x (eAt eRunR xs j) = false) := hidP (fun j hj => by
        rcases Nat.lt_or_ge j k with h | h
        · exact HNO.out j h
        · obtain rfl : j = k := by omega
          rw [HMT.out, e1]; rfl)
      clear h1
      go_upto_if 30 with fail
      refine wp_cond_false (by go_simp) ?_
      go_wp2_with fail
      refine Met.intro (hJ (xs.length - (k + 1)) _ _ (by simp [hsz]) ⟨k + 1, rfl, by omega, by rw [show ((k + 1 : Nat) : Int) = (k : Int) + 1 by omega]; simp only [Fs]; and_intros <;> simp [hsz, s2, s7, s8, s9], HB2.out, HN.out⟩ (by omega))
  · obtain rfl : k = xs.length := by omega
    have K2 : ¬ (xs.length : Int) < (xs.length : Int) := by omega
    have HR : Hid (xs.any (meetR x) = false) := hidP (by
      rw [List.any_eq_false]
      intro o ho
      obtain ⟨i, hi, e⟩ := List.mem_iff_getElem.1 ho
      have := HNO.out i hi
      unfold eAt at this
      rw [List.getD_eq_getElem?_getD, List.getElem?_eq_getElem hi] at this
      subst e
      simpa using this)
    go_upto_if 10 with fail
    refine wp_cond_false (by go_simp <;> omega) ?_
    go_wp2_with fail
    exact bodyPost_ret (v := .bool false) (by simp [results, Try.results199, go_sem, hsz]) rfl ⟨by rw [HR.out], HB0.out.trans (HBR.out.mono HB0.out.size)⟩
end Go.Proofs.Ytnmhkgmmpkjjeaa
