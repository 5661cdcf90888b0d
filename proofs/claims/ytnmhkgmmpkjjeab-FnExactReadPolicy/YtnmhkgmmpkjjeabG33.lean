import Derived.Test.YtnmhkgmmpkjjeabG32
namespace Go.Proofs.Ytnmhkgmmpkjjeab
open Go.ChangeShapes Go.WideShapes Go.ChangeAt Go.RowKit
set_option linter.unusedVariables false
set_option linter.unusedSimpArgs false
set_option maxRecDepth 100000
attribute [local go_sem ↓] Go.wp_at_zero Go.wp_at_succ

/-! Runs: fits, meets. -/
structure RunE where
  f : Int
  c : Int
def eRunR : Elt RunE := ⟨259, 2, fun x => [.int .i64 x.f, .int .i64 x.c], ⟨0, 0⟩, by omega, fun _ => rfl⟩
theorem infoRunR : (Try.prog.info? 259).map (fun i => (i.zero, i.size, i.bytes)) = some (some (.agg #[.int .i64 0, .int .i64 0]), 2, 16) := by kernel_rfl
structure RnB (x : RunE) : Prop where
  f : 0 ≤ x.f ∧ x.f ≤ 1000000
  c : 0 ≤ x.c ∧ x.c ≤ 1000000
def fitsB (x : RunE) (lim : Int) : Bool := decide (1 ≤ x.c) && decide (x.f + x.c ≤ lim)
theorem fits_any (x : RunE) (lim : Int) (w : World) (hx : RnB x) : Calls Try.prog 222 #[.agg #[.int .i64 x.f, .int .i64 x.c], .int .i64 lim] w fun e w' => e = .returned (.bool (fitsB x lim)) ∧ Below w.heap.size w w' := by
  have b1 := hx.f
  have b2 := hx.c
  have W1 : IntKind.i64.wrap (x.f + x.c) = x.f + x.c := by rw [IntKind.wrap_i64]; omega
  obtain ⟨F, C⟩ := x
  dsimp only at b1 b2 W1
  clear hx
  unfold fitsB
  dsimp only
  by_cases h1 : 1 ≤ C
  · have e1 : decide (1 ≤ C) = true := by simpa using h1
    rw [e1, Bool.true_and]
    clear h1
    go_enter Try.func222, Try.ntmps222
    go_wp2_with fail
    go_ret
    exact ⟨rfl, bal⟩
  · have e1 : decide (1 ≤ C) = false := by simpa using h1
    rw [e1, Bool.false_and]
    clear h1
    go_enter Try.func222, Try.ntmps222
    go_wp2_with fail
    go_ret
    exact ⟨rfl, bal⟩
def meetR (x o : RunE) : Bool := decide (x.f < o.f + o.c) && decide (o.f < x.f + x.c)
theorem runCells {w : World} {b cap : Nat} {a : Option Addr} {xs : List RunE} (h : ERow eRunR w b (.slice a xs.length cap) xs) :
    ∀ k, k < xs.length → ∃ g, a = some ⟨g, 0, none⟩ ∧ g < w.heap.size ∧ ∀ wX, Below w.heap.size w wX → wX.cell? ⟨g, k * 2, none⟩ = some (.int .i64 (eAt eRunR xs k).f) ∧ wX.cell? ⟨g, k * 2 + 1, none⟩ = some (.int .i64 (eAt eRunR xs k).c) := by
  intro k hk
  obtain ⟨a', c', e, hf⟩ := h.form
  simp only [Value.slice.injEq] at e
  obtain ⟨e1, _, e3⟩ := e
  obtain ⟨g, N, f, hag, hbg, hr, hN, hc⟩ := hf (by omega)
  refine ⟨g, e1.trans hag, hr.lt, fun wX hX => ?_⟩
  have hl : k * 2 + 1 < N := by have : xs.length * 2 ≤ N := hN; omega
  have c0 := hr.cell (i := k * 2) (by omega)
  have c1 := hr.cell (i := k * 2 + 1) hl
  have f0 : f (k * 2 + 0) = eCell eRunR xs k 0 := hc k hk 0 (by decide)
  have f1 : f (k * 2 + 1) = eCell eRunR xs k 1 := hc k hk 1 (by decide)
  rw [Nat.add_zero] at f0
  rw [f0] at c0
  rw [f1] at c1
  exact ⟨(hX.cell (p := ⟨g, k * 2, none⟩) hr.lt).trans (c0.trans rfl), (hX.cell (p := ⟨g, k * 2 + 1, none⟩) hr.lt).trans (c1.trans rfl)⟩
set_option maxHeartbeats 2000000 in
theorem meets_any (x : RunE) (a : Option Addr) (cap b : Nat) (xs : List RunE) (w : World) (hx : RnB x) (hxs : ∀ i, i < xs.length → RnB (eAt eRunR xs i)) (hl : xs.length ≤ 100000) (h : ERow eRunR w b (.slice a xs.length cap) xs) : Calls Try.prog 223 #[.agg #[.int .i64 x.f, .int .i64 x.c], .slice a xs.length cap] w fun e w' => e = .returned (.bool (xs.any (meetR x))) ∧ Below w.heap.size w w' := by
  have b1 := hx.f
  have b2 := hx.c
  have W1 : IntKind.i64.wrap (x.f + x.c) = x.f + x.c := by rw [IntKind.wrap_i64]; omega
  have HC : Hid (∀ k, k < xs.length → ∃ g o, a = some ⟨g, 0, none⟩ ∧ g < w.heap.size ∧ eAt eRunR xs k = o ∧ RnB o ∧ ∀ wX, Below w.heap.size w wX → wX.cell? ⟨g, k * 2, none⟩ = some (.int .i64 o.f) ∧ wX.cell? ⟨g, k * 2 + 1, none⟩ = some (.int .i64 o.c)) := hidP (fun k hk => by
    obtain ⟨g, e, hg, hc⟩ := runCells h k hk
    exact ⟨g, _, e, hg, rfl, hxs k hk, hc⟩)
  clear hx h hxs
  refine calls_o 32 Try.func223 rfl (by rfl) (by simp) ?_
  intro tm hsz hla
  have s0 := hla 0 (by simp)
  have s1 := hla 1 (by simp)
  clear hla
  simp only [List.getElem_toArray, List.getElem_cons_zero, List.getElem_cons_succ] at s0 s1
  go_upto_region 1 with fail
  obtain ⟨w0, hw0⟩ : ∃ w0, w0 = w.alloc (.cells #[.int .i64 x.f, .int .i64 x.c] 259) := ⟨_, rfl⟩
  rw [← hw0]
  have HB0 : Hid (Below w.heap.size w w0) := hidP (by rw [hw0]; exact bal)
  have HY : Hid (w0.cell? ⟨w.heap.size, 0, none⟩ = some (.int .i64 x.f) ∧ w0.cell? ⟨w.heap.size, 1, none⟩ = some (.int .i64 x.c) ∧ w.heap.size < w0.heap.size) := hidP (by rw [hw0]; refine ⟨?_, ?_, ?_⟩ <;> simp [go_sem])
  clear hw0
  go_wp2_with fail
  refine wp_loop_o 32 (fun j tm wr => ∃ k : Nat, j = xs.length - k ∧ k ≤ xs.length ∧ Fs tm [(2, .pointer (some ⟨w.heap.size, 0, none⟩)), (7, .slice a xs.length cap), (8, .int .i64 (xs.length : Int)), (9, .int .i64 (k : Int))] ∧ Below w0.heap.size w0 wr ∧ ∀ j, j < k → meetR x (eAt eRunR xs j) = false) xs.length (by simp [hsz]) ⟨0, by omega, by omega, by simp only [Fs]; and_intros <;> simp [hsz, s0, s1], Below.refl _ _, fun j hj => absurd hj (Nat.not_lt_zero _)⟩ ?_
  clear s0 s1 hsz
  clear tm
  intro j tm wr J K hsz hI hJ hK
  obtain ⟨k, hj, hk, hs, hbr, hno⟩ := hI
  simp only [Fs] at hs
  obtain ⟨s2, s7, s8, s9, -⟩ := hs
  subst hj
  have HBR : Hid (Below w0.heap.size w0 wr) := hbr
  have HNO : Hid (∀ j, j < k → meetR x (eAt eRunR xs j) = false) := hno
  have y0 : wr.cell? ⟨w.heap.size, 0, none⟩ = some (.int .i64 x.f) := (hbr.cell (p := ⟨w.heap.size, 0, none⟩) HY.out.2.2).trans HY.out.1
  have y1 : wr.cell? ⟨w.heap.size, 1, none⟩ = some (.int .i64 x.c) := (hbr.cell (p := ⟨w.heap.size, 1, none⟩) HY.out.2.2).trans HY.out.2.1
  have hBl : w.heap.size < wr.heap.size := Nat.lt_of_lt_of_le HY.out.2.2 hbr.size
  clear hbr hno
  by_cases hlt : k < xs.length
  · have K0 : (0 : Int) ≤ (k : Int) := by omega
    have K1 : (k : Int) < (xs.length : Int) := by omega
    have W5 : IntKind.i64.wrap ((k : Int) + 1) = (k : Int) + 1 := by rw [IntKind.wrap_i64]; omega
    obtain ⟨g, o, rfl, hg, ho, hro, hc⟩ := HC.out k hlt
    obtain ⟨u0, u1⟩ := hc wr (HB0.out.trans (HBR.out.mono HB0.out.size))
    have b3 := hro.f
    have b4 := hro.c
    have W2 : IntKind.i64.wrap (o.f + o.c) = o.f + o.c := by rw [IntKind.wrap_i64]; omega
    have HMT : Hid (meetR x (eAt eRunR xs k) = (decide (x.f < o.f + o.c) && decide (o.f < x.f + x.c))) := hidP (by rw [ho]; rfl)
    clear hc hro ho
    go_upto_if 10 with fail
    refine wp_cond_true (by go_simp <;> omega) ?_
    go_upto_region 4 with fail
    obtain ⟨w2, hw2⟩ : ∃ w2, w2 = wr.alloc (.cells #[.int .i64 o.f, .int .i64 o.c] 259) := ⟨_, rfl⟩
    rw [← hw2]
    have z0 : w2.cell? ⟨wr.heap.size, 0, none⟩ = some (.int .i64 o.f) := by rw [hw2]; simp [go_sem]
    have z1 : w2.cell? ⟨wr.heap.size, 1, none⟩ = some (.int .i64 o.c) := by rw [hw2]; simp [go_sem]
    have hb2 : Below wr.heap.size wr w2 := by rw [hw2]; exact bal
    have HB2 : Hid (Below w0.heap.size w0 w2) := hidP (HBR.out.trans (hb2.mono HBR.out.size))
    replace y0 := (hb2.cell (p := ⟨w.heap.size, 0, none⟩) hBl).trans y0
    replace y1 := (hb2.cell (p := ⟨w.heap.size, 1, none⟩) hBl).trans y1
    clear hw2 hb2 u0 u1
    by_cases h1 : x.f < o.f + o.c
    · have e1 : decide (x.f < o.f + o.c) = true := by simpa using h1
      by_cases h2 : o.f < x.f + x.c
      · have e2 : decide (o.f < x.f + x.c) = true := by simpa using h2
        have HR : Hid (xs.any (meetR x) = true) := hidP (by
          rw [List.any_eq_true]
          refine ⟨eAt eRunR xs k, ?_, by rw [HMT.out, e1, e2]; rfl⟩
          unfold eAt
          rw [List.getD_eq_getElem?_getD, List.getElem?_eq_getElem hlt]
          exact List.getElem_mem _)
        clear h1 h2
        go_upto_if 30 with fail
        refine wp_cond_true (by go_simp) ?_
        go_wp2_with fail
        exact bodyPost_ret (v := .bool true) (by simp [results, Try.results223, go_sem, hsz]) rfl ⟨by rw [HR.out], HB0.out.trans (HB2.out.mono HB0.out.size)⟩
      · have e2 : decide (o.f < x.f + x.c) = false := by simpa using h2
        have HN : Hid (∀ j, j < k + 1 → meetR x (eAt eRunR xs j) = false) := hidP (fun j hj => by
          rcases Nat.lt_or_ge j k with h | h
          · exact HNO.out j h
          · obtain rfl : j = k := by omega
            rw [HMT.out, e1, e2]; rfl)
        clear h1 h2
        go_upto_if 30 with fail
        refine wp_cond_false (by go_simp) ?_
        go_wp2_with fail
        refine Met.intro (hJ (xs.length - (k + 1)) _ _ (by simp [hsz]) ⟨k + 1, rfl, by omega, by rw [show ((k + 1 : Nat) : Int) = (k : Int) + 1 by omega]; simp only [Fs]; and_intros <;> simp [hsz, s2, s7, s8, s9], HB2.out, HN.out⟩ (by omega))
    · have e1 : decide (x.f < o.f + o.c) = false := by simpa using h1
      have HN : Hid (∀ j, j < k + 1 → meetR x (eAt eRunR xs j) = false) := hidP (fun j hj => by
        rcases Nat.lt_or_ge j k with h | h
        · exact HNO.out j h
        · obtain rfl : j = k := by omega
          rw [HMT.out, e1]; rfl)
      clear h1
      go_upto_if 30 with fail
      refine wp_cond_false (by go_simp) ?_
      go_wp2_with fail
      refine Met.intro (hJ (xs.length - (k + 1)) _ _ (by simp [hsz]) ⟨k + 1, rfl, by omega, by rw [show ((k + 1 : Nat) : Int) = (k : Int) + 1 by omega]; simp only [Fs]; and_intros <;> simp [hsz, s2, s7, s8, s9], HB2.out, HN.out⟩ (by omega))
  · obtain rfl : k = xs.length := by omega
    have K2 : ¬ (xs.length : Int) < (xs.length : Int) := by omega
    have HR : Hid (xs.any (meetR x) = false) := hidP (by
      rw [List.any_eq_false]
      intro o ho
      obtain ⟨i, hi, e⟩ := List.mem_iff_getElem.1 ho
      have := HNO.out i hi
      unfold eAt at this
      rw [List.getD_eq_getElem?_getD, List.getElem?_eq_getElem hi] at this
      subst e
      simpa using this)
    go_upto_if 10 with fail
    refine wp_cond_false (by go_simp <;> omega) ?_
    go_wp2_with fail
    exact bodyPost_ret (v := .bool false) (by simp [results, Try.results223, go_sem, hsz]) rfl ⟨by rw [HR.out], HB0.out.trans (HBR.out.mono HB0.out.size)⟩
end Go.Proofs.Ytnmhkgmmpkjjeab
