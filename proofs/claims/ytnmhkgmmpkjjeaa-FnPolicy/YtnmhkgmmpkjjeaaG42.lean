import Derived.Test.YtnmhkgmmpkjjeaaG41
import Derived.Test.YtnmhkgmmpkjjeaaG20
namespace Go.Proofs.Ytnmhkgmmpkjjeaa
open Go.ChangeShapes Go.WideShapes Go.ChangeAt Go.RowKit
set_option linter.unusedVariables false
set_option linter.unusedSimpArgs false
set_option maxRecDepth 100000
attribute [local go_sem ↓] Go.wp_at_zero Go.wp_at_succ

def aF (a : Option Addr) (cap : Nat) (cs : List Int) (v : Int) (P : Nat) (B C D E : Int) (N : Nat) (SL : Int) (g : Nat) (l : List ArE) (c k : Nat) (w6 : World) : List (Nat × Value) := [(0, .slice a cs.length cap), (1, .int .i64 ((P : Int) + 1 + 1 + 1 + 1 + 1)), (2, .int .i64 v), (9, .int .i64 B), (10, .int .i64 C), (11, .int .i64 D), (12, .int .i64 E), (13, .int .i64 (N : Int)), (14, .int .i64 SL), (15, .slice (some ⟨g, 0, none⟩) l.length c), (16, .int .i64 (k : Int)), (17, .pointer (some ⟨w6.heap.size, 0, none⟩))]
theorem wrp {x : Int} (h : -9223372036854775808 ≤ x ∧ x ≤ 9223372036854775807) : IntKind.i64.wrap x = x := by rw [IntKind.wrap_i64]; omega
theorem cT {P : Program} {Q : Exit → Act → World → Prop} {a : Act} {w : World} {c : Operand} {x y : Code} (hc : a.eval c = .bool true) (h : x.wp P Q a w) : (Code.cond c x y).wp P Q a w := wp_cond hc h
theorem cF {P : Program} {Q : Exit → Act → World → Prop} {a : Act} {w : World} {c : Operand} {x y : Code} (hc : a.eval c = .bool false) (h : y.wp P Q a w) : (Code.cond c x y).wp P Q a w := wp_cond hc h
theorem XB.all {w6 wz : World} {x : ArE} (h : XB w6 wz x) : w6.heap.size < wz.heap.size ∧ wz.cell? ⟨w6.heap.size, 0, none⟩ = some (.int .i64 x.page) ∧ wz.cell? ⟨w6.heap.size, 1, none⟩ = some (.int .i64 x.count) ∧ wz.cell? ⟨w6.heap.size, 2, none⟩ = some (.int .i64 x.out) ∧ wz.cell? ⟨w6.heap.size, 3, none⟩ = some (.int .i64 x.perm) ∧ wz.cell? ⟨w6.heap.size, 4, none⟩ = some (.bool x.huge) ∧ wz.cell? ⟨w6.heap.size, 5, none⟩ = some (.int .i64 x.same) ∧ wz.cell? ⟨w6.heap.size, 6, none⟩ = some (.bool x.gone) ∧ wz.frozen? ⟨w6.heap.size, 0, none⟩ = false ∧ wz.frozen? ⟨w6.heap.size, 1, none⟩ = false ∧ wz.frozen? ⟨w6.heap.size, 2, none⟩ = false ∧ wz.frozen? ⟨w6.heap.size, 3, none⟩ = false ∧ wz.frozen? ⟨w6.heap.size, 4, none⟩ = false ∧ wz.frozen? ⟨w6.heap.size, 5, none⟩ = false ∧ wz.frozen? ⟨w6.heap.size, 6, none⟩ = false :=
  ⟨h.lt, h.c0, h.c1, h.c2, h.c3, h.c4, h.c5, h.c6, h.fz 0 (by omega), h.fz 1 (by omega), h.fz 2 (by omega), h.fz 3 (by omega), h.fz 4 (by omega), h.fz 5 (by omega), h.fz 6 (by omega)⟩
theorem mj {n : Nat} {l : List (Nat × Value)} {R : World → Prop} {J : Act → World → Prop} {tm : Array Value} {w' : World} (hJ : ∀ tm w', tm.size = n → Fs tm l → R w' → J ⟨tm, []⟩ w') (h : R w') (h1 : tm.size = n := by simp [hsz]) (h2 : Fs tm l := by (simp only [Fs, aF]; and_intros <;> simp [hsz, s0, s1, s2, s9, s10, s11, s12, s13, s14, s15, s16, s17])) : Met J ⟨tm, []⟩ w' := Met.intro (hJ _ _ h1 h2 h)
set_option maxHeartbeats 16000000 in
theorem drawAreas_any (v : Int) (hv : v = 0 ∨ v = 1) (a : Option Addr) (cap : Nat) (cs : List Int) (p : Nat) (w : World) (hc : Byt cs) (hp : p ≤ 90000) (hs : BAt w a cs) :
    Calls Try.prog 115 #[.slice a cs.length cap, .int .i64 (p : Int), .int .i64 v] w fun e w' => ∃ g c : Nat, e = .returned (.tuple #[.slice (some ⟨g, 0, none⟩) (areas v cs p (arN cs)).1.length c, .int .i64 ((p + 5 * arN cs : Nat) : Int)]) ∧ ERow eArea w' w.heap.size (.slice (some ⟨g, 0, none⟩) (areas v cs p (arN cs)).1.length c) (areas v cs p (arN cs)).1 ∧ Below w.heap.size w w' := by
  obtain ⟨iA, hiA, hz0, hz1, hz2⟩ := info_parts infoArea
  obtain ⟨bN0, bN1⟩ := arN_bd cs
  have t0 := size_any a cap cs 12 3 8 w hc.1 (by omega) (by omega) (by omega)
  rw [show (if (8 : Int) < 3 + (cs.length : Int) / 12 then 8 else 3 + (cs.length : Int) / 12) = (arN cs : Int) by unfold arN; split <;> split <;> omega] at t0
  have HTK : Hid (∀ (P : Nat) (n : Int) wX, P ≤ 1000000 → n ≤ 1000000 → Below w.heap.size w wX → Calls Try.prog 37 #[.slice a cs.length cap, .int .i64 (P : Int), .int .i64 n] wX fun e w' => e = .returned (.tuple #[.int .i64 (tkV cs P n), .int .i64 ((P : Int) + 1)]) ∧ Below wX.heap.size wX w') := hidP fun P n wX h1 h2 hX => take_any a cap cs P n wX hc h1 h2 (hs.below hX)
  have HBD : Hid (∀ (P : Nat) (n : Int), 1 ≤ n → P ≤ 1000000 → 0 ≤ tkV cs P n ∧ tkV cs P n < n) := hidP (fun P n h1 h2 => tkV_bd cs P n h1 hc h2)
  have HOK : Hid (∀ k, k ≤ 8 → (areas v cs p k).1.length = k ∧ (0 ≤ (areas v cs p k).2 ∧ (areas v cs p k).2 ≤ 7 * k) ∧ ∀ j, j < k → AB (19010 + 128 * (k : Int)) (eAt eArea (areas v cs p k).1 j)) := hidP (areas_ok v cs p hc hp)
  have HVV := hidP hv
  generalize arN cs = N at *
  clear hc hs hv
  refine calls_o 345 Try.func115 rfl (by rfl) (by simp) ?_
  intro tm hsz hl
  have s0 := hl 0 (by simp)
  have s1 := hl 1 (by simp)
  have s2 := hl 2 (by simp)
  clear hl
  simp only [List.getElem_toArray, List.getElem_cons_zero, List.getElem_cons_succ] at s0 s1 s2
  go_wp2_with fail
  refine t0.mono ?_
  rintro e w1 ⟨rfl, hb1⟩
  have HB1 : Hid (Below w.heap.size w w1) := hb1
  have HL0 : Hid (LS eArea w1 _ _ []) := hidP (LS.new eArea w1)
  clear t0 hb1
  go_wp2_with fail
  refine wp_loop_o 345 (fun j tm wr => ∃ k : Nat, j = N - k ∧ k ≤ N ∧ ∃ vv, Fs tm [(0, .slice a cs.length cap), (1, .int .i64 ((p + 5 * k : Nat) : Int)), (2, .int .i64 v), (13, .int .i64 (N : Int)), (14, .int .i64 (areas v cs p k).2), (15, vv), (16, .int .i64 (k : Int))] ∧ LS eArea w1 wr vv (areas v cs p k).1) N (by simp [hsz]) ⟨0, by omega, by omega, _, by simp [Fs, s0, s1, s2, hsz, areas], HL0.out⟩ ?_
  clear s0 s1 s2 hsz HL0
  clear tm
  intro j tm wr J K hsz hI hJ hK
  obtain ⟨k, hj, hk, vv, hs, hls⟩ := hI
  obtain ⟨⟨g, c, rfl, hrw⟩, hbw⟩ := hls
  simp only [Fs] at hs
  obtain ⟨s0, s1, s2, s13, s14, s15, s16, -⟩ := hs
  have hls : LS eArea w1 wr (.slice (some ⟨g, 0, none⟩) (areas v cs p k).1.length c) (areas v cs p k).1 := ⟨⟨g, c, rfl, hrw⟩, hbw⟩
  clear hrw hbw
  subst hj
  obtain ⟨hlen, hsl, hab⟩ := HOK.out k (by omega)
  by_cases hlt : k < N
  · have K1 : (k : Int) < (N : Int) := by omega
    have HNX : Hid (areas v cs p (k + 1) = ((areas v cs p k).1 ++ [arStep v k (arSlot k (tkV cs (p + 5 * k) 6) (areas v cs p k).2) (tkV cs (p + 5 * k + 1) 12) (tkV cs (p + 5 * k + 2) 32) (tkV cs (p + 5 * k + 3) 16) (tkV cs (p + 5 * k + 4) 16) (areas v cs p k).1], arSlot k (tkV cs (p + 5 * k) 6) (areas v cs p k).2)) := hidP rfl
    obtain ⟨P, hP⟩ : ∃ P, p + 5 * k = P := ⟨_, rfl⟩
    have HPN : Hid (((p + 5 * (k + 1) : Nat) : Int) = (P : Int) + 1 + 1 + 1 + 1 + 1) := hidP (by omega)
    have hPl : P ≤ 100000 := by omega
    rw [hP] at HNX s1
    generalize (areas v cs p k).1 = l at *
    generalize (areas v cs p k).2 = S at *
    have HLEN : Hid (l.length = k) := hlen
    have HAB : Hid (∀ j, j < k → AB (19010 + 128 * (k : Int)) (eAt eArea l j)) := hab
    obtain ⟨bA0, bA1⟩ := HBD.out P 6 (by omega) (by omega)
    obtain ⟨bB0, bB1⟩ := HBD.out (P + 1) 12 (by omega) (by omega)
    obtain ⟨bC0, bC1⟩ := HBD.out (P + 2) 32 (by omega) (by omega)
    obtain ⟨bD0, bD1⟩ := HBD.out (P + 3) 16 (by omega) (by omega)
    obtain ⟨bE0, bE1⟩ := HBD.out (P + 4) 16 (by omega) (by omega)
    have HTA : Hid (∀ wX, Below w1.heap.size w1 wX → Below w.heap.size w wX) := hidP (fun wX hX => HB1.out.trans (hX.mono HB1.out.size))
    have HT1 : Hid _ := hidP fun wX (hX : Below w1.heap.size w1 wX) => HTK.out P 6 wX (by omega) (by omega) (HTA.out wX hX)
    have HT2 : Hid _ := hidP fun wX (hX : Below w1.heap.size w1 wX) => HTK.out (P + 1) 12 wX (by omega) (by omega) (HTA.out wX hX)
    rw [show ((P + 1 : Nat) : Int) = (P : Int) + 1 by omega] at HT2
    have HT3 : Hid _ := hidP fun wX (hX : Below w1.heap.size w1 wX) => HTK.out (P + 2) 32 wX (by omega) (by omega) (HTA.out wX hX)
    rw [show ((P + 2 : Nat) : Int) = (P : Int) + 1 + 1 by omega] at HT3
    have HT4 : Hid _ := hidP fun wX (hX : Below w1.heap.size w1 wX) => HTK.out (P + 3) 16 wX (by omega) (by omega) (HTA.out wX hX)
    rw [show ((P + 3 : Nat) : Int) = (P : Int) + 1 + 1 + 1 by omega] at HT4
    have HT5 : Hid _ := hidP fun wX (hX : Below w1.heap.size w1 wX) => HTK.out (P + 4) 16 wX (by omega) (by omega) (HTA.out wX hX)
    rw [show ((P + 4 : Nat) : Int) = (P : Int) + 1 + 1 + 1 + 1 by omega] at HT5
    generalize tkV cs P 6 = A at *
    generalize tkV cs (P + 1) 12 = B at *
    generalize tkV cs (P + 2) 32 = C at *
    generalize tkV cs (P + 3) 16 = D at *
    generalize tkV cs (P + 4) 16 = E at *
    have HLS0 : Hid (LS eArea w1 wr (.slice (some ⟨g, 0, none⟩) l.length c) l) := hls
    have t1 := HT1.out wr hls.bel
    clear hls hlen hab hP
    go_upto_if 23 with fail
    refine cT (by go_simp <;> omega) ?_
    go_wp2_with fail
    refine t1.mono ?_
    rintro e w2 ⟨rfl, hb⟩
    have HLS1 : Hid (LS eArea w1 w2 (.slice (some ⟨g, 0, none⟩) l.length c) l) := hidP (HLS0.out.below hb)
    have t2 := HT2.out w2 HLS1.out.bel
    clear t1 hb HLS0
    go_wp2_with fail
    refine t2.mono ?_
    rintro e w3 ⟨rfl, hb⟩
    have HLS2 : Hid (LS eArea w1 w3 (.slice (some ⟨g, 0, none⟩) l.length c) l) := hidP (HLS1.out.below hb)
    have t3 := HT3.out w3 HLS2.out.bel
    clear t2 hb HLS1
    go_wp2_with fail
    refine t3.mono ?_
    rintro e w4 ⟨rfl, hb⟩
    have HLS3 : Hid (LS eArea w1 w4 (.slice (some ⟨g, 0, none⟩) l.length c) l) := hidP (HLS2.out.below hb)
    have t4 := HT4.out w4 HLS3.out.bel
    clear t3 hb HLS2
    go_wp2_with fail
    refine t4.mono ?_
    rintro e w5 ⟨rfl, hb⟩
    have HLS4 : Hid (LS eArea w1 w5 (.slice (some ⟨g, 0, none⟩) l.length c) l) := hidP (HLS3.out.below hb)
    have t5 := HT5.out w5 HLS4.out.bel
    clear t4 hb HLS3
    go_wp2_with fail
    refine t5.mono ?_
    rintro e w6 ⟨rfl, hb⟩
    have HLS5 : Hid (LS eArea w1 w6 (.slice (some ⟨g, 0, none⟩) l.length c) l) := hidP (HLS4.out.below hb)
    clear t5 hb HLS4
    go_upto_region 12 with fail
    refine wp_narrow 345 [(0, .slice a cs.length cap), (1, .int .i64 ((P : Int) + 1 + 1 + 1 + 1 + 1)), (2, .int .i64 v), (8, .int .i64 A), (9, .int .i64 B), (10, .int .i64 C), (11, .int .i64 D), (12, .int .i64 E), (13, .int .i64 (N : Int)), (14, .int .i64 S), (15, .slice (some ⟨g, 0, none⟩) l.length c), (16, .int .i64 (k : Int))] (by simp [hsz]) (by simp only [Fs, aF]; and_intros <;> simp [hsz, s0, s1, s2, s13, s14, s15, s16]) ?_
    clear s0 s1 s2 s13 s14 s15 s16 hsz
    clear tm
    intro tm hsz hs
    simp only [Fs] at hs
    obtain ⟨s0, s1, s2, s8, s9, s10, s11, s12, s13, s14, s15, s16, -⟩ := hs
    obtain ⟨⟨g', c', e', hrw'⟩, hbw⟩ := HLS5.out
    have hrw : ERow eArea w6 w1.heap.size (.slice (some ⟨g, 0, none⟩) l.length c) l := by rw [e']; exact hrw'
    have HRW : Hid (ERow eArea w6 w1.heap.size (.slice (some ⟨g, 0, none⟩) l.length c) l) := hrw
    have HBW : Hid (Below w1.heap.size w1 w6) := hbw
    clear hrw hbw hrw' e' HT1 HT2 HT3 HT4 HT5 HTK HBD
    have hSb : 0 ≤ arSlot k A S ∧ arSlot k A S ≤ 7 * ((k : Int) + 1) := by
      unfold arSlot
      repeat' split
      all_goals omega
    have HSD : Hid (arSlot k A S = if k = 0 then S else S + 1 + (if 2 < A then A - 2 else 0) + (if A = 5 then 3 else 0)) := hidP rfl
    generalize arSlot k A S = SL at *
    go_upto_if 57 with fail
    refine wp_mid 345 [(0, .slice a cs.length cap), (1, .int .i64 ((P : Int) + 1 + 1 + 1 + 1 + 1)), (2, .int .i64 v), (9, .int .i64 B), (10, .int .i64 C), (11, .int .i64 D), (12, .int .i64 E), (13, .int .i64 (N : Int)), (14, .int .i64 SL), (15, .slice (some ⟨g, 0, none⟩) l.length c), (16, .int .i64 (k : Int))] (fun wz => wz = w6) ?_ ?_
    · intro J K hJ hK
      by_cases h0 : k = 0
      · have h0b : ¬ (0 : Int) < (k : Int) := by omega
        have HE : Hid (SL = S) := hidP (by rw [HSD.out, if_pos h0])
        clear h0
        go_upto_if 57 with fail
        refine cF (by go_simp <;> omega) ?_
        go_wp2_with fail
        rw [HE.out] at hJ
        refine Met.intro (hJ _ _ (by simp [hsz]) (by simp only [Fs, aF]; and_intros <;> simp [hsz, s0, s1, s2, s8, s9, s10, s11, s12, s13, s14, s15, s16]) ?_)
        rfl
      · have h0b : (0 : Int) < (k : Int) := by omega
        have h0c : 0 < k := by omega
        have W1 := wrp (x := S + 1) (by omega)
        by_cases h2 : 2 < A
        · have h2b : decide (2 < A) = true := by simpa using h2
          have W2 := wrp (x := S + 1 + A) (by omega)
          have W3 := wrp (x := S + 1 + A - 2) (by omega)
          by_cases h5 : A = 5
          · have h5b : (A == 5) = true := by simpa using h5
            have W4 := wrp (x := S + 1 + A - 2 + 3) (by omega)
            have HE : Hid (SL = S + 1 + A - 2 + 3) := hidP (by rw [HSD.out, if_neg h0, if_pos h2, if_pos h5]; omega)
            clear h0 h5
            go_upto_if 57 with fail
            refine cT (by go_simp <;> omega) ?_
            go_upto_if 61 with fail
            refine cT (by go_simp <;> omega) ?_
            go_upto_if 67 with fail
            refine cT (by go_simp <;> omega) ?_
            go_wp2_with fail
            rw [HE.out] at hJ
            refine Met.intro (hJ _ _ (by simp [hsz]) (by simp only [Fs, aF]; and_intros <;> simp [hsz, s0, s1, s2, s8, s9, s10, s11, s12, s13, s14, s15, s16]) ?_)
            rfl
          · have h5b : (A == 5) = false := by simpa using h5
            have HE : Hid (SL = S + 1 + A - 2) := hidP (by rw [HSD.out, if_neg h0, if_pos h2, if_neg h5]; omega)
            clear h0 h5
            go_upto_if 57 with fail
            refine cT (by go_simp <;> omega) ?_
            go_upto_if 61 with fail
            refine cT (by go_simp <;> omega) ?_
            go_upto_if 67 with fail
            refine cF (by go_simp <;> omega) ?_
            go_wp2_with fail
            rw [HE.out] at hJ
            refine Met.intro (hJ _ _ (by simp [hsz]) (by simp only [Fs, aF]; and_intros <;> simp [hsz, s0, s1, s2, s8, s9, s10, s11, s12, s13, s14, s15, s16]) ?_)
            rfl
        · have h2b : decide (2 < A) = false := by simpa using h2
          have h5b : (A == 5) = false := by simp; omega
          have HE : Hid (SL = S + 1) := hidP (by rw [HSD.out, if_neg h0, if_neg h2, if_neg (by omega)]; omega)
          clear h0
          go_upto_if 57 with fail
          refine cT (by go_simp <;> omega) ?_
          go_upto_if 61 with fail
          refine cF (by go_simp <;> omega) ?_
          go_upto_if 67 with fail
          refine cF (by go_simp <;> omega) ?_
          go_wp2_with fail
          rw [HE.out] at hJ
          refine Met.intro (hJ _ _ (by simp [hsz]) (by simp only [Fs, aF]; and_intros <;> simp [hsz, s0, s1, s2, s8, s9, s10, s11, s12, s13, s14, s15, s16]) ?_)
          rfl
    clear s0 s1 s2 s8 s9 s10 s11 s12 s13 s14 s15 s16 hsz
    try clear tm
    intro tm wc hsz hs hcut
    simp only [Fs] at hs
    obtain ⟨s0, s1, s2, s9, s10, s11, s12, s13, s14, s15, s16, -⟩ := hs
    obtain rfl : w6 = wc := hcut.symm
    obtain ⟨C7, hC7⟩ : ∃ C7, C7 = C % 7 := ⟨_, rfl⟩
    have eC7 : C.tmod 7 = C7 := by rw [Int.tmod_eq_emod_of_nonneg bC0]; exact hC7.symm
    have W1 := wrp (x := SL * 64) (by omega)
    have W2 := wrp (x := B + 1) (by omega)
    have W3 := wrp (x := 1024 * (k : Int)) (by omega)
    have W4 := wrp (x := 1024 * (k : Int) + 16) (by omega)
    have W5 := wrp (x := C7 + 1) (by omega)
    obtain ⟨X0, hX0⟩ : ∃ X0, X0 = ar0 k SL B C := ⟨_, rfl⟩
    have HE0 : Hid (X0 = ar0 k SL B C) := hX0
    have HAB0 : Hid (AB 19000 X0) := hidP (by rw [hX0]; exact ar0_b (by omega) hSb ⟨bB0, bB1⟩ bC0)
    have HC7 : Hid (C7 = C % 7) := hC7
    clear hC7 hX0
    go_upto_region 19 with fail
    obtain ⟨w7, hw7⟩ : ∃ w7, w7 = w6.alloc (.cells #[.int .i64 (SL * 64), .int .i64 (B + 1), .int .i64 (1024 * (k : Int) + 16), .int .i64 (C7 + 1), .bool (decide (10 ≤ C)), .int .i64 (-1), .bool false] 219) := ⟨_, rfl⟩
    have HX0 : Hid (XB w6 w7 X0) := hidP (by
      rw [HE0.out, hw7]
      unfold ar0
      rw [← HC7.out]
      refine ⟨?_, ?_, ?_, ?_, ?_, ?_, ?_, fun i hi => ?_, bal, by simp⟩
      iterate 7 (simp [go_sem])
      · rcases (show i = 0 ∨ i = 1 ∨ i = 2 ∨ i = 3 ∨ i = 4 ∨ i = 5 ∨ i = 6 by omega) with rfl | rfl | rfl | rfl | rfl | rfl | rfl <;> simp [go_sem])
    rw [← hw7]
    refine wp_narrow 345 (aF a cap cs v P B C D E N SL g l c k w6) (by simp [hsz]) (by simp only [Fs, aF]; and_intros <;> simp [hsz, s0, s1, s2, s9, s10, s11, s12, s13, s14, s15, s16]) ?_
    clear s0 s1 s2 s9 s10 s11 s12 s13 s14 s15 s16 hsz
    clear tm
    intro tm hsz hs
    simp only [Fs, aF] at hs
    obtain ⟨s0, s1, s2, s9, s10, s11, s12, s13, s14, s15, s16, s17, -⟩ := hs
    clear hw7 W1 W2 W3 W4 W5 eC7 HC7
    obtain ⟨X1, hX1⟩ : ∃ X1, X1 = ar1 B X0 := ⟨_, rfl⟩
    have HE1 : Hid (X1 = ar1 B X0) := hX1
    clear hX1
    have HAB1 : Hid (AB 19000 X1) := hidP (by rw [HE1.out]; exact ar1_b ⟨bB0, bB1⟩ HAB0.out)
    obtain ⟨LX, y0, y1, y2, y3, y4, y5, y6, v0, v1, v2, v3, v4, v5, v6⟩ := HX0.out.all
    go_upto_if 84 with fail
    refine wp_mid 345 (aF a cap cs v P B C D E N SL g l c k w6) (fun wz => XB w6 wz X1) ?_ ?_
    · intro J K hJ hK
      by_cases hC : 6 ≤ B
      · have hCb : decide (6 ≤ B) = true := by simpa using hC
        have W1 := wrp (x := B - 5) (by omega)
        have W2 := wrp (x := (B - 5) * 8) (by omega)
        have HEE : Hid (X1 = ⟨X0.page, (B - 5) * 8, X0.out, X0.perm, X0.huge, X0.same, X0.gone⟩) := hidP (by rw [HE1.out]; unfold ar1; rw [if_pos hC])
        go_upto_if 84 with fail
        refine cT (by go_simp) ?_
        go_wp2_with fail
        refine mj hJ ?_
        rw [HEE.out]; exact HX0.out.s1 _
      · have hCb : decide (6 ≤ B) = false := by simpa using hC
        have HEE : Hid (X1 = X0) := hidP (by rw [HE1.out]; unfold ar1; rw [if_neg hC])
        go_upto_if 84 with fail
        refine cF (by go_simp) ?_
        go_wp2_with fail
        refine mj hJ ?_
        rw [HEE.out]; exact HX0.out
    clear s0 s1 s2 s9 s10 s11 s12 s13 s14 s15 s16 s17 hsz
    try clear tm
    intro tm wc hsz hs hcut
    simp only [Fs, aF] at hs
    obtain ⟨s0, s1, s2, s9, s10, s11, s12, s13, s14, s15, s16, s17, -⟩ := hs
    clear LX y0 y1 y2 y3 y4 y5 y6 v0 v1 v2 v3 v4 v5 v6
    obtain ⟨wx1, hwx⟩ : ∃ x, x = wc := ⟨_, rfl⟩
    rw [← hwx] at hcut ⊢
    clear hwx wc
    have HX1 : Hid (XB w6 wx1 X1) := hcut
    clear hcut
    obtain ⟨X2, hX2⟩ : ∃ X2, X2 = ar2 B X1 := ⟨_, rfl⟩
    have HE2 : Hid (X2 = ar2 B X1) := hX2
    clear hX2
    have HAB2 : Hid (AB 19000 X2) := hidP (by rw [HE2.out]; exact ar2_b HAB1.out)
    obtain ⟨LX, y0, y1, y2, y3, y4, y5, y6, v0, v1, v2, v3, v4, v5, v6⟩ := HX1.out.all
    go_upto_if 90 with fail
    refine wp_mid 345 (aF a cap cs v P B C D E N SL g l c k w6) (fun wz => XB w6 wz X2) ?_ ?_
    · intro J K hJ hK
      by_cases hC : B = 11
      · have hCb : (B == 11) = true := by simpa using hC
        skip
        have HEE : Hid (X2 = ⟨X1.page, 64, X1.out, X1.perm, X1.huge, X1.same, X1.gone⟩) := hidP (by rw [HE2.out]; unfold ar2; rw [if_pos hC])
        go_upto_if 90 with fail
        refine cT (by go_simp) ?_
        go_wp2_with fail
        refine mj hJ ?_
        rw [HEE.out]; exact HX1.out.s1 _
      · have hCb : (B == 11) = false := by simpa using hC
        have HEE : Hid (X2 = X1) := hidP (by rw [HE2.out]; unfold ar2; rw [if_neg hC])
        go_upto_if 90 with fail
        refine cF (by go_simp) ?_
        go_wp2_with fail
        refine mj hJ ?_
        rw [HEE.out]; exact HX1.out
    clear s0 s1 s2 s9 s10 s11 s12 s13 s14 s15 s16 s17 hsz
    try clear tm
    intro tm wc hsz hs hcut
    simp only [Fs, aF] at hs
    obtain ⟨s0, s1, s2, s9, s10, s11, s12, s13, s14, s15, s16, s17, -⟩ := hs
    clear LX y0 y1 y2 y3 y4 y5 y6 v0 v1 v2 v3 v4 v5 v6
    obtain ⟨wx2, hwx⟩ : ∃ x, x = wc := ⟨_, rfl⟩
    rw [← hwx] at hcut ⊢
    clear hwx wc
    have HX2 : Hid (XB w6 wx2 X2) := hcut
    clear hcut
    obtain ⟨X3, hX3⟩ : ∃ X3, X3 = ar3 B D X2 := ⟨_, rfl⟩
    have HE3 : Hid (X3 = ar3 B D X2) := hX3
    clear hX3
    have HAB3 : Hid (AB 19005 X3) := hidP (by rw [HE3.out]; exact (ar3_b HAB2.out).mono (by omega))
    obtain ⟨LX, y0, y1, y2, y3, y4, y5, y6, v0, v1, v2, v3, v4, v5, v6⟩ := HX2.out.all
    obtain ⟨D4, hD4⟩ : ∃ D4, D4 = D % 4 := ⟨_, rfl⟩
    have eD4 : D.tmod 4 = D4 := by rw [Int.tmod_eq_emod_of_nonneg bD0]; exact hD4.symm
    have HD4 : Hid (D4 = D % 4) := hD4
    obtain ⟨CB, hCB⟩ : ∃ CB, decide (D4 = 0 ∧ B < 10) = CB := ⟨_, rfl⟩
    have HCB : Hid (decide (D4 = 0 ∧ B < 10) = CB) := hCB
    clear hD4 hCB
    go_upto_region 23 with fail
    refine wp_mid 345 ((98, .bool CB) :: aF a cap cs v P B C D E N SL g l c k w6) (fun wz => wz = wx2) ?_ ?_
    · intro J K hJ hK
      by_cases h4 : D4 = 0
      · have h4b : (D4 == 0) = true := by simpa using h4
        by_cases h10 : B < 10
        · have h10b : decide (B < 10) = true := by simpa using h10
          have HEE : Hid (true = CB) := hidP ((decide_eq_true (⟨h4, h10⟩ : D4 = 0 ∧ B < 10)).symm.trans HCB.out)
          go_wp2_with fail
          rw [← HEE.out] at hJ
          refine mj hJ ?_
          rfl
        · have h10b : decide (B < 10) = false := by simpa using h10
          have HEE : Hid (false = CB) := hidP ((decide_eq_false (by omega)).symm.trans HCB.out)
          go_wp2_with fail
          rw [← HEE.out] at hJ
          refine mj hJ ?_
          rfl
      · have h4b : (D4 == 0) = false := by simpa using h4
        have HEE : Hid (false = CB) := hidP ((decide_eq_false (by omega)).symm.trans HCB.out)
        go_wp2_with fail
        rw [← HEE.out] at hJ
        refine mj hJ ?_
        rfl
    clear s0 s1 s2 s9 s10 s11 s12 s13 s14 s15 s16 s17 hsz
    try clear tm
    intro tm wc hsz hs hcut
    simp only [Fs, aF] at hs
    obtain ⟨s98, s0, s1, s2, s9, s10, s11, s12, s13, s14, s15, s16, s17, -⟩ := hs
    obtain rfl : wx2 = wc := hcut.symm
    go_upto_if 98 with fail
    refine wp_mid 345 (aF a cap cs v P B C D E N SL g l c k w6) (fun wz => XB w6 wz X3) ?_ ?_
    · intro J K hJ hK
      cases CB
      · have hh : ¬ (D4 = 0 ∧ B < 10) := of_decide_eq_false HCB.out
        have HEE : Hid (X3 = X2) := hidP (by rw [HE3.out]; unfold ar3; rw [← HD4.out, if_neg hh])
        clear hh
        go_upto_if 98 with fail
        refine cF (by go_simp) ?_
        go_wp2_with fail
        refine mj hJ ?_
        rw [HEE.out]; exact HX2.out
      · have hh : D4 = 0 ∧ B < 10 := of_decide_eq_true HCB.out
        have b2 := HAB2.out.p
        have b3 := HAB2.out.o
        have W1 := wrp (x := X2.page + 5) (by omega)
        have W2 := wrp (x := X2.out + 5) (by omega)
        have HEE : Hid (X3 = ⟨X2.page + 5, X2.count, X2.out + 5, X2.perm, X2.huge, X2.same, X2.gone⟩) := hidP (by rw [HE3.out]; unfold ar3; rw [← HD4.out, if_pos hh])
        clear hh
        go_upto_if 98 with fail
        refine cT (by go_simp) ?_
        go_wp2_with fail
        refine mj hJ ?_
        rw [HEE.out]; exact (HX2.out.s0 _).s2 _
    clear s0 s1 s2 s9 s10 s11 s12 s13 s14 s15 s16 s17 hsz
    try clear tm
    intro tm wc hsz hs hcut
    simp only [Fs, aF] at hs
    obtain ⟨s0, s1, s2, s9, s10, s11, s12, s13, s14, s15, s16, s17, -⟩ := hs
    clear LX y0 y1 y2 y3 y4 y5 y6 v0 v1 v2 v3 v4 v5 v6
    obtain ⟨wx3, hwx⟩ : ∃ x, x = wc := ⟨_, rfl⟩
    rw [← hwx] at hcut ⊢
    clear hwx wc
    have HX3 : Hid (XB w6 wx3 X3) := hcut
    clear hcut
    clear HD4 HCB
    obtain ⟨X4, hX4⟩ : ∃ X4, X4 = ar4 D X3 := ⟨_, rfl⟩
    have HE4 : Hid (X4 = ar4 D X3) := hX4
    clear hX4
    have HAB4 : Hid (AB 19010 X4) := hidP (by rw [HE4.out]; exact (ar4_b HAB3.out).mono (by omega))
    obtain ⟨LX, y0, y1, y2, y3, y4, y5, y6, v0, v1, v2, v3, v4, v5, v6⟩ := HX3.out.all
    go_upto_if 108 with fail
    refine wp_mid 345 (aF a cap cs v P B C D E N SL g l c k w6) (fun wz => XB w6 wz X4) ?_ ?_
    · intro J K hJ hK
      by_cases hC : D = 1
      · have hCb : (D == 1) = true := by simpa using hC
        have b3 := HAB3.out.o
        have W1 := wrp (x := X3.out + 3) (by omega)
        have HEE : Hid (X4 = ⟨X3.page, X3.count, X3.out + 3, X3.perm, X3.huge, X3.same, X3.gone⟩) := hidP (by rw [HE4.out]; unfold ar4; rw [if_pos hC])
        go_upto_if 108 with fail
        refine cT (by go_simp) ?_
        go_wp2_with fail
        refine mj hJ ?_
        rw [HEE.out]; exact HX3.out.s2 _
      · have hCb : (D == 1) = false := by simpa using hC
        have HEE : Hid (X4 = X3) := hidP (by rw [HE4.out]; unfold ar4; rw [if_neg hC])
        go_upto_if 108 with fail
        refine cF (by go_simp) ?_
        go_wp2_with fail
        refine mj hJ ?_
        rw [HEE.out]; exact HX3.out
    clear s0 s1 s2 s9 s10 s11 s12 s13 s14 s15 s16 s17 hsz
    try clear tm
    intro tm wc hsz hs hcut
    simp only [Fs, aF] at hs
    obtain ⟨s0, s1, s2, s9, s10, s11, s12, s13, s14, s15, s16, s17, -⟩ := hs
    clear LX y0 y1 y2 y3 y4 y5 y6 v0 v1 v2 v3 v4 v5 v6
    obtain ⟨wx4, hwx⟩ : ∃ x, x = wc := ⟨_, rfl⟩
    rw [← hwx] at hcut ⊢
    clear hwx wc
    have HX4 : Hid (XB w6 wx4 X4) := hcut
    clear hcut
    obtain ⟨X5, hX5⟩ : ∃ X5, X5 = ar5 k D l X4 := ⟨_, rfl⟩
    have HE5 : Hid (X5 = ar5 k D l X4) := hX5
    clear hX5
    have HAB5 : Hid (AB (19010 + 128 * (k : Int) + 64) X5) := hidP (by rw [HE5.out]; exact ar5_b HAB.out (HAB4.out.mono (by omega)))
    have HPV : Hid (0 < k → ∃ J PV, k = J + 1 ∧ eAt eArea l J = PV ∧ AB (19010 + 128 * (k : Int)) PV ∧ g < w6.heap.size ∧ ∀ wX, Below w6.heap.size w6 wX → wX.cell? ⟨g, J * 7, none⟩ = some (.int .i64 PV.page) ∧ wX.cell? ⟨g, J * 7 + 1, none⟩ = some (.int .i64 PV.count) ∧ wX.cell? ⟨g, J * 7 + 2, none⟩ = some (.int .i64 PV.out) ∧ wX.cell? ⟨g, J * 7 + 3, none⟩ = some (.int .i64 PV.perm) ∧ wX.cell? ⟨g, J * 7 + 4, none⟩ = some (.bool PV.huge) ∧ wX.cell? ⟨g, J * 7 + 5, none⟩ = some (.int .i64 PV.same) ∧ wX.cell? ⟨g, J * 7 + 6, none⟩ = some (.bool PV.gone)) := hidP (fun h0 => by
      obtain ⟨hg, hc⟩ := arS_cells HRW.out (k := k - 1) (by have := HLEN.out; omega) rfl
      exact ⟨k - 1, _, by omega, rfl, HAB.out (k - 1) (by omega), hg, fun wX hX => hc wX (hX.block g hg)⟩)
    obtain ⟨CB, hCB⟩ : ∃ CB, decide ((D = 2 ∨ 12 ≤ D) ∧ 0 < k ∧ (eAt eArea l (k - 1)).same < 0) = CB := ⟨_, rfl⟩
    have HCB : Hid (decide ((D = 2 ∨ 12 ≤ D) ∧ 0 < k ∧ (eAt eArea l (k - 1)).same < 0) = CB) := hCB
    clear hCB
    obtain ⟨LX, y0, y1, y2, y3, y4, y5, y6, v0, v1, v2, v3, v4, v5, v6⟩ := HX4.out.all
    go_upto_region 28 with fail
    refine wp_mid 345 ((131, .bool CB) :: aF a cap cs v P B C D E N SL g l c k w6) (fun wz => wz = wx4) ?_ ?_
    · intro J K hJ hK
      by_cases h2 : D = 2
      · have h2b : (D == 2) = true := by simpa using h2
        have hd : D = 2 ∨ 12 ≤ D := .inl h2
        clear h2
        by_cases h0 : 0 < k
        · have h0b : (0 : Int) < (k : Int) := by omega
          obtain ⟨J, PV, hJ, hPV, bF, hgn, hcl⟩ := HPV.out h0
          obtain ⟨u0, u1, u2, u3, u4, u5, u6⟩ := hcl wx4 HX4.out.bel
          have WJ : IntKind.i64.wrap ((k : Int) - 1) = (J : Int) := by rw [IntKind.wrap_i64]; omega
          have hl0 : (0 : Int) ≤ (J : Int) := by omega
          have hl1 : (J : Int) < (l.length : Int) := by have := HLEN.out; omega
          by_cases hs : PV.same < 0
          · have hsb : decide (PV.same < 0) = true := by simpa using hs
            have HEE : Hid (true = CB) := hidP ((decide_eq_true (⟨hd, h0, by rw [show k - 1 = J by omega, hPV]; exact hs⟩ : (D = 2 ∨ 12 ≤ D) ∧ 0 < k ∧ (eAt eArea l (k - 1)).same < 0)).symm.trans HCB.out)
            clear hPV hcl hJ hd
            go_wp2_with fail
            rw [← HEE.out] at hJ
            refine mj hJ ?_
            rfl
          · have hsb : decide (PV.same < 0) = false := by simpa using hs
            have HEE : Hid (false = CB) := hidP ((decide_eq_false (by rw [show k - 1 = J by omega, hPV]; omega)).symm.trans HCB.out)
            clear hPV hcl hJ hd
            go_wp2_with fail
            rw [← HEE.out] at hJ
            refine mj hJ ?_
            rfl
        · have h0b : ¬ (0 : Int) < (k : Int) := by omega
          have HEE : Hid (false = CB) := hidP ((decide_eq_false (by omega)).symm.trans HCB.out)
          clear hd
          go_wp2_with fail
          rw [← HEE.out] at hJ
          refine mj hJ ?_
          rfl
      · have h2b : (D == 2) = false := by simpa using h2
        by_cases h12 : 12 ≤ D
        · have h12b : decide (12 ≤ D) = true := by simpa using h12
          have hd : D = 2 ∨ 12 ≤ D := .inr h12
          by_cases h0 : 0 < k
          · have h0b : (0 : Int) < (k : Int) := by omega
            obtain ⟨J, PV, hJ, hPV, bF, hgn, hcl⟩ := HPV.out h0
            obtain ⟨u0, u1, u2, u3, u4, u5, u6⟩ := hcl wx4 HX4.out.bel
            have WJ : IntKind.i64.wrap ((k : Int) - 1) = (J : Int) := by rw [IntKind.wrap_i64]; omega
            have hl0 : (0 : Int) ≤ (J : Int) := by omega
            have hl1 : (J : Int) < (l.length : Int) := by have := HLEN.out; omega
            by_cases hs : PV.same < 0
            · have hsb : decide (PV.same < 0) = true := by simpa using hs
              have HEE : Hid (true = CB) := hidP ((decide_eq_true (⟨hd, h0, by rw [show k - 1 = J by omega, hPV]; exact hs⟩ : (D = 2 ∨ 12 ≤ D) ∧ 0 < k ∧ (eAt eArea l (k - 1)).same < 0)).symm.trans HCB.out)
              clear hPV hcl hJ hd
              go_wp2_with fail
              rw [← HEE.out] at hJ
              refine mj hJ ?_
              rfl
            · have hsb : decide (PV.same < 0) = false := by simpa using hs
              have HEE : Hid (false = CB) := hidP ((decide_eq_false (by rw [show k - 1 = J by omega, hPV]; omega)).symm.trans HCB.out)
              clear hPV hcl hJ hd
              go_wp2_with fail
              rw [← HEE.out] at hJ
              refine mj hJ ?_
              rfl
          · have h0b : ¬ (0 : Int) < (k : Int) := by omega
            have HEE : Hid (false = CB) := hidP ((decide_eq_false (by omega)).symm.trans HCB.out)
            clear hd
            go_wp2_with fail
            rw [← HEE.out] at hJ
            refine mj hJ ?_
            rfl
        · have h12b : decide (12 ≤ D) = false := by simpa using h12
          have HEE : Hid (false = CB) := hidP ((decide_eq_false (by omega)).symm.trans HCB.out)
          go_wp2_with fail
          rw [← HEE.out] at hJ
          refine mj hJ ?_
          rfl
    clear s0 s1 s2 s9 s10 s11 s12 s13 s14 s15 s16 s17 hsz
    try clear tm
    intro tm wc hsz hs hcut
    simp only [Fs, aF] at hs
    obtain ⟨s131, s0, s1, s2, s9, s10, s11, s12, s13, s14, s15, s16, s17, -⟩ := hs
    obtain rfl : wx4 = wc := hcut.symm
    go_upto_if 131 with fail
    refine wp_mid 345 (aF a cap cs v P B C D E N SL g l c k w6) (fun wz => XB w6 wz X5) ?_ ?_
    · intro J K hJ hK
      cases CB
      · have hh : ¬ ((D = 2 ∨ 12 ≤ D) ∧ 0 < k ∧ (eAt eArea l (k - 1)).same < 0) := of_decide_eq_false HCB.out
        have HEE : Hid (X5 = X4) := hidP (by rw [HE5.out]; unfold ar5; rw [if_neg hh])
        clear hh
        go_upto_if 131 with fail
        refine cF (by go_simp) ?_
        go_wp2_with fail
        refine mj hJ ?_
        rw [HEE.out]; exact HX4.out
      · have hh : (D = 2 ∨ 12 ≤ D) ∧ 0 < k ∧ (eAt eArea l (k - 1)).same < 0 := of_decide_eq_true HCB.out
        obtain ⟨J, PV, hJ, hPV, bF, hgn, hcl⟩ := HPV.out hh.2.1
        have WJ : IntKind.i64.wrap ((k : Int) - 1) = (J : Int) := by rw [IntKind.wrap_i64]; omega
        have hl0 : (0 : Int) ≤ (J : Int) := by omega
        have hl1 : (J : Int) < (l.length : Int) := by have := HLEN.out; omega
        have b1 := bF.p
        have b2 := bF.c
        have b3 := bF.o
        have W3 := wrp (x := PV.page + PV.count) (by omega)
        have W4 := wrp (x := PV.out + PV.count) (by omega)
        have HEE0 : Hid (X5 = ⟨PV.page + PV.count, if 40 < X4.count then 40 else X4.count, PV.out + PV.count, if D = 13 then X4.perm else PV.perm, PV.huge, X4.same, X4.gone⟩) := hidP (by rw [HE5.out]; unfold ar5; rw [if_pos hh, show k - 1 = J by omega, hPV])
        clear hh hPV hJ bF
        go_upto_if 131 with fail
        refine cT (by go_simp) ?_
        go_upto_region 29 with fail
        refine wp_region_held_drew (S := fun wX => wX.cell? ⟨g, J * 7, none⟩ = some (.int .i64 PV.page) ∧ wX.cell? ⟨g, J * 7 + 1, none⟩ = some (.int .i64 PV.count) ∧ wX.cell? ⟨g, J * 7 + 2, none⟩ = some (.int .i64 PV.out) ∧ wX.cell? ⟨g, J * 7 + 3, none⟩ = some (.int .i64 PV.perm) ∧ wX.cell? ⟨g, J * 7 + 4, none⟩ = some (.bool PV.huge) ∧ wX.cell? ⟨g, J * 7 + 5, none⟩ = some (.int .i64 PV.same) ∧ wX.cell? ⟨g, J * 7 + 6, none⟩ = some (.bool PV.gone)) (by kernel_rfl) (hcl _ HX4.out.bel.drew) (fun hHeld => ?_)
        refine tk 0 ?_
        refine tk 1 ?_
        refine tk 2 ?_
        refine tk 3 ?_
        refine tk 4 ?_
        refine tk 5 ?_
        refine tk 6 ?_
        refine tk 7 ?_
        refine tk 8 ?_
        refine tk 9 ?_
        refine tk 10 ?_
        refine tk 11 ?_
        refine tk 12 ?_
        refine tk 13 ?_
        refine wpAnyH_ready (rs := [14]) (by kernel_rfl) (by simp) ?_
        refine AllReadyH.cons rfl (fun K hK => ?_) AllReadyH.nil
        go_simp
        refine hK.out _ _ (hcl _ (HX4.out.bel.setCell (Nat.le_refl _) _).drew) (fun hHeld2 => ?_)
        clear hK K
        refine wpAnyH_done (by kernel_rfl) ?_ _
        clear hHeld hHeld2
        obtain ⟨wp, hwn⟩ : ∃ wn, wn = (wx4.setCell ⟨w6.heap.size, 0, none⟩ (.int .i64 (PV.page + PV.count))).drew := ⟨_, rfl⟩
        have Hwp : Hid (XB w6 wp ⟨PV.page + PV.count, X4.count, X4.out, X4.perm, X4.huge, X4.same, X4.gone⟩) := hidP (by rw [hwn]; exact (HX4.out.s0 _).drew)
        rw [← hwn]
        clear hwn
        clear LX y0 y1 y2 y3 y4 y5 y6 v0 v1 v2 v3 v4 v5 v6
        obtain ⟨LX, y0, y1, y2, y3, y4, y5, y6, v0, v1, v2, v3, v4, v5, v6⟩ := Hwp.out.all
        dsimp only at y0 y1 y2 y3 y4 y5 y6
        go_wp2_with fail
        refine wp_region_held_drew (S := fun wX => wX.cell? ⟨g, J * 7, none⟩ = some (.int .i64 PV.page) ∧ wX.cell? ⟨g, J * 7 + 1, none⟩ = some (.int .i64 PV.count) ∧ wX.cell? ⟨g, J * 7 + 2, none⟩ = some (.int .i64 PV.out) ∧ wX.cell? ⟨g, J * 7 + 3, none⟩ = some (.int .i64 PV.perm) ∧ wX.cell? ⟨g, J * 7 + 4, none⟩ = some (.bool PV.huge) ∧ wX.cell? ⟨g, J * 7 + 5, none⟩ = some (.int .i64 PV.same) ∧ wX.cell? ⟨g, J * 7 + 6, none⟩ = some (.bool PV.gone)) (by kernel_rfl) (hcl _ Hwp.out.bel.drew) (fun hHeld => ?_)
        refine tk 0 ?_
        refine tk 1 ?_
        refine tk 2 ?_
        refine tk 3 ?_
        refine tk 4 ?_
        refine tk 5 ?_
        refine tk 6 ?_
        refine tk 7 ?_
        refine tk 8 ?_
        refine tk 9 ?_
        refine tk 10 ?_
        refine tk 11 ?_
        refine tk 12 ?_
        refine tk 13 ?_
        refine wpAnyH_ready (rs := [14]) (by kernel_rfl) (by simp) ?_
        refine AllReadyH.cons rfl (fun K hK => ?_) AllReadyH.nil
        go_simp
        refine hK.out _ _ (hcl _ (Hwp.out.bel.setCell (Nat.le_refl _) _).drew) (fun hHeld2 => ?_)
        clear hK K
        refine wpAnyH_done (by kernel_rfl) ?_ _
        clear hHeld hHeld2
        obtain ⟨wq, hwn⟩ : ∃ wn, wn = (wp.setCell ⟨w6.heap.size, 2, none⟩ (.int .i64 (PV.out + PV.count))).drew := ⟨_, rfl⟩
        have Hwq : Hid (XB w6 wq ⟨PV.page + PV.count, X4.count, PV.out + PV.count, X4.perm, X4.huge, X4.same, X4.gone⟩) := hidP (by rw [hwn]; exact (Hwp.out.s2 _).drew)
        rw [← hwn]
        clear hwn
        clear LX y0 y1 y2 y3 y4 y5 y6 v0 v1 v2 v3 v4 v5 v6
        obtain ⟨LX, y0, y1, y2, y3, y4, y5, y6, v0, v1, v2, v3, v4, v5, v6⟩ := Hwq.out.all
        dsimp only at y0 y1 y2 y3 y4 y5 y6
        obtain ⟨u0, u1, u2, u3, u4, u5, u6⟩ := hcl wq Hwq.out.bel
        clear hcl
        by_cases h40 : 40 < X4.count
        · have h40b : decide (40 < X4.count) = true := by simpa using h40
          by_cases h13 : D = 13
          · have h13b : (D == 13) = true := by simpa using h13
            have HEE : Hid (X5 = ⟨PV.page + PV.count, 40, PV.out + PV.count, X4.perm, PV.huge, X4.same, X4.gone⟩) := hidP (by rw [HEE0.out, if_pos h40, if_pos h13])
            go_upto_if 162 with fail
            refine cT (by go_simp) ?_
            go_upto_if 165 with fail
            refine cF (by go_simp) ?_
            go_wp2_with fail
            refine mj hJ ?_
            rw [HEE.out]; exact (Hwq.out.s1 _).s4 _
          · have h13b : (D == 13) = false := by simpa using h13
            have HEE : Hid (X5 = ⟨PV.page + PV.count, 40, PV.out + PV.count, PV.perm, PV.huge, X4.same, X4.gone⟩) := hidP (by rw [HEE0.out, if_pos h40, if_neg h13])
            go_upto_if 162 with fail
            refine cT (by go_simp) ?_
            go_upto_if 165 with fail
            refine cT (by go_simp) ?_
            go_wp2_with fail
            refine mj hJ ?_
            rw [HEE.out]; exact ((Hwq.out.s1 _).s3 _).s4 _
        · have h40b : decide (40 < X4.count) = false := by simpa using h40
          by_cases h13 : D = 13
          · have h13b : (D == 13) = true := by simpa using h13
            have HEE : Hid (X5 = ⟨PV.page + PV.count, X4.count, PV.out + PV.count, X4.perm, PV.huge, X4.same, X4.gone⟩) := hidP (by rw [HEE0.out, if_neg h40, if_pos h13])
            go_upto_if 162 with fail
            refine cF (by go_simp) ?_
            go_upto_if 165 with fail
            refine cF (by go_simp) ?_
            go_wp2_with fail
            refine mj hJ ?_
            rw [HEE.out]; exact Hwq.out.s4 _
          · have h13b : (D == 13) = false := by simpa using h13
            have HEE : Hid (X5 = ⟨PV.page + PV.count, X4.count, PV.out + PV.count, PV.perm, PV.huge, X4.same, X4.gone⟩) := hidP (by rw [HEE0.out, if_neg h40, if_neg h13])
            go_upto_if 162 with fail
            refine cF (by go_simp) ?_
            go_upto_if 165 with fail
            refine cT (by go_simp) ?_
            go_wp2_with fail
            refine mj hJ ?_
            rw [HEE.out]; exact (Hwq.out.s3 _).s4 _
    clear s0 s1 s2 s9 s10 s11 s12 s13 s14 s15 s16 s17 hsz
    try clear tm
    intro tm wc hsz hs hcut
    simp only [Fs, aF] at hs
    obtain ⟨s0, s1, s2, s9, s10, s11, s12, s13, s14, s15, s16, s17, -⟩ := hs
    clear LX y0 y1 y2 y3 y4 y5 y6 v0 v1 v2 v3 v4 v5 v6
    obtain ⟨wx5, hwx⟩ : ∃ x, x = wc := ⟨_, rfl⟩
    rw [← hwx] at hcut ⊢
    clear hwx wc
    have HX5 : Hid (XB w6 wx5 X5) := hcut
    clear hcut
    clear HCB HPV
    obtain ⟨X6, hX6⟩ : ∃ X6, X6 = ar6 k D l X5 := ⟨_, rfl⟩
    have HE6 : Hid (X6 = ar6 k D l X5) := hX6
    clear hX6
    have HAB6 : Hid (AB 30000 X6) := hidP (by rw [HE6.out]; exact (ar6_b (K := 19200 + 128 * (k : Int)) (fun j hj => (HAB.out j hj).mono (by omega)) (HAB5.out.mono (by omega))).mono (by omega))
    have HFV : Hid (0 < k → ∃ FV, eAt eArea l 0 = FV ∧ AB (19010 + 128 * (k : Int)) FV ∧ g < w6.heap.size ∧ ∀ wX, Below w6.heap.size w6 wX → wX.cell? ⟨g, 0, none⟩ = some (.int .i64 FV.page) ∧ wX.cell? ⟨g, 1, none⟩ = some (.int .i64 FV.count) ∧ wX.cell? ⟨g, 2, none⟩ = some (.int .i64 FV.out) ∧ wX.cell? ⟨g, 3, none⟩ = some (.int .i64 FV.perm) ∧ wX.cell? ⟨g, 4, none⟩ = some (.bool FV.huge) ∧ wX.cell? ⟨g, 5, none⟩ = some (.int .i64 FV.same) ∧ wX.cell? ⟨g, 6, none⟩ = some (.bool FV.gone)) := hidP (fun h0 => by
      obtain ⟨hg, hc⟩ := arS_cells HRW.out (k := 0) (by have := HLEN.out; omega) rfl
      refine ⟨_, rfl, HAB.out 0 h0, hg, fun wX hX => ?_⟩
      have := hc wX (hX.block g hg)
      simpa using this)
    obtain ⟨CB, hCB⟩ : ∃ CB, decide (D = 3 ∧ 0 < k ∧ (eAt eArea l 0).count ≤ 48) = CB := ⟨_, rfl⟩
    have HCB : Hid (decide (D = 3 ∧ 0 < k ∧ (eAt eArea l 0).count ≤ 48) = CB) := hCB
    clear hCB
    obtain ⟨LX, y0, y1, y2, y3, y4, y5, y6, v0, v1, v2, v3, v4, v5, v6⟩ := HX5.out.all
    go_upto_region 36 with fail
    refine wp_mid 345 ((192, .bool CB) :: aF a cap cs v P B C D E N SL g l c k w6) (fun wz => wz = wx5) ?_ ?_
    · intro J K hJ hK
      by_cases h3 : D = 3
      · have h3b : (D == 3) = true := by simpa using h3
        by_cases h0 : 0 < k
        · have h0b : (0 : Int) < (k : Int) := by omega
          obtain ⟨FV, hFV, bF, hgn, hcl⟩ := HFV.out h0
          obtain ⟨u0, u1, u2, u3, u4, u5, u6⟩ := hcl wx5 HX5.out.bel
          have hl1 : (0 : Int) < (l.length : Int) := by have := HLEN.out; omega
          by_cases hs : FV.count ≤ 48
          · have hsb : decide (FV.count ≤ 48) = true := by simpa using hs
            have HEE : Hid (true = CB) := hidP ((decide_eq_true (⟨h3, h0, by rw [hFV]; exact hs⟩ : D = 3 ∧ 0 < k ∧ (eAt eArea l 0).count ≤ 48)).symm.trans HCB.out)
            clear hFV hcl h3
            go_wp2_with fail
            rw [← HEE.out] at hJ
            refine mj hJ ?_
            rfl
          · have hsb : decide (FV.count ≤ 48) = false := by simpa using hs
            have HEE : Hid (false = CB) := hidP ((decide_eq_false (by rw [hFV]; omega)).symm.trans HCB.out)
            clear hFV hcl h3
            go_wp2_with fail
            rw [← HEE.out] at hJ
            refine mj hJ ?_
            rfl
        · have h0b : ¬ (0 : Int) < (k : Int) := by omega
          have HEE : Hid (false = CB) := hidP ((decide_eq_false (by omega)).symm.trans HCB.out)
          clear h3
          go_wp2_with fail
          rw [← HEE.out] at hJ
          refine mj hJ ?_
          rfl
      · have h3b : (D == 3) = false := by simpa using h3
        have HEE : Hid (false = CB) := hidP ((decide_eq_false (by omega)).symm.trans HCB.out)
        go_wp2_with fail
        rw [← HEE.out] at hJ
        refine mj hJ ?_
        rfl
    clear s0 s1 s2 s9 s10 s11 s12 s13 s14 s15 s16 s17 hsz
    try clear tm
    intro tm wc hsz hs hcut
    simp only [Fs, aF] at hs
    obtain ⟨s192, s0, s1, s2, s9, s10, s11, s12, s13, s14, s15, s16, s17, -⟩ := hs
    obtain rfl : wx5 = wc := hcut.symm
    go_upto_if 192 with fail
    refine wp_mid 345 (aF a cap cs v P B C D E N SL g l c k w6) (fun wz => XB w6 wz X6) ?_ ?_
    · intro J K hJ hK
      cases CB
      · have hh : ¬ (D = 3 ∧ 0 < k ∧ (eAt eArea l 0).count ≤ 48) := of_decide_eq_false HCB.out
        have HEE : Hid (X6 = X5) := hidP (by rw [HE6.out]; unfold ar6; rw [if_neg hh])
        clear hh
        go_upto_if 192 with fail
        refine cF (by go_simp) ?_
        go_wp2_with fail
        refine mj hJ ?_
        rw [HEE.out]; exact HX5.out
      · have hh : D = 3 ∧ 0 < k ∧ (eAt eArea l 0).count ≤ 48 := of_decide_eq_true HCB.out
        obtain ⟨FV, hFV, bF, hgn, hcl⟩ := HFV.out hh.2.1
        obtain ⟨u0, u1, u2, u3, u4, u5, u6⟩ := hcl wx5 HX5.out.bel
        have hl1 : (0 : Int) < (l.length : Int) := by have := HLEN.out; omega
        have b5 := HAB5.out.r
        obtain ⟨R3, hR3⟩ : ∃ R3, R3 = X5.perm % 3 := ⟨_, rfl⟩
        have eR : X5.perm.tmod 3 = R3 := by rw [Int.tmod_eq_emod_of_nonneg (by omega)]; exact hR3.symm
        have W2 := wrp (x := R3 + 1) (by omega)
        have HEE : Hid (X6 = ⟨X5.page, FV.count, FV.out, R3 + 1, X5.huge, 0, X5.gone⟩) := hidP (by rw [HE6.out]; unfold ar6; rw [if_pos hh, hFV, hR3])
        clear hh hFV hcl hR3
        go_upto_if 192 with fail
        refine cT (by go_simp) ?_
        go_wp2_with fail
        refine mj hJ ?_
        rw [HEE.out]; exact (((HX5.out.s5 _).s1 _).s2 _).s3 _
    clear s0 s1 s2 s9 s10 s11 s12 s13 s14 s15 s16 s17 hsz
    try clear tm
    intro tm wc hsz hs hcut
    simp only [Fs, aF] at hs
    obtain ⟨s0, s1, s2, s9, s10, s11, s12, s13, s14, s15, s16, s17, -⟩ := hs
    clear LX y0 y1 y2 y3 y4 y5 y6 v0 v1 v2 v3 v4 v5 v6
    obtain ⟨wx6, hwx⟩ : ∃ x, x = wc := ⟨_, rfl⟩
    rw [← hwx] at hcut ⊢
    clear hwx wc
    have HX6 : Hid (XB w6 wx6 X6) := hcut
    clear hcut
    clear HCB HFV
    obtain ⟨X7, hX7⟩ : ∃ X7, X7 = ar7w v k C D E X6 := ⟨_, rfl⟩
    have HE7 : Hid (X7 = ar7w v k C D E X6) := hX7
    clear hX7
    have HAB7 : Hid (AB 31000 X7) := hidP (by rw [HE7.out]; exact (ar7w_b bC0 HAB6.out).mono (by omega))
    obtain ⟨LX, y0, y1, y2, y3, y4, y5, y6, v0, v1, v2, v3, v4, v5, v6⟩ := HX6.out.all
    go_upto_if 210 with fail
    refine wp_mid 345 (aF a cap cs v P B C D E N SL g l c k w6) (fun wz => XB w6 wz X7) ?_ ?_
    · intro J K hJ hK
      rcases HVV.out with hv | hv
      · have hvb : (v == 1) = false := by simp; omega
        by_cases hE : E = 7
        · have hEb : (E == 7) = true := by simpa using hE
          have HEE : Hid (X7 = ⟨X6.page, X6.count, X6.out, X6.perm, X6.huge, X6.same, true⟩) := hidP (by rw [HE7.out, ar7w, if_neg (by omega), ar7]; rw [if_pos hE])
          clear hE
          go_upto_if 210 with fail
          refine cF (by go_simp) ?_
          go_upto_if 328 with fail
          refine cT (by go_simp) ?_
          go_wp2_with fail
          refine mj hJ ?_
          rw [HEE.out]; exact HX6.out.s6 _
        · have hEb : (E == 7) = false := by simpa using hE
          have HEE : Hid (X7 = X6) := hidP (by rw [HE7.out, ar7w, if_neg (by omega), ar7]; rw [if_neg hE])
          clear hE
          go_upto_if 210 with fail
          refine cF (by go_simp) ?_
          go_upto_if 328 with fail
          refine cF (by go_simp) ?_
          go_wp2_with fail
          refine mj hJ ?_
          rw [HEE.out]; exact HX6.out
      · have hvb : (v == 1) = true := by simp; omega
        go_upto_if 210 with fail
        refine cT (by go_simp) ?_
        obtain ⟨X61, hX61⟩ : ∃ X61, X61 = av1 C E X6 := ⟨_, rfl⟩
        have HEQ61 : Hid (X61 = av1 C E X6) := hX61
        clear hX61
        have HAB61 : Hid (AB 30000 X61) := hidP (by rw [HEQ61.out]; exact (av1_b bC0 HAB6.out).mono (by omega))
        obtain ⟨CB, hCB⟩ : ∃ CB, decide (E = 8 ∨ E = 9 ∨ E = 5 ∨ E = 1) = CB := ⟨_, rfl⟩
        have HCB : Hid (decide (E = 8 ∨ E = 9 ∨ E = 5 ∨ E = 1) = CB) := hCB
        clear hCB
        have bp := HAB6.out.p
        have bc := HAB6.out.c
        have bo := HAB6.out.o
        have br := HAB6.out.r
        obtain ⟨LX, y0, y1, y2, y3, y4, y5, y6, v0, v1, v2, v3, v4, v5, v6⟩ := HX6.out.all
        go_upto_region 42 with fail
        refine wp_mid 345 ((224, .bool CB) :: aF a cap cs v P B C D E N SL g l c k w6) (fun wz => wz = wx6) ?_ ?_
        · intro J K hJ hK
          by_cases h8 : E = 8
          · have h8b : (E == 8) = true := by simp; omega
            have HEE : Hid (true = CB) := hidP ((decide_eq_true (by omega)).symm.trans HCB.out)
            try clear h8
            go_wp2_with fail
            all_goals
              rw [← HEE.out] at hJ
              refine mj hJ ?_
              rfl
          · have h8b : (E == 8) = false := by simp; omega
            by_cases h9 : E = 9
            · have h9b : (E == 9) = true := by simp; omega
              have HEE : Hid (true = CB) := hidP ((decide_eq_true (by omega)).symm.trans HCB.out)
              try clear h9
              go_wp2_with fail
              all_goals
                rw [← HEE.out] at hJ
                refine mj hJ ?_
                rfl
            · have h9b : (E == 9) = false := by simp; omega
              by_cases h5 : E = 5
              · have h5b : (E == 5) = true := by simp; omega
                have HEE : Hid (true = CB) := hidP ((decide_eq_true (by omega)).symm.trans HCB.out)
                try clear h5
                go_wp2_with fail
                all_goals
                  rw [← HEE.out] at hJ
                  refine mj hJ ?_
                  rfl
              · have h5b : (E == 5) = false := by simp; omega
                by_cases h1 : E = 1
                · have h1b : (E == 1) = true := by simp; omega
                  have HEE : Hid (true = CB) := hidP ((decide_eq_true (by omega)).symm.trans HCB.out)
                  try clear h1
                  go_wp2_with fail
                  all_goals
                    rw [← HEE.out] at hJ
                    refine mj hJ ?_
                    rfl
                · have h1b : (E == 1) = false := by simp; omega
                  have HEE : Hid (false = CB) := hidP ((decide_eq_false (by omega)).symm.trans HCB.out)
                  go_wp2_with fail
                  all_goals
                    rw [← HEE.out] at hJ
                    refine mj hJ ?_
                    rfl
        clear s0 s1 s2 s9 s10 s11 s12 s13 s14 s15 s16 s17 hsz
        try clear tm
        intro tm wc hsz hs hcut
        simp only [Fs, aF] at hs
        obtain ⟨s224, s0, s1, s2, s9, s10, s11, s12, s13, s14, s15, s16, s17, -⟩ := hs
        obtain rfl : wx6 = wc := hcut.symm
        go_upto_if 224 with fail
        refine wp_mid 345 (aF a cap cs v P B C D E N SL g l c k w6) (fun wz => XB w6 wz X61) ?_ ?_
        · intro J K hJ hK
          cases CB
          · have hh : ¬ (E = 8 ∨ E = 9 ∨ E = 5 ∨ E = 1) := of_decide_eq_false HCB.out
            have HEE : Hid (X61 = X6) := hidP (by rw [HEQ61.out]; unfold av1; rw [if_neg hh])
            clear hh
            go_upto_if 224 with fail
            refine cF (by go_simp) ?_
            go_wp2_with fail
            refine mj hJ ?_
            rw [HEE.out]; exact HX6.out
          · have hh : E = 8 ∨ E = 9 ∨ E = 5 ∨ E = 1 := of_decide_eq_true HCB.out
            obtain ⟨R7, hR7⟩ : ∃ R7, R7 = (X6.perm + C) % 7 := ⟨_, rfl⟩
            have W1 := wrp (x := X6.perm + C) (by omega)
            have eR : (X6.perm + C).tmod 7 = R7 := by rw [Int.tmod_eq_emod_of_nonneg (by omega)]; exact hR7.symm
            have W2 := wrp (x := R7 + 1) (by omega)
            have HEE : Hid (X61 = ⟨X6.page, X6.count, X6.out, R7 + 1, X6.huge, X6.same, X6.gone⟩) := hidP (by rw [HEQ61.out]; unfold av1; rw [if_pos hh, hR7])
            try clear hh
            try clear hR7
            go_upto_if 224 with fail
            refine cT (by go_simp) ?_
            go_wp2_with fail
            refine mj hJ ?_
            rw [HEE.out]; exact HX6.out.s3 _
        clear s0 s1 s2 s9 s10 s11 s12 s13 s14 s15 s16 s17 hsz
        try clear tm
        intro tm wc hsz hs hcut
        simp only [Fs, aF] at hs
        obtain ⟨s0, s1, s2, s9, s10, s11, s12, s13, s14, s15, s16, s17, -⟩ := hs
        clear LX y0 y1 y2 y3 y4 y5 y6 v0 v1 v2 v3 v4 v5 v6
        obtain ⟨wx61, hwx⟩ : ∃ x, x = wc := ⟨_, rfl⟩
        rw [← hwx] at hcut ⊢
        clear hwx wc
        have HX61 : Hid (XB w6 wx61 X61) := hcut
        clear hcut
        clear HCB bp bc bo br
        obtain ⟨X62, hX62⟩ : ∃ X62, X62 = av2 k E X61 := ⟨_, rfl⟩
        have HEQ62 : Hid (X62 = av2 k E X61) := hX62
        clear hX62
        have HAB62 : Hid (AB 30000 X62) := hidP (by rw [HEQ62.out]; exact (av2_b HAB61.out).mono (by omega))
        obtain ⟨CB, hCB⟩ : ∃ CB, decide (E = 10 ∨ E = 4 ∨ (E = 0 ∧ k = 1)) = CB := ⟨_, rfl⟩
        have HCB : Hid (decide (E = 10 ∨ E = 4 ∨ (E = 0 ∧ k = 1)) = CB) := hCB
        clear hCB
        have bp := HAB61.out.p
        have bc := HAB61.out.c
        have bo := HAB61.out.o
        have br := HAB61.out.r
        obtain ⟨LX, y0, y1, y2, y3, y4, y5, y6, v0, v1, v2, v3, v4, v5, v6⟩ := HX61.out.all
        go_upto_region 44 with fail
        refine wp_mid 345 ((245, .bool CB) :: aF a cap cs v P B C D E N SL g l c k w6) (fun wz => wz = wx61) ?_ ?_
        · intro J K hJ hK
          by_cases h10 : E = 10
          · have h10b : (E == 10) = true := by simp; omega
            have HEE : Hid (true = CB) := hidP ((decide_eq_true (by omega)).symm.trans HCB.out)
            try clear h10
            go_wp2_with fail
            all_goals
              rw [← HEE.out] at hJ
              refine mj hJ ?_
              rfl
          · have h10b : (E == 10) = false := by simp; omega
            by_cases h4 : E = 4
            · have h4b : (E == 4) = true := by simp; omega
              have HEE : Hid (true = CB) := hidP ((decide_eq_true (by omega)).symm.trans HCB.out)
              try clear h4
              go_wp2_with fail
              all_goals
                rw [← HEE.out] at hJ
                refine mj hJ ?_
                rfl
            · have h4b : (E == 4) = false := by simp; omega
              by_cases h0 : E = 0
              · have h0b : (E == 0) = true := by simp; omega
                by_cases hk1 : k = 1
                · have hk1b : ((k : Int) == 1) = true := by simp; omega
                  have HEE : Hid (true = CB) := hidP ((decide_eq_true (by omega)).symm.trans HCB.out)
                  try clear h0
                  try clear hk1
                  go_wp2_with fail
                  all_goals
                    rw [← HEE.out] at hJ
                    refine mj hJ ?_
                    rfl
                · have hk1b : ((k : Int) == 1) = false := by simp; omega
                  have HEE : Hid (false = CB) := hidP ((decide_eq_false (by omega)).symm.trans HCB.out)
                  try clear h0
                  go_wp2_with fail
                  all_goals
                    rw [← HEE.out] at hJ
                    refine mj hJ ?_
                    rfl
              · have h0b : (E == 0) = false := by simp; omega
                have HEE : Hid (false = CB) := hidP ((decide_eq_false (by omega)).symm.trans HCB.out)
                go_wp2_with fail
                all_goals
                  rw [← HEE.out] at hJ
                  refine mj hJ ?_
                  rfl
        clear s0 s1 s2 s9 s10 s11 s12 s13 s14 s15 s16 s17 hsz
        try clear tm
        intro tm wc hsz hs hcut
        simp only [Fs, aF] at hs
        obtain ⟨s245, s0, s1, s2, s9, s10, s11, s12, s13, s14, s15, s16, s17, -⟩ := hs
        obtain rfl : wx61 = wc := hcut.symm
        go_upto_if 245 with fail
        refine wp_mid 345 (aF a cap cs v P B C D E N SL g l c k w6) (fun wz => XB w6 wz X62) ?_ ?_
        · intro J K hJ hK
          cases CB
          · have hh : ¬ (E = 10 ∨ E = 4 ∨ (E = 0 ∧ k = 1)) := of_decide_eq_false HCB.out
            have HEE : Hid (X62 = X61) := hidP (by rw [HEQ62.out]; unfold av2; rw [if_neg hh])
            clear hh
            go_upto_if 245 with fail
            refine cF (by go_simp) ?_
            go_wp2_with fail
            refine mj hJ ?_
            rw [HEE.out]; exact HX61.out
          · have hh : E = 10 ∨ E = 4 ∨ (E = 0 ∧ k = 1) := of_decide_eq_true HCB.out
            skip
            have HEE : Hid (X62 = ⟨X61.page, X61.count, X61.out, X61.perm, X61.huge, X61.same, true⟩) := hidP (by rw [HEQ62.out]; unfold av2; rw [if_pos hh])
            try clear hh
            go_upto_if 245 with fail
            refine cT (by go_simp) ?_
            go_wp2_with fail
            refine mj hJ ?_
            rw [HEE.out]; exact HX61.out.s6 _
        clear s0 s1 s2 s9 s10 s11 s12 s13 s14 s15 s16 s17 hsz
        try clear tm
        intro tm wc hsz hs hcut
        simp only [Fs, aF] at hs
        obtain ⟨s0, s1, s2, s9, s10, s11, s12, s13, s14, s15, s16, s17, -⟩ := hs
        clear LX y0 y1 y2 y3 y4 y5 y6 v0 v1 v2 v3 v4 v5 v6
        obtain ⟨wx62, hwx⟩ : ∃ x, x = wc := ⟨_, rfl⟩
        rw [← hwx] at hcut ⊢
        clear hwx wc
        have HX62 : Hid (XB w6 wx62 X62) := hcut
        clear hcut
        clear HCB bp bc bo br
        obtain ⟨X63, hX63⟩ : ∃ X63, X63 = av3 E X62 := ⟨_, rfl⟩
        have HEQ63 : Hid (X63 = av3 E X62) := hX63
        clear hX63
        have HAB63 : Hid (AB 30000 X63) := hidP (by rw [HEQ63.out]; exact (av3_b HAB62.out).mono (by omega))
        obtain ⟨CB, hCB⟩ : ∃ CB, decide (E = 11 ∨ E = 12 ∨ E = 6) = CB := ⟨_, rfl⟩
        have HCB : Hid (decide (E = 11 ∨ E = 12 ∨ E = 6) = CB) := hCB
        clear hCB
        have bp := HAB62.out.p
        have bc := HAB62.out.c
        have bo := HAB62.out.o
        have br := HAB62.out.r
        obtain ⟨LX, y0, y1, y2, y3, y4, y5, y6, v0, v1, v2, v3, v4, v5, v6⟩ := HX62.out.all
        go_upto_region 46 with fail
        refine wp_mid 345 ((256, .bool CB) :: aF a cap cs v P B C D E N SL g l c k w6) (fun wz => wz = wx62) ?_ ?_
        · intro J K hJ hK
          by_cases h11 : E = 11
          · have h11b : (E == 11) = true := by simp; omega
            have HEE : Hid (true = CB) := hidP ((decide_eq_true (by omega)).symm.trans HCB.out)
            try clear h11
            go_wp2_with fail
            all_goals
              rw [← HEE.out] at hJ
              refine mj hJ ?_
              rfl
          · have h11b : (E == 11) = false := by simp; omega
            by_cases h12 : E = 12
            · have h12b : (E == 12) = true := by simp; omega
              have HEE : Hid (true = CB) := hidP ((decide_eq_true (by omega)).symm.trans HCB.out)
              try clear h12
              go_wp2_with fail
              all_goals
                rw [← HEE.out] at hJ
                refine mj hJ ?_
                rfl
            · have h12b : (E == 12) = false := by simp; omega
              by_cases h6 : E = 6
              · have h6b : (E == 6) = true := by simp; omega
                have HEE : Hid (true = CB) := hidP ((decide_eq_true (by omega)).symm.trans HCB.out)
                try clear h6
                go_wp2_with fail
                all_goals
                  rw [← HEE.out] at hJ
                  refine mj hJ ?_
                  rfl
              · have h6b : (E == 6) = false := by simp; omega
                have HEE : Hid (false = CB) := hidP ((decide_eq_false (by omega)).symm.trans HCB.out)
                go_wp2_with fail
                all_goals
                  rw [← HEE.out] at hJ
                  refine mj hJ ?_
                  rfl
        clear s0 s1 s2 s9 s10 s11 s12 s13 s14 s15 s16 s17 hsz
        try clear tm
        intro tm wc hsz hs hcut
        simp only [Fs, aF] at hs
        obtain ⟨s256, s0, s1, s2, s9, s10, s11, s12, s13, s14, s15, s16, s17, -⟩ := hs
        obtain rfl : wx62 = wc := hcut.symm
        go_upto_if 256 with fail
        refine wp_mid 345 (aF a cap cs v P B C D E N SL g l c k w6) (fun wz => XB w6 wz X63) ?_ ?_
        · intro J K hJ hK
          cases CB
          · have hh : ¬ (E = 11 ∨ E = 12 ∨ E = 6) := of_decide_eq_false HCB.out
            have HEE : Hid (X63 = X62) := hidP (by rw [HEQ63.out]; unfold av3; rw [if_neg hh])
            clear hh
            go_upto_if 256 with fail
            refine cF (by go_simp) ?_
            go_wp2_with fail
            refine mj hJ ?_
            rw [HEE.out]; exact HX62.out
          · have hh : E = 11 ∨ E = 12 ∨ E = 6 := of_decide_eq_true HCB.out
            skip
            have HEE : Hid (X63 = ⟨X62.page, X62.count, X62.out, X62.perm, !X62.huge, X62.same, X62.gone⟩) := hidP (by rw [HEQ63.out]; unfold av3; rw [if_pos hh])
            try clear hh
            go_upto_if 256 with fail
            refine cT (by go_simp) ?_
            go_wp2_with fail
            refine mj hJ ?_
            rw [HEE.out]; exact HX62.out.s4 _
        clear s0 s1 s2 s9 s10 s11 s12 s13 s14 s15 s16 s17 hsz
        try clear tm
        intro tm wc hsz hs hcut
        simp only [Fs, aF] at hs
        obtain ⟨s0, s1, s2, s9, s10, s11, s12, s13, s14, s15, s16, s17, -⟩ := hs
        clear LX y0 y1 y2 y3 y4 y5 y6 v0 v1 v2 v3 v4 v5 v6
        obtain ⟨wx63, hwx⟩ : ∃ x, x = wc := ⟨_, rfl⟩
        rw [← hwx] at hcut ⊢
        clear hwx wc
        have HX63 : Hid (XB w6 wx63 X63) := hcut
        clear hcut
        clear HCB bp bc bo br
        obtain ⟨X64, hX64⟩ : ∃ X64, X64 = av4 C D E X63 := ⟨_, rfl⟩
        have HEQ64 : Hid (X64 = av4 C D E X63) := hX64
        clear hX64
        have HAB64 : Hid (AB 30100 X64) := hidP (by rw [HEQ64.out]; exact (av4_b bC0 HAB63.out).mono (by omega))
        obtain ⟨CB, hCB⟩ : ∃ CB, decide (E = 13 ∧ D < 12 ∧ D ≠ 2 ∧ X63.page % 16 + X63.count < 48) = CB := ⟨_, rfl⟩
        have HCB : Hid (decide (E = 13 ∧ D < 12 ∧ D ≠ 2 ∧ X63.page % 16 + X63.count < 48) = CB) := hCB
        clear hCB
        have bp := HAB63.out.p
        have bc := HAB63.out.c
        have bo := HAB63.out.o
        have br := HAB63.out.r
        obtain ⟨LX, y0, y1, y2, y3, y4, y5, y6, v0, v1, v2, v3, v4, v5, v6⟩ := HX63.out.all
        go_upto_region 48 with fail
        refine wp_mid 345 ((279, .bool CB) :: aF a cap cs v P B C D E N SL g l c k w6) (fun wz => wz = wx63) ?_ ?_
        · intro J K hJ hK
          by_cases h13 : E = 13
          · have h13b : (E == 13) = true := by simp; omega
            by_cases hd1 : D < 12
            · have hd1b : decide (D < 12) = true := by simp; omega
              by_cases hd2 : D = 2
              · have hd2b : (D != 2) = false := by simp; omega
                have HEE : Hid (false = CB) := hidP ((decide_eq_false (by omega)).symm.trans HCB.out)
                try clear h13
                try clear hd2
                go_wp2_with fail
                all_goals
                  rw [← HEE.out] at hJ
                  refine mj hJ ?_
                  rfl
              · have hd2b : (D != 2) = true := by simp; omega
                obtain ⟨P6, hP6⟩ : ∃ P6, P6 = X63.page % 16 := ⟨_, rfl⟩
                have eP : X63.page.tmod 16 = P6 := by rw [Int.tmod_eq_emod_of_nonneg (by omega)]; exact hP6.symm
                have W1 := wrp (x := P6 + X63.count) (by omega)
                by_cases hd3 : P6 + X63.count < 48
                · have hd3b : decide (P6 + X63.count < 48) = true := by simp; omega
                  have HEE : Hid (true = CB) := hidP ((decide_eq_true (by omega)).symm.trans HCB.out)
                  try clear h13
                  try clear hP6
                  go_wp2_with fail
                  all_goals
                    rw [← HEE.out] at hJ
                    refine mj hJ ?_
                    rfl
                · have hd3b : decide (P6 + X63.count < 48) = false := by simp; omega
                  have HEE : Hid (false = CB) := hidP ((decide_eq_false (by omega)).symm.trans HCB.out)
                  try clear h13
                  try clear hP6
                  go_wp2_with fail
                  all_goals
                    rw [← HEE.out] at hJ
                    refine mj hJ ?_
                    rfl
            · have hd1b : decide (D < 12) = false := by simp; omega
              have HEE : Hid (false = CB) := hidP ((decide_eq_false (by omega)).symm.trans HCB.out)
              try clear h13
              go_wp2_with fail
              all_goals
                rw [← HEE.out] at hJ
                refine mj hJ ?_
                rfl
          · have h13b : (E == 13) = false := by simp; omega
            have HEE : Hid (false = CB) := hidP ((decide_eq_false (by omega)).symm.trans HCB.out)
            go_wp2_with fail
            all_goals
              rw [← HEE.out] at hJ
              refine mj hJ ?_
              rfl
        clear s0 s1 s2 s9 s10 s11 s12 s13 s14 s15 s16 s17 hsz
        try clear tm
        intro tm wc hsz hs hcut
        simp only [Fs, aF] at hs
        obtain ⟨s279, s0, s1, s2, s9, s10, s11, s12, s13, s14, s15, s16, s17, -⟩ := hs
        obtain rfl : wx63 = wc := hcut.symm
        go_upto_if 279 with fail
        refine wp_mid 345 (aF a cap cs v P B C D E N SL g l c k w6) (fun wz => XB w6 wz X64) ?_ ?_
        · intro J K hJ hK
          cases CB
          · have hh : ¬ (E = 13 ∧ D < 12 ∧ D ≠ 2 ∧ X63.page % 16 + X63.count < 48) := of_decide_eq_false HCB.out
            have HEE : Hid (X64 = X63) := hidP (by rw [HEQ64.out]; unfold av4; rw [if_neg hh])
            clear hh
            go_upto_if 279 with fail
            refine cF (by go_simp) ?_
            go_wp2_with fail
            refine mj hJ ?_
            rw [HEE.out]; exact HX63.out
          · have hh : E = 13 ∧ D < 12 ∧ D ≠ 2 ∧ X63.page % 16 + X63.count < 48 := of_decide_eq_true HCB.out
            obtain ⟨C2, hC2⟩ : ∃ C2, C2 = C % 2 := ⟨_, rfl⟩
            have eC : C.tmod 2 = C2 := by rw [Int.tmod_eq_emod_of_nonneg (by omega)]; exact hC2.symm
            have W2 := wrp (x := X63.page + 1) (by omega)
            have W3 := wrp (x := C2 * 15) (by omega)
            have W4 := wrp (x := X63.page + 1 + C2 * 15) (by omega)
            have HEE : Hid (X64 = ⟨X63.page + 1 + C2 * 15, X63.count, X63.out, X63.perm, X63.huge, X63.same, X63.gone⟩) := hidP (by rw [HEQ64.out]; unfold av4; rw [if_pos hh, hC2])
            try clear hh
            try clear hC2
            go_upto_if 279 with fail
            refine cT (by go_simp) ?_
            go_wp2_with fail
            refine mj hJ ?_
            rw [HEE.out]; exact HX63.out.s0 _
        clear s0 s1 s2 s9 s10 s11 s12 s13 s14 s15 s16 s17 hsz
        try clear tm
        intro tm wc hsz hs hcut
        simp only [Fs, aF] at hs
        obtain ⟨s0, s1, s2, s9, s10, s11, s12, s13, s14, s15, s16, s17, -⟩ := hs
        clear LX y0 y1 y2 y3 y4 y5 y6 v0 v1 v2 v3 v4 v5 v6
        obtain ⟨wx64, hwx⟩ : ∃ x, x = wc := ⟨_, rfl⟩
        rw [← hwx] at hcut ⊢
        clear hwx wc
        have HX64 : Hid (XB w6 wx64 X64) := hcut
        clear hcut
        clear HCB bp bc bo br
        obtain ⟨X65, hX65⟩ : ∃ X65, X65 = av5 D E X64 := ⟨_, rfl⟩
        have HEQ65 : Hid (X65 = av5 D E X64) := hX65
        clear hX65
        have HAB65 : Hid (AB 30200 X65) := hidP (by rw [HEQ65.out]; exact (av5_b HAB64.out).mono (by omega))
        obtain ⟨CB, hCB⟩ : ∃ CB, decide (E = 14 ∧ X64.same < 0 ∧ D < 12 ∧ D ≠ 2) = CB := ⟨_, rfl⟩
        have HCB : Hid (decide (E = 14 ∧ X64.same < 0 ∧ D < 12 ∧ D ≠ 2) = CB) := hCB
        clear hCB
        have bp := HAB64.out.p
        have bc := HAB64.out.c
        have bo := HAB64.out.o
        have br := HAB64.out.r
        obtain ⟨LX, y0, y1, y2, y3, y4, y5, y6, v0, v1, v2, v3, v4, v5, v6⟩ := HX64.out.all
        go_upto_region 50 with fail
        refine wp_mid 345 ((302, .bool CB) :: aF a cap cs v P B C D E N SL g l c k w6) (fun wz => wz = wx64) ?_ ?_
        · intro J K hJ hK
          by_cases h14 : E = 14
          · have h14b : (E == 14) = true := by simp; omega
            by_cases hs1 : X64.same < 0
            · have hs1b : decide (X64.same < 0) = true := by simp; omega
              by_cases hd1 : D < 12
              · have hd1b : decide (D < 12) = true := by simp; omega
                by_cases hd2 : D = 2
                · have hd2b : (D != 2) = false := by simp; omega
                  have HEE : Hid (false = CB) := hidP ((decide_eq_false (by omega)).symm.trans HCB.out)
                  try clear h14
                  try clear hd2
                  go_wp2_with fail
                  all_goals
                    rw [← HEE.out] at hJ
                    refine mj hJ ?_
                    rfl
                · have hd2b : (D != 2) = true := by simp; omega
                  have HEE : Hid (true = CB) := hidP ((decide_eq_true (by omega)).symm.trans HCB.out)
                  try clear h14
                  go_wp2_with fail
                  all_goals
                    rw [← HEE.out] at hJ
                    refine mj hJ ?_
                    rfl
              · have hd1b : decide (D < 12) = false := by simp; omega
                have HEE : Hid (false = CB) := hidP ((decide_eq_false (by omega)).symm.trans HCB.out)
                try clear h14
                go_wp2_with fail
                all_goals
                  rw [← HEE.out] at hJ
                  refine mj hJ ?_
                  rfl
            · have hs1b : decide (X64.same < 0) = false := by simp; omega
              have HEE : Hid (false = CB) := hidP ((decide_eq_false (by omega)).symm.trans HCB.out)
              try clear h14
              go_wp2_with fail
              all_goals
                rw [← HEE.out] at hJ
                refine mj hJ ?_
                rfl
          · have h14b : (E == 14) = false := by simp; omega
            have HEE : Hid (false = CB) := hidP ((decide_eq_false (by omega)).symm.trans HCB.out)
            go_wp2_with fail
            all_goals
              rw [← HEE.out] at hJ
              refine mj hJ ?_
              rfl
        clear s0 s1 s2 s9 s10 s11 s12 s13 s14 s15 s16 s17 hsz
        try clear tm
        intro tm wc hsz hs hcut
        simp only [Fs, aF] at hs
        obtain ⟨s302, s0, s1, s2, s9, s10, s11, s12, s13, s14, s15, s16, s17, -⟩ := hs
        obtain rfl : wx64 = wc := hcut.symm
        go_upto_if 302 with fail
        refine wp_mid 345 (aF a cap cs v P B C D E N SL g l c k w6) (fun wz => XB w6 wz X65) ?_ ?_
        · intro J K hJ hK
          cases CB
          · have hh : ¬ (E = 14 ∧ X64.same < 0 ∧ D < 12 ∧ D ≠ 2) := of_decide_eq_false HCB.out
            have HEE : Hid (X65 = X64) := hidP (by rw [HEQ65.out]; unfold av5; rw [if_neg hh])
            clear hh
            go_upto_if 302 with fail
            refine cF (by go_simp) ?_
            go_wp2_with fail
            refine mj hJ ?_
            rw [HEE.out]; exact HX64.out
          · have hh : E = 14 ∧ X64.same < 0 ∧ D < 12 ∧ D ≠ 2 := of_decide_eq_true HCB.out
            have W1 := wrp (x := X64.out + 32) (by omega)
            have HEE : Hid (X65 = ⟨X64.page, X64.count, X64.out + 32, X64.perm, X64.huge, X64.same, X64.gone⟩) := hidP (by rw [HEQ65.out]; unfold av5; rw [if_pos hh])
            try clear hh
            go_upto_if 302 with fail
            refine cT (by go_simp) ?_
            go_wp2_with fail
            refine mj hJ ?_
            rw [HEE.out]; exact HX64.out.s2 _
        clear s0 s1 s2 s9 s10 s11 s12 s13 s14 s15 s16 s17 hsz
        try clear tm
        intro tm wc hsz hs hcut
        simp only [Fs, aF] at hs
        obtain ⟨s0, s1, s2, s9, s10, s11, s12, s13, s14, s15, s16, s17, -⟩ := hs
        clear LX y0 y1 y2 y3 y4 y5 y6 v0 v1 v2 v3 v4 v5 v6
        obtain ⟨wx65, hwx⟩ : ∃ x, x = wc := ⟨_, rfl⟩
        rw [← hwx] at hcut ⊢
        clear hwx wc
        have HX65 : Hid (XB w6 wx65 X65) := hcut
        clear hcut
        clear HCB bp bc bo br
        obtain ⟨X66, hX66⟩ : ∃ X66, X66 = av6 k E X65 := ⟨_, rfl⟩
        have HEQ66 : Hid (X66 = av6 k E X65) := hX66
        clear hX66
        have HAB66 : Hid (AB 31000 X66) := hidP (by rw [HEQ66.out]; exact (av6_b HAB65.out).mono (by omega))
        obtain ⟨CB, hCB⟩ : ∃ CB, decide (E = 15 ∧ 1 < X65.count ∧ X65.same < 0 ∧ 0 < k) = CB := ⟨_, rfl⟩
        have HCB : Hid (decide (E = 15 ∧ 1 < X65.count ∧ X65.same < 0 ∧ 0 < k) = CB) := hCB
        clear hCB
        have bp := HAB65.out.p
        have bc := HAB65.out.c
        have bo := HAB65.out.o
        have br := HAB65.out.r
        obtain ⟨LX, y0, y1, y2, y3, y4, y5, y6, v0, v1, v2, v3, v4, v5, v6⟩ := HX65.out.all
        go_upto_region 52 with fail
        refine wp_mid 345 ((322, .bool CB) :: aF a cap cs v P B C D E N SL g l c k w6) (fun wz => wz = wx65) ?_ ?_
        · intro J K hJ hK
          by_cases h15 : E = 15
          · have h15b : (E == 15) = true := by simp; omega
            by_cases hc1 : 1 < X65.count
            · have hc1b : decide (1 < X65.count) = true := by simp; omega
              by_cases hs1 : X65.same < 0
              · have hs1b : decide (X65.same < 0) = true := by simp; omega
                by_cases hk0 : 0 < k
                · have hk0b : (0 : Int) < (k : Int) := by omega
                  have HEE : Hid (true = CB) := hidP ((decide_eq_true (by omega)).symm.trans HCB.out)
                  try clear h15
                  go_wp2_with fail
                  all_goals
                    rw [← HEE.out] at hJ
                    refine mj hJ ?_
                    rfl
                · have hk0b : ¬ (0 : Int) < (k : Int) := by omega
                  have HEE : Hid (false = CB) := hidP ((decide_eq_false (by omega)).symm.trans HCB.out)
                  try clear h15
                  go_wp2_with fail
                  all_goals
                    rw [← HEE.out] at hJ
                    refine mj hJ ?_
                    rfl
              · have hs1b : decide (X65.same < 0) = false := by simp; omega
                have HEE : Hid (false = CB) := hidP ((decide_eq_false (by omega)).symm.trans HCB.out)
                try clear h15
                go_wp2_with fail
                all_goals
                  rw [← HEE.out] at hJ
                  refine mj hJ ?_
                  rfl
            · have hc1b : decide (1 < X65.count) = false := by simp; omega
              have HEE : Hid (false = CB) := hidP ((decide_eq_false (by omega)).symm.trans HCB.out)
              try clear h15
              go_wp2_with fail
              all_goals
                rw [← HEE.out] at hJ
                refine mj hJ ?_
                rfl
          · have h15b : (E == 15) = false := by simp; omega
            have HEE : Hid (false = CB) := hidP ((decide_eq_false (by omega)).symm.trans HCB.out)
            go_wp2_with fail
            all_goals
              rw [← HEE.out] at hJ
              refine mj hJ ?_
              rfl
        clear s0 s1 s2 s9 s10 s11 s12 s13 s14 s15 s16 s17 hsz
        try clear tm
        intro tm wc hsz hs hcut
        simp only [Fs, aF] at hs
        obtain ⟨s322, s0, s1, s2, s9, s10, s11, s12, s13, s14, s15, s16, s17, -⟩ := hs
        obtain rfl : wx65 = wc := hcut.symm
        go_upto_if 322 with fail
        refine wp_mid 345 (aF a cap cs v P B C D E N SL g l c k w6) (fun wz => XB w6 wz X66) ?_ ?_
        · intro J K hJ hK
          cases CB
          · have hh : ¬ (E = 15 ∧ 1 < X65.count ∧ X65.same < 0 ∧ 0 < k) := of_decide_eq_false HCB.out
            have HEE : Hid (X66 = X65) := hidP (by rw [HEQ66.out]; unfold av6; rw [if_neg hh])
            clear hh
            go_upto_if 322 with fail
            refine cF (by go_simp) ?_
            go_wp2_with fail
            refine mj hJ ?_
            rw [HEE.out]; exact HX65.out
          · have hh : E = 15 ∧ 1 < X65.count ∧ X65.same < 0 ∧ 0 < k := of_decide_eq_true HCB.out
            obtain ⟨C2, hC2⟩ : ∃ C2, C2 = X65.count / 2 := ⟨_, rfl⟩
            have eC : X65.count.tdiv 2 = C2 := by rw [Int.tdiv_eq_ediv_of_nonneg (by omega)]; exact hC2.symm
            have W1 := wrp (x := C2) (by omega)
            have HEE : Hid (X66 = ⟨X65.page, C2, X65.out, X65.perm, X65.huge, X65.same, X65.gone⟩) := hidP (by rw [HEQ66.out]; unfold av6; rw [if_pos hh, hC2])
            try clear hh
            try clear hC2
            go_upto_if 322 with fail
            refine cT (by go_simp) ?_
            go_wp2_with fail
            refine mj hJ ?_
            rw [HEE.out]; exact HX65.out.s1 _
        clear s0 s1 s2 s9 s10 s11 s12 s13 s14 s15 s16 s17 hsz
        try clear tm
        intro tm wc hsz hs hcut
        simp only [Fs, aF] at hs
        obtain ⟨s0, s1, s2, s9, s10, s11, s12, s13, s14, s15, s16, s17, -⟩ := hs
        clear LX y0 y1 y2 y3 y4 y5 y6 v0 v1 v2 v3 v4 v5 v6
        obtain ⟨wx66, hwx⟩ : ∃ x, x = wc := ⟨_, rfl⟩
        rw [← hwx] at hcut ⊢
        clear hwx wc
        have HX66 : Hid (XB w6 wx66 X66) := hcut
        clear hcut
        clear HCB bp bc bo br
        go_wp2_with fail
        have HE8 : Hid (X7 = X66) := hidP (by rw [HE7.out, ar7w, if_pos hv, HEQ66.out, HEQ65.out, HEQ64.out, HEQ63.out, HEQ62.out, HEQ61.out]; rfl)
        refine mj hJ ?_
        rw [HE8.out]; exact HX66.out
    clear s0 s1 s2 s9 s10 s11 s12 s13 s14 s15 s16 s17 hsz
    try clear tm
    intro tm wc hsz hs hcut
    simp only [Fs, aF] at hs
    obtain ⟨s0, s1, s2, s9, s10, s11, s12, s13, s14, s15, s16, s17, -⟩ := hs
    clear LX y0 y1 y2 y3 y4 y5 y6 v0 v1 v2 v3 v4 v5 v6
    obtain ⟨wx7, hwx⟩ : ∃ x, x = wc := ⟨_, rfl⟩
    rw [← hwx] at hcut ⊢
    clear hwx wc
    have HX7 : Hid (XB w6 wx7 X7) := hcut
    clear hcut
    obtain ⟨X8, hX8⟩ : ∃ X8, X8 = ar8 X7 := ⟨_, rfl⟩
    have HE8 : Hid (X8 = ar8 X7) := hX8
    clear hX8
    obtain ⟨LX, y0, y1, y2, y3, y4, y5, y6, v0, v1, v2, v3, v4, v5, v6⟩ := HX7.out.all
    go_upto_if 332 with fail
    refine wp_mid 345 (aF a cap cs v P B C D E N SL g l c k w6) (fun wz => XB w6 wz X8) ?_ ?_
    · intro J K hJ hK
      by_cases hS : X7.same = 0
      · have hSb : (X7.same == 0) = true := by simpa using hS
        obtain ⟨R3, hR3⟩ : ∃ R3, R3 = (X7.perm - 1) % 3 := ⟨_, rfl⟩
        have b7 := HAB7.out.r
        have W1 := wrp (x := X7.perm - 1) (by omega)
        have eR : (X7.perm - 1).tmod 3 = R3 := by rw [Int.tmod_eq_emod_of_nonneg (by omega)]; exact hR3.symm
        have W2 := wrp (x := R3 + 1) (by omega)
        have HEE : Hid (X8 = ⟨X7.page, X7.count, X7.out, R3 + 1, X7.huge, X7.same, X7.gone⟩) := hidP (by rw [HE8.out]; unfold ar8; rw [if_pos hS, hR3])
        clear hR3 hS
        go_upto_if 332 with fail
        refine cT (by go_simp) ?_
        go_wp2_with fail
        refine mj hJ ?_
        rw [HEE.out]; exact HX7.out.s3 _
      · have hSb : (X7.same == 0) = false := by simpa using hS
        have HEE : Hid (X8 = X7) := hidP (by rw [HE8.out]; unfold ar8; rw [if_neg hS])
        clear hS
        go_upto_if 332 with fail
        refine cF (by go_simp) ?_
        go_wp2_with fail
        refine mj hJ ?_
        rw [HEE.out]; exact HX7.out
    clear s0 s1 s2 s9 s10 s11 s12 s13 s14 s15 s16 s17 hsz
    try clear tm
    intro tm wc hsz hs hcut
    simp only [Fs, aF] at hs
    obtain ⟨s0, s1, s2, s9, s10, s11, s12, s13, s14, s15, s16, s17, -⟩ := hs
    clear LX y0 y1 y2 y3 y4 y5 y6 v0 v1 v2 v3 v4 v5 v6
    obtain ⟨wx8, hwx⟩ : ∃ x, x = wc := ⟨_, rfl⟩
    rw [← hwx] at hcut ⊢
    clear hwx wc
    have HX8 : Hid (XB w6 wx8 X8) := hcut
    clear hcut
    obtain ⟨LX, y0, y1, y2, y3, y4, y5, y6, v0, v1, v2, v3, v4, v5, v6⟩ := HX8.out.all
    have HRW8 : Hid (ERow eArea wx8 w1.heap.size (.slice (some ⟨g, 0, none⟩) l.length c) l) := hidP (HRW.out.below HX8.out.bel)
    have HROWX : Hid (ERow eArea (wx8.alloc (.cells #[.int .i64 X8.page, .int .i64 X8.count, .int .i64 X8.out, .int .i64 X8.perm, .bool X8.huge, .int .i64 X8.same, .bool X8.gone] 219)) w1.heap.size (.slice (some ⟨g, 0, none⟩) l.length c) l) := hidP (HRW8.out.below bal)
    have HB8 : Hid (Below w1.heap.size w1 wx8) := hidP (HBW.out.trans (HX8.out.bel.mono HBW.out.size))
    have hyw : w1.heap.size ≤ wx8.heap.size := HB8.out.size
    have hln : l.length ≤ 8 := by have := HLEN.out; omega
    go_wp2_with (at_builtin; refine wpList_append_lies _ rfl (.tmp 339) (.tmp 341) 180 rfl w1.heap.size 219 iA _ 7 56 Try.underlying180 hiA hz0 hz1 hz2 rfl (by omega) (.slice (some ⟨g, 0, none⟩) l.length c) _ _ (by go_simp) HROWX.out ⟨wx8.heap.size, 0, none⟩ 1 1 [.int .i64 X8.page, .int .i64 X8.count, .int .i64 X8.out, .int .i64 X8.perm, .bool X8.huge, .int .i64 X8.same, .bool X8.gone] (by go_simp) rfl (by exact World.news_of_block (heap_alloc_new _ _)) (by intro u hu; simp at hu; rcases hu with rfl | rfl | rfl | rfl | rfl | rfl | rfl <;> rfl) (by omega) (by unfold maxLen; omega) (by omega) (by first | omega | (simp; omega)) _ rfl ?_)
    intro gn cn wn hown hgrow hat hlt3
    have hls := LS.push (E := eArea) (x := X8) (o := .cells #[.int .i64 X8.page, .int .i64 X8.count, .int .i64 X8.out, .int .i64 X8.perm, .bool X8.huge, .int .i64 X8.same, .bool X8.gone] 219) HB8.out HRW8.out hown hgrow
    have HLSN : Hid (LS eArea w1 wn _ (l ++ [X8])) := hls
    have HXX : Hid (areas v cs p (k + 1) = (l ++ [X8], SL)) := hidP (by rw [HNX.out]; unfold arStep; rw [← HE0.out, ← HE1.out, ← HE2.out, ← HE3.out, ← HE4.out, ← HE5.out, ← HE6.out, ← HE7.out, ← HE8.out])
    clear hown hgrow hat hlt3 hls
    clear LX y0 y1 y2 y3 y4 y5 y6 v0 v1 v2 v3 v4 v5 v6
    go_wp2_with fail
    refine Met.intro (hJ (N - (k + 1)) _ _ (by simp [hsz]) ⟨k + 1, rfl, by omega, .slice (some ⟨gn, 0, none⟩) (l.length + 1) cn, by rw [HPN.out, HXX.out]; exact (by simp only [Fs, aF]; and_intros <;> simp [hsz, s0, s1, s2, s13, s14, s15, s16, List.length_append]), by rw [HXX.out]; exact HLSN.out⟩ (by omega))
  · obtain rfl : k = N := by omega
    have K2 : ¬ (k : Int) < (k : Int) := by omega
    obtain ⟨⟨g', c', e', hrw'⟩, hbw⟩ := hls
    have HFR : Hid (ERow eArea wr w.heap.size (.slice (some ⟨g, 0, none⟩) (areas v cs p k).1.length c) (areas v cs p k).1) := hidP (by rw [e']; exact hrw'.rebase HB1.out.size)
    have HFB : Hid (Below w.heap.size w wr) := hidP (HB1.out.trans (hbw.mono HB1.out.size))
    clear hrw' hbw e' hlen hsl hab
    go_upto_if 23 with fail
    refine cF (by go_simp <;> omega) ?_
    go_wp2_with fail
    exact bodyPost_ret (v := .tuple #[.slice (some ⟨g, 0, none⟩) (areas v cs p k).1.length c, .int .i64 ((p : Int) + 5 * (k : Int))]) (by simp [results, Try.results115, go_sem, s1, s15, hsz]) rfl ⟨g, c, rfl, HFR.out, HFB.out⟩
end Go.Proofs.Ytnmhkgmmpkjjeaa
