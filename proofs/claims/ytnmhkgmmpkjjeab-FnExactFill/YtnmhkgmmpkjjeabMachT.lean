import Derived.Test.YtnmhkgmmpkjjeabMachL
namespace Go.Proofs.Ytnmhkgmmpkjjeab
open Go.ChangeShapes Go.WideShapes Go.ChangeAt Go.RowKit
set_option linter.unusedVariables false

/-- The sizes of a machine that came in, added up. -/
theorem szMachine_any (a1 a2 a3 a4 : Option Addr) (n1 n2 n3 n4 c1 c2 c3 c4 : Nat) (h1 : n1 ≤ 9223372036854775807) (h2 : n2 ≤ 9223372036854775807) (h3 : n3 ≤ 9223372036854775807) (h4 : n4 ≤ 9223372036854775807) (w : World) :
    Calls Try.prog 24 #[.agg #[.slice a1 n1 c1, .slice a2 n2 c2, .slice a3 n3 c3, .slice a4 n4 c4], .int .i64 1048576] w fun e w' => e = .returned (.int .i64 (if n1 + n2 + n3 + n4 ≤ 1048576 then 1048576 - n1 - n2 - n3 - n4 else -1)) ∧ Below w.heap.size w w' := by
  have q1 := szMem_any a1 n1 c1 h1
  by_cases k1 : n1 ≤ 1048576
  · rw [if_pos (by omega)] at q1
    have q2 := szWrite_any a2 n2 c2 (1048576 - n1) h2 (by omega) (by omega)
    by_cases k2 : n1 + n2 ≤ 1048576
    · rw [if_pos (by omega)] at q2
      have q3 := szTlb_any a3 n3 c3 (1048576 - n1 - n2) h3 (by omega) (by omega)
      by_cases k3 : n1 + n2 + n3 ≤ 1048576
      · rw [if_pos (by omega)] at q3
        have q4 := szWc_any a4 n4 c4 (1048576 - n1 - n2 - n3) h4 (by omega) (by omega)
        have d1 : decide ((1048576 : Int) - n1 < 0) = false := by simp; omega
        have d2 : decide ((1048576 : Int) - n1 - n2 < 0) = false := by simp; omega
        have d3 : decide ((1048576 : Int) - n1 - n2 - n3 < 0) = false := by simp; omega
        by_cases k4 : n1 + n2 + n3 + n4 ≤ 1048576
        · rw [if_pos (by omega)] at q4
          rw [if_pos k4]
          have d4 : decide ((1048576 : Int) - n1 - n2 - n3 - n4 < 0) = false := by simp; omega
          go_enter Try.func24, Try.ntmps24
          go_wp2_with (first
            | (go_at_call 12; refine (q1 _).mono ?_; rintro e w1 ⟨rfl, hb1⟩; obtain ⟨hc1, hf1⟩ := bcellM hb1)
            | (go_at_call 64; refine (q2 _).mono ?_; rintro e w2 ⟨rfl, rfl⟩)
            | (go_at_call 65; refine (q3 _).mono ?_; rintro e w3 ⟨rfl, rfl⟩)
            | (go_at_call 66; refine (q4 _).mono ?_; rintro e w4 ⟨rfl, rfl⟩))
          go_ret
          exact ⟨rfl, ((Below.refl _ _).alloc (Nat.le_refl _) _).trans (hb1.mono (by simp))⟩
        · rw [if_neg (by omega)] at q4
          rw [if_neg k4]
          go_enter Try.func24, Try.ntmps24
          go_wp2_with (first
            | (go_at_call 12; refine (q1 _).mono ?_; rintro e w1 ⟨rfl, hb1⟩; obtain ⟨hc1, hf1⟩ := bcellM hb1)
            | (go_at_call 64; refine (q2 _).mono ?_; rintro e w2 ⟨rfl, rfl⟩)
            | (go_at_call 65; refine (q3 _).mono ?_; rintro e w3 ⟨rfl, rfl⟩)
            | (go_at_call 66; refine (q4 _).mono ?_; rintro e w4 ⟨rfl, rfl⟩))
          go_ret
          exact ⟨rfl, ((Below.refl _ _).alloc (Nat.le_refl _) _).trans (hb1.mono (by simp))⟩
      · rw [if_neg (by omega)] at q3
        rw [if_neg (by omega)]
        have d1 : decide ((1048576 : Int) - n1 < 0) = false := by simp; omega
        have d2 : decide ((1048576 : Int) - n1 - n2 < 0) = false := by simp; omega
        go_enter Try.func24, Try.ntmps24
        go_wp2_with (first
          | (go_at_call 12; refine (q1 _).mono ?_; rintro e w1 ⟨rfl, hb1⟩; obtain ⟨hc1, hf1⟩ := bcellM hb1)
          | (go_at_call 64; refine (q2 _).mono ?_; rintro e w2 ⟨rfl, rfl⟩)
          | (go_at_call 65; refine (q3 _).mono ?_; rintro e w3 ⟨rfl, rfl⟩))
        go_ret
        exact ⟨rfl, ((Below.refl _ _).alloc (Nat.le_refl _) _).trans (hb1.mono (by simp))⟩
    · rw [if_neg (by omega)] at q2
      rw [if_neg (by omega)]
      have d1 : decide ((1048576 : Int) - n1 < 0) = false := by simp; omega
      go_enter Try.func24, Try.ntmps24
      go_wp2_with (first
        | (go_at_call 12; refine (q1 _).mono ?_; rintro e w1 ⟨rfl, hb1⟩; obtain ⟨hc1, hf1⟩ := bcellM hb1)
        | (go_at_call 64; refine (q2 _).mono ?_; rintro e w2 ⟨rfl, rfl⟩))
      go_ret
      exact ⟨rfl, ((Below.refl _ _).alloc (Nat.le_refl _) _).trans (hb1.mono (by simp))⟩
  · rw [if_neg (by omega)] at q1
    rw [if_neg (by omega)]
    go_enter Try.func24, Try.ntmps24
    go_wp2_with (go_at_call 12; refine (q1 _).mono ?_; rintro e w1 ⟨rfl, hb1⟩)
    go_ret
    exact ⟨rfl, ((Below.refl _ _).alloc (Nat.le_refl _) _).trans (hb1.mono (by simp))⟩

set_option maxHeartbeats 1000000 in
theorem toMachine_any (m : MV) (M : Mach) (w : World) (hs : M.Small) (h : MSrc w m M) :
    Calls Try.prog 26 #[m.agg] w fun e w' => ∃ m' : MV, e = .returned m'.agg ∧ MRow w' w.heap.size m' M ∧ m'.apart ∧ Below w.heap.size w w' := by
  have hw := fun wX (hX : Below w.heap.size w wX) => toMem_any m.w M.mem wX (h.at hX).w hs.w
  have hp := fun wX (hX : Below w.heap.size w wX) => toWriteS_any m.p M.pend wX (h.at hX).p hs.p
  have ht := fun wX (hX : Below w.heap.size w wX) => toTlbS_any m.t M.tlb wX (h.at hX).t hs.t
  have hc := fun wX (hX : Below w.heap.size w wX) => toWcS_any m.c M.wc wX (h.at hX).c hs.c
  obtain ⟨a1, c1, e1, _⟩ := h.w
  obtain ⟨a2, c2, e2, _⟩ := h.p
  obtain ⟨a3, c3, e3, _⟩ := h.t
  obtain ⟨a4, c4, e4, _⟩ := h.c
  unfold MV.agg
  rw [e1] at hw
  rw [e2] at hp
  rw [e3] at ht
  rw [e4] at hc
  rw [e1, e2, e3, e4]
  have z1 := hs.w
  have HW : Hid _ := hw
  have HP : Hid _ := hp
  have HT : Hid _ := ht
  have HC : Hid _ := hc
  clear e1 e2 e3 e4 hw hp ht hc h
  go_enter Try.func26, Try.ntmps26
  go_wp2_with fail
  refine (HW.out _ ?_).mono ?_
  · exact (((Below.refl _ _).alloc (Nat.le_refl _) _).alloc (by simp) _).alloc (by simp <;> omega) _
  rintro e w1 ⟨g1, rfl, hg1, hr1, hb1⟩
  obtain ⟨hc1, hf1⟩ : (∀ b o, b < w.heap.size + 3 → w1.cell? ⟨b, o, none⟩ = (((w.alloc _).alloc _).alloc _).cell? ⟨b, o, none⟩) ∧ (∀ b o, b < w.heap.size + 3 → w1.frozen? ⟨b, o, none⟩ = (((w.alloc _).alloc _).alloc _).frozen? ⟨b, o, none⟩) :=
    ⟨fun b o h => hb1.cell (p := ⟨b, o, none⟩) (by simp; omega), fun b o h => hb1.frozen (p := ⟨b, o, none⟩) (by simp; omega)⟩
  have s1 := hb1.size
  simp at s1 hg1
  have B1 : Below w.heap.size w w1 := ((((Below.refl _ _).alloc (Nat.le_refl _) _).alloc (by simp) _).alloc (by simp <;> omega) _).trans (hb1.mono (by simp; omega))
  have R1 := hr1.erow (base := w.heap.size) (by omega) hs.w
  have l1 := hr1.lt
  have HR1 : Hid (ERow eWord w1 _ _ _) := R1
  have HB1 : Hid (Below _ w w1) := B1
  clear hr1 R1 B1 hb1
  go_wp2_with fail
  refine (HP.out _ (HB1.out.setCell (by simp; omega) _)).mono ?_
  rintro e w2 ⟨rfl, hr2, hb2⟩
  simp only [World.size_setCell] at hr2
  obtain ⟨hc2, hf2⟩ : (∀ b o, b < w.heap.size + 3 → w2.cell? ⟨b, o, none⟩ = (w1.setCell _ _).cell? ⟨b, o, none⟩) ∧ (∀ b o, b < w.heap.size + 3 → w2.frozen? ⟨b, o, none⟩ = (w1.setCell _ _).frozen? ⟨b, o, none⟩) :=
    ⟨fun b o h => hb2.cell (p := ⟨b, o, none⟩) (by simp; omega), fun b o h => hb2.frozen (p := ⟨b, o, none⟩) (by simp; omega)⟩
  have s2 := hb2.size
  simp at s2
  have T2 : Touch (fun k => k = w.heap.size + 1 + 1) w1 w2 := ⟨hb2.os, hb2.tape, hb2.output, by omega, fun k hk hn => (hb2.block k (by simpa using hk)).trans (Below.heap_setCell _ _ _ _ hn)⟩
  have B2 : Below w.heap.size w w2 := Touch.below HB1.out T2 (by omega) (fun k hk => by omega)
  have l2 : w1.heap.size < w2.heap.size := by have := hr2.own w1.heap.size rfl; omega
  have HR2 : Hid (ERow eWord w2 w.heap.size (.slice (some ⟨g1, 0, none⟩) M.mem.length M.mem.length) M.mem ∧ ERow eWrite w2 w.heap.size (.slice (some ⟨w1.heap.size, 0, none⟩) M.pend.length M.pend.length) M.pend) :=
    ⟨HR1.out.touch T2 (fun k hk hx => by simp [Value.ownBlock] at hk; omega), hr2.rebase (by omega)⟩
  have HB2 : Hid (Below _ w w2) := B2
  clear hr2 hb2 T2 B2
  go_wp2_with fail
  refine (HT.out _ (HB2.out.setCell (by simp; omega) _)).mono ?_
  rintro e w3 ⟨rfl, hr3, hb3⟩
  simp only [World.size_setCell] at hr3
  obtain ⟨hc3, hf3⟩ : (∀ b o, b < w.heap.size + 3 → w3.cell? ⟨b, o, none⟩ = (w2.setCell _ _).cell? ⟨b, o, none⟩) ∧ (∀ b o, b < w.heap.size + 3 → w3.frozen? ⟨b, o, none⟩ = (w2.setCell _ _).frozen? ⟨b, o, none⟩) :=
    ⟨fun b o h => hb3.cell (p := ⟨b, o, none⟩) (by simp; omega), fun b o h => hb3.frozen (p := ⟨b, o, none⟩) (by simp; omega)⟩
  have s3 := hb3.size
  simp at s3
  have T3 : Touch (fun k => k = w.heap.size + 1 + 1) w2 w3 := ⟨hb3.os, hb3.tape, hb3.output, by omega, fun k hk hn => (hb3.block k (by simpa using hk)).trans (Below.heap_setCell _ _ _ _ hn)⟩
  have B3 : Below w.heap.size w w3 := Touch.below HB2.out T3 (by omega) (fun k hk => by omega)
  have l3 : w2.heap.size < w3.heap.size := by have := hr3.own w2.heap.size rfl; omega
  have HR3 : Hid (ERow eWord w3 w.heap.size (.slice (some ⟨g1, 0, none⟩) M.mem.length M.mem.length) M.mem ∧ ERow eWrite w3 w.heap.size (.slice (some ⟨w1.heap.size, 0, none⟩) M.pend.length M.pend.length) M.pend ∧ ERow eTlb w3 w.heap.size (.slice (some ⟨w2.heap.size, 0, none⟩) M.tlb.length M.tlb.length) M.tlb) :=
    ⟨HR2.out.1.touch T3 (fun k hk hx => by simp [Value.ownBlock] at hk; omega), HR2.out.2.touch T3 (fun k hk hx => by simp [Value.ownBlock] at hk; omega), hr3.rebase (by omega)⟩
  have HB3 : Hid (Below _ w w3) := B3
  clear hr3 hb3 T3 B3
  go_wp2_with fail
  refine (HC.out _ (HB3.out.setCell (by simp; omega) _)).mono ?_
  rintro e w4 ⟨rfl, hr4, hb4⟩
  simp only [World.size_setCell] at hr4
  obtain ⟨hc4, hf4⟩ : (∀ b o, b < w.heap.size + 3 → w4.cell? ⟨b, o, none⟩ = (w3.setCell _ _).cell? ⟨b, o, none⟩) ∧ (∀ b o, b < w.heap.size + 3 → w4.frozen? ⟨b, o, none⟩ = (w3.setCell _ _).frozen? ⟨b, o, none⟩) :=
    ⟨fun b o h => hb4.cell (p := ⟨b, o, none⟩) (by simp; omega), fun b o h => hb4.frozen (p := ⟨b, o, none⟩) (by simp; omega)⟩
  have s4 := hb4.size
  simp at s4
  have T4 : Touch (fun k => k = w.heap.size + 1 + 1) w3 w4 := ⟨hb4.os, hb4.tape, hb4.output, by omega, fun k hk hn => (hb4.block k (by simpa using hk)).trans (Below.heap_setCell _ _ _ _ hn)⟩
  have B4 : Below w.heap.size w w4 := Touch.below HB3.out T4 (by omega) (fun k hk => by omega)
  have l4 : w3.heap.size < w4.heap.size := by have := hr4.own w3.heap.size rfl; omega
  have HR4 : Hid (MRow w4 w.heap.size ⟨.slice (some ⟨g1, 0, none⟩) M.mem.length M.mem.length, .slice (some ⟨w1.heap.size, 0, none⟩) M.pend.length M.pend.length, .slice (some ⟨w2.heap.size, 0, none⟩) M.tlb.length M.tlb.length, .slice (some ⟨w3.heap.size, 0, none⟩) M.wc.length M.wc.length⟩ M) :=
    ⟨HR3.out.1.touch T4 (fun k hk hx => by simp [Value.ownBlock] at hk; omega), HR3.out.2.1.touch T4 (fun k hk hx => by simp [Value.ownBlock] at hk; omega), HR3.out.2.2.touch T4 (fun k hk hx => by simp [Value.ownBlock] at hk; omega), hr4.rebase (by omega)⟩
  have HB4 : Hid (Below _ w w4) := B4
  clear hr4 hb4 T4 B4
  go_wp2_with fail
  refine bodyPost_ret (v := .agg #[.slice (some ⟨g1, 0, none⟩) M.mem.length M.mem.length, .slice (some ⟨w1.heap.size, 0, none⟩) M.pend.length M.pend.length, .slice (some ⟨w2.heap.size, 0, none⟩) M.tlb.length M.tlb.length, .slice (some ⟨w3.heap.size, 0, none⟩) M.wc.length M.wc.length])
    (by simp [results, Try.results26, go_sem, hc4, hc3, hc2, hc1]) rfl ⟨⟨.slice (some ⟨g1, 0, none⟩) M.mem.length M.mem.length, .slice (some ⟨w1.heap.size, 0, none⟩) M.pend.length M.pend.length, .slice (some ⟨w2.heap.size, 0, none⟩) M.tlb.length M.tlb.length, .slice (some ⟨w3.heap.size, 0, none⟩) M.wc.length M.wc.length⟩, rfl, ?_, ?_, ?_⟩
  · refine HR4.out.touch (S := fun k => k = w.heap.size + 1 + 1 ∨ k = w.heap.size + 1) ⟨rfl, rfl, rfl, by simp, fun k hk hn => ?_⟩ ?_
    · have n1 : k ≠ w.heap.size + 1 + 1 := fun e => hn (.inl e)
      have n2 : k ≠ w.heap.size + 1 := fun e => hn (.inr e)
      rw [Below.heap_setCell _ _ _ _ (by exact n2), Below.heap_setCell _ _ _ _ (by exact n2), Below.heap_setCell _ _ _ _ (by exact n2), Below.heap_setCell _ _ _ _ (by exact n2), Below.heap_setCell _ _ _ _ (by exact n1)]
    · rintro k (hk | hk | hk | hk) <;> simp [Value.ownBlock] at hk <;> omega
  · intro k
    simp only [Value.ownBlock, Option.some.injEq, ne_eq]
    omega
  · exact ((((HB4.out.setCell (by simp; omega) _).setCell (by simp) _).setCell (by simp) _).setCell (by simp) _).setCell (by simp) _
end Go.Proofs.Ytnmhkgmmpkjjeab
