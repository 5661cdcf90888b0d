import Derived.Test.YtnmhkgmmpkjjeabRowWord
import Derived.Test.YtnmhkgmmpkjjeabRowWrite
import Derived.Test.YtnmhkgmmpkjjeabRowTlb
import Derived.Test.YtnmhkgmmpkjjeabRowWc
namespace Go.Proofs.Ytnmhkgmmpkjjeab
open Go.ChangeShapes Go.WideShapes Go.ChangeAt Go.RowKit
set_option linter.unusedVariables false
attribute [local go_sem ↓] Go.wp_at_zero Go.wp_at_succ

/-- What a machine holds. -/
structure Mach where
  mem : List Int
  pend : List WriteE
  tlb : List TlbE
  wc : List WcE
/-- The four slices of a machine's value. -/
structure MV where
  w : Value
  p : Value
  t : Value
  c : Value
def MV.agg (m : MV) : Value := .agg #[m.w, m.p, m.t, m.c]
def MV.owns (m : MV) (k : Nat) : Prop := m.w.ownBlock = some k ∨ m.p.ownBlock = some k ∨ m.t.ownBlock = some k ∨ m.c.ownBlock = some k
/-- No two of the slices lie in one block. -/
def MV.apart (m : MV) : Prop := ∀ k, (m.w.ownBlock = some k → m.p.ownBlock ≠ some k ∧ m.t.ownBlock ≠ some k ∧ m.c.ownBlock ≠ some k) ∧ (m.p.ownBlock = some k → m.t.ownBlock ≠ some k ∧ m.c.ownBlock ≠ some k) ∧ (m.t.ownBlock = some k → m.c.ownBlock ≠ some k)
structure MRow (W : World) (base : Nat) (m : MV) (M : Mach) : Prop where
  w : ERow eWord W base m.w M.mem
  p : ERow eWrite W base m.p M.pend
  t : ERow eTlb W base m.t M.tlb
  c : ERow eWc W base m.c M.wc
structure MSrc (W : World) (m : MV) (M : Mach) : Prop where
  w : Src W m.w M.mem
  p : ESrc eWrite W m.p M.pend
  t : ESrc eTlb W m.t M.tlb
  c : ESrc eWc W m.c M.wc
/-- A machine that has been marked from s on. -/
structure MHas (W : World) (m : MV) (M : Mach) (s : Int) : Prop where
  w : EHas eWord W m.w M.mem.length (markWord s)
  p : EHas eWrite W m.p M.pend.length (markWrite (s + M.mem.length))
  t : EHas eTlb W m.t M.tlb.length (markTlb (s + M.mem.length + M.pend.length * 2))
  c : EHas eWc W m.c M.wc.length (markWc (s + M.mem.length + M.pend.length * 2 + M.tlb.length * 5))
structure Mach.Small (M : Mach) : Prop where
  w : M.mem.length ≤ 1048576
  p : M.pend.length ≤ 1048576
  t : M.tlb.length ≤ 1048576
  c : M.wc.length ≤ 1048576
/-- Only blocks of S have turned; the rest is new. -/
structure Touch (S : Nat → Prop) (w w' : World) : Prop where
  os : w'.os = w.os
  tape : w'.tape = w.tape
  output : w'.output = w.output
  size : w.heap.size ≤ w'.heap.size
  block : ∀ k, k < w.heap.size → ¬ S k → w'.heap[k]? = w.heap[k]?
theorem Touch.trans {S : Nat → Prop} {a b c : World} (h : Touch S a b) (k : Touch S b c) : Touch S a c :=
  ⟨k.os.trans h.os, k.tape.trans h.tape, k.output.trans h.output, Nat.le_trans h.size k.size, fun i hi hn => (k.block i (Nat.lt_of_lt_of_le hi h.size) hn).trans (h.block i hi hn)⟩
theorem Touch.of_below {S : Nat → Prop} {a b : World} (h : Below a.heap.size a b) : Touch S a b := ⟨h.os, h.tape, h.output, h.size, fun i hi _ => h.block i hi⟩
theorem Touch.of_grown {S : Nat → Prop} {a b : World} {row : Option Nat} (h : a.grownBy b row) (hS : ∀ k, row = some k → S k) : Touch S a b :=
  ⟨h.os, h.tape, h.output, h.size, fun i hi hn => h.block i hi (fun e => hn (hS i e.symm))⟩
theorem Touch.below {S : Nat → Prop} {B : Nat} {w a b : World} (h : Below B w a) (k : Touch S a b) (hB : B ≤ a.heap.size) (hS : ∀ k, S k → B ≤ k) : Below B w b :=
  ⟨k.os.trans h.os, k.tape.trans h.tape, k.output.trans h.output, Nat.le_trans h.size k.size, fun i hi => (k.block i (by omega) (fun hs => by have := hS i hs; omega)).trans (h.block i hi)⟩

theorem ERow.touch {α : Type} {E : Elt α} {w w' : World} {base : Nat} {v : Value} {xs : List α} {S : Nat → Prop} (h : ERow E w base v xs) (hg : Touch S w w') (hne : ∀ k, v.ownBlock = some k → ¬ S k) : ERow E w' base v xs := by
  refine ⟨h.1, ?_⟩
  rcases h.2 with hh | ⟨g, cap, cur, e, hb, hgg, r⟩
  · exact .inl hh
  · refine .inr ⟨g, cap, cur, e, hb, ?_, r⟩
    rw [hg.block g (Array.getElem?_eq_some_iff.1 hgg).1 (hne g (by rw [e]; rfl))]
    exact hgg
theorem EHas.touch {α : Type} {E : Elt α} {w w' : World} {v : Value} {n : Nat} {c : Nat → Nat → Value} {S : Nat → Prop} (h : EHas E w v n c) (hg : Touch S w w') (hne : ∀ k, v.ownBlock = some k → ¬ S k) : EHas E w' v n c := by
  obtain ⟨a, cap, e, h1⟩ := h
  refine ⟨a, cap, e, fun h0 => ?_⟩
  obtain ⟨g, N, f, p, q, r, s⟩ := h1 h0
  subst e p
  exact ⟨g, N, f, rfl, q.of_block (hg.block g q.lt (hne g rfl)), r, s⟩
theorem MRow.below {w w' : World} {base : Nat} {m : MV} {M : Mach} (h : MRow w base m M) (hb : Below w.heap.size w w') : MRow w' base m M := ⟨h.w.below hb, h.p.below hb, h.t.below hb, h.c.below hb⟩
theorem MRow.touch {w w' : World} {base : Nat} {m : MV} {M : Mach} {S : Nat → Prop} (h : MRow w base m M) (hg : Touch S w w') (hne : ∀ k, m.owns k → ¬ S k) : MRow w' base m M :=
  ⟨h.w.touch hg (fun k hk => hne k (.inl hk)), h.p.touch hg (fun k hk => hne k (.inr (.inl hk))), h.t.touch hg (fun k hk => hne k (.inr (.inr (.inl hk)))), h.c.touch hg (fun k hk => hne k (.inr (.inr (.inr hk))))⟩
theorem MRow.rebase {w : World} {base base' : Nat} {m : MV} {M : Mach} (h : MRow w base m M) (hb : base' ≤ base) : MRow w base' m M := ⟨h.w.rebase hb, h.p.rebase hb, h.t.rebase hb, h.c.rebase hb⟩
theorem MRow.own {w : World} {base : Nat} {m : MV} {M : Mach} (h : MRow w base m M) : ∀ k, m.owns k → base ≤ k ∧ k < w.heap.size := by
  rintro k (hk | hk | hk | hk)
  · exact h.w.own k hk
  · exact h.p.own k hk
  · exact h.t.own k hk
  · exact h.c.own k hk
theorem MSrc.at {w w' : World} {m : MV} {M : Mach} (h : MSrc w m M) (hb : Below w.heap.size w w') : MSrc w' m M := by
  refine ⟨?_, h.p.at hb, h.t.at hb, h.c.at hb⟩
  obtain ⟨a, cap, e, ha⟩ := h.w
  refine ⟨a, cap, e, fun h0 => ?_⟩
  obtain ⟨b, o, e2, hbl, hc⟩ := ha h0
  exact ⟨b, o, e2, Nat.lt_of_lt_of_le hbl hb.size, fun i hi => (hb.cell hbl).trans (hc i hi)⟩

theorem bcellM {W w1 : World} (hb : Below W.heap.size W w1) : (∀ b o, b < W.heap.size → w1.cell? ⟨b, o, none⟩ = W.cell? ⟨b, o, none⟩) ∧ (∀ b o, b < W.heap.size → w1.frozen? ⟨b, o, none⟩ = W.frozen? ⟨b, o, none⟩) :=
  ⟨fun b o h => hb.cell (p := ⟨b, o, none⟩) h, fun b o h => hb.frozen (p := ⟨b, o, none⟩) h⟩

theorem eqMachine_same (m m' : MV) (M : Mach) (b b' : Nat) (w : World) (hs : M.Small) (h : MRow w b m M) (h' : MRow w b' m' M) :
    Calls Try.prog 28 #[m.agg, m'.agg] w fun e w' => e = .returned (.bool true) ∧ Below w.heap.size w w' := by
  have hw := fun wX (hX : Below w.heap.size w wX) => eqMemE_same m.w m'.w b b' M.mem wX hs.w (h.w.below hX) (h'.w.below hX)
  have hp := fun wX (hX : Below w.heap.size w wX) => eqWriteS_same m.p m'.p b b' M.pend wX hs.p (h.p.below hX) (h'.p.below hX)
  have ht := fun wX (hX : Below w.heap.size w wX) => eqTlbS_same m.t m'.t b b' M.tlb wX hs.t (h.t.below hX) (h'.t.below hX)
  have hc := fun wX (hX : Below w.heap.size w wX) => eqWcS_same m.c m'.c b b' M.wc wX hs.c (h.c.below hX) (h'.c.below hX)
  obtain ⟨a1, c1, e1, _⟩ := h.w.form
  obtain ⟨a2, c2, e2, _⟩ := h.p.form
  obtain ⟨a3, c3, e3, _⟩ := h.t.form
  obtain ⟨a4, c4, e4, _⟩ := h.c.form
  obtain ⟨a5, c5, e5, _⟩ := h'.w.form
  obtain ⟨a6, c6, e6, _⟩ := h'.p.form
  obtain ⟨a7, c7, e7, _⟩ := h'.t.form
  obtain ⟨a8, c8, e8, _⟩ := h'.c.form
  unfold MV.agg
  clear h h'
  rw [e1, e5] at hw
  rw [e2, e6] at hp
  rw [e3, e7] at ht
  rw [e4, e8] at hc
  rw [e1, e2, e3, e4, e5, e6, e7, e8]
  have HW : Hid _ := hw
  have HP : Hid _ := hp
  have HT : Hid _ := ht
  have HC : Hid _ := hc
  clear e1 e2 e3 e4 e5 e6 e7 e8 hw hp ht hc
  go_enter Try.func28, Try.ntmps28
  go_wp2_with fail
  refine (HW.out _ ?_).mono ?_
  · exact ((Below.refl _ _).alloc (Nat.le_refl _) _).alloc (by simp) _
  rintro e w1 ⟨rfl, hb1⟩
  obtain ⟨hc1, hf1⟩ : (∀ b o, b < w.heap.size + 2 → w1.cell? ⟨b, o, none⟩ = ((w.alloc _).alloc _).cell? ⟨b, o, none⟩) ∧ (∀ b o, b < w.heap.size + 2 → w1.frozen? ⟨b, o, none⟩ = ((w.alloc _).alloc _).frozen? ⟨b, o, none⟩) :=
    ⟨fun b o h => hb1.cell (p := ⟨b, o, none⟩) (by simp; omega), fun b o h => hb1.frozen (p := ⟨b, o, none⟩) (by simp; omega)⟩
  have B1 : Below w.heap.size w w1 := (((Below.refl _ _).alloc (Nat.le_refl _) _).alloc (by simp) _).trans (hb1.mono (by simp; omega))
  have s1 := hb1.size
  simp at s1
  go_wp2_with fail
  refine (HP.out _ B1).mono ?_
  rintro e w2 ⟨rfl, hb2⟩
  have hc2 : ∀ b o, b < w.heap.size + 2 → w2.cell? ⟨b, o, none⟩ = ((w.alloc _).alloc _).cell? ⟨b, o, none⟩ := fun b o h => (hb2.cell (p := ⟨b, o, none⟩) (by simp; omega)).trans (hc1 b o h)
  have B2 := B1.trans (hb2.mono (by omega))
  have s2 := hb2.size
  go_wp2_with fail
  refine (HT.out _ B2).mono ?_
  rintro e w3 ⟨rfl, hb3⟩
  have hc3 : ∀ b o, b < w.heap.size + 2 → w3.cell? ⟨b, o, none⟩ = ((w.alloc _).alloc _).cell? ⟨b, o, none⟩ := fun b o h => (hb3.cell (p := ⟨b, o, none⟩) (by simp; omega)).trans (hc2 b o h)
  have B3 := B2.trans (hb3.mono (by omega))
  have s3 := hb3.size
  go_wp2_with fail
  refine (HC.out _ B3).mono ?_
  rintro e w4 ⟨rfl, hb4⟩
  go_wp2_with fail
  go_ret
  exact ⟨rfl, B3.trans (hb4.mono (by omega))⟩

theorem markMachine_any (m : MV) (M : Mach) (b : Nat) (w : World) (hs : M.Small) (h : MRow w b m M) (hap : m.apart) :
    Calls Try.prog 29 #[m.agg, .int .i64 1] w fun e w' => e = .returned (.int .i64 (1 + M.mem.length + M.pend.length * 2 + M.tlb.length * 5 + M.wc.length * 4)) ∧ MHas w' m M 1 ∧ Touch m.owns w w' := by
  have z1 := hs.w
  have z2 := hs.p
  have z3 := hs.t
  have z4 := hs.c
  have hown := h.own
  obtain ⟨a1, c1, e1, _⟩ := h.w.form
  obtain ⟨a2, c2, e2, _⟩ := h.p.form
  obtain ⟨a3, c3, e3, _⟩ := h.t.form
  obtain ⟨a4, c4, e4, _⟩ := h.c.form
  have hagg : m.agg = .agg #[.slice a1 M.mem.length c1, .slice a2 M.pend.length c2, .slice a3 M.tlb.length c3, .slice a4 M.wc.length c4] := by unfold MV.agg; rw [e1, e2, e3, e4]
  rw [hagg]
  obtain ⟨wb, hwb⟩ : ∃ wb, wb = w.alloc (.cells #[.slice a1 M.mem.length c1, .slice a2 M.pend.length c2, .slice a3 M.tlb.length c3, .slice a4 M.wc.length c4] 51) := ⟨_, rfl⟩
  have hbb : Below w.heap.size w wb := by rw [hwb]; exact (Below.refl _ _).alloc (Nat.le_refl _) _
  have hzb : wb.heap.size = w.heap.size + 1 := by rw [hwb]; simp
  have q1 : wb.cell? ⟨w.heap.size, 1, none⟩ = some (.slice a2 M.pend.length c2) := by rw [hwb]; simp [go_sem]
  have q2 : wb.cell? ⟨w.heap.size, 2, none⟩ = some (.slice a3 M.tlb.length c3) := by rw [hwb]; simp [go_sem]
  have q3 : wb.cell? ⟨w.heap.size, 3, none⟩ = some (.slice a4 M.wc.length c4) := by rw [hwb]; simp [go_sem]
  have hrb := h.below hbb
  have hbox : ∀ wX, Touch m.owns wb wX → wX.cell? ⟨w.heap.size, 1, none⟩ = some (.slice a2 M.pend.length c2) ∧ wX.cell? ⟨w.heap.size, 2, none⟩ = some (.slice a3 M.tlb.length c3) ∧ wX.cell? ⟨w.heap.size, 3, none⟩ = some (.slice a4 M.wc.length c4) := by
    intro wX hX
    have hk := hX.block w.heap.size (by omega) (fun hs => by have := hown _ hs; omega)
    exact ⟨(World.cell?_of_block hk).trans q1, (World.cell?_of_block hk).trans q2, (World.cell?_of_block hk).trans q3⟩
  have m1 := markMemE_any m.w b M.mem 1 wb (by omega) (by omega) hs.w hrb.w
  rw [e1, hwb] at m1
  have HWB : Hid (wb = _) := hwb
  have HBB : Hid (Below _ _ _) := hbb
  have HRB : Hid (MRow wb b m M) := hrb
  have HBOX : Hid _ := hbox
  have HAP : Hid m.apart := hap
  have H1 : Hid (m.w = _) := e1
  have H2 : Hid (m.p = _) := e2
  have H3 : Hid (m.t = _) := e3
  have H4 : Hid (m.c = _) := e4
  clear h hown hagg hwb hbb q1 q2 q3 hrb hbox hap e1 e2 e3 e4
  go_enter Try.func29, Try.ntmps29
  go_wp2_with fail
  refine m1.mono ?_
  rintro e w1 ⟨rfl, h1, g1⟩
  have t1 : Touch m.owns wb w1 := by rw [HWB.out]; exact Touch.of_grown g1 (fun k hk => .inl (by rw [H1.out]; exact hk))
  have g1' : wb.grownBy w1 m.w.ownBlock := by rw [HWB.out, H1.out]; exact g1
  have r1p := HRB.out.p.kept g1' (fun k hk e => ((HAP.out k).1 e.symm).1 hk)
  have r1t := HRB.out.t.kept g1' (fun k hk e => ((HAP.out k).1 e.symm).2.1 hk)
  have r1c := HRB.out.c.kept g1' (fun k hk e => ((HAP.out k).1 e.symm).2.2 hk)
  have m2 := markWriteS_any m.p b M.pend (1 + M.mem.length) w1 (by omega) (by omega) hs.p r1p
  rw [H2.out] at m2
  obtain ⟨x1, x2, x3⟩ := HBOX.out w1 t1
  have HA1 : Hid (EHas eWord w1 _ _ _) := h1
  have HT1 : Hid (Touch _ _ _) := t1
  have HR1 : Hid (ERow eTlb w1 b m.t M.tlb ∧ ERow eWc w1 b m.c M.wc) := ⟨r1t, r1c⟩
  clear m1 h1 g1 g1' t1 r1p r1t r1c
  go_wp2_with fail
  refine m2.mono ?_
  rintro e w2 ⟨rfl, h2, g2⟩
  have g2' : w1.grownBy w2 m.p.ownBlock := by rw [H2.out]; exact g2
  have t2' : Touch m.owns w1 w2 := Touch.of_grown g2' (fun k hk => .inr (.inl hk))
  have t2 := HT1.out.trans t2'
  have r2t := HR1.out.1.kept g2' (fun k hk e => ((HAP.out k).2.1 e.symm).1 hk)
  have r2c := HR1.out.2.kept g2' (fun k hk e => ((HAP.out k).2.1 e.symm).2 hk)
  have A1 : EHas eWord w2 m.w M.mem.length (markWord 1) := by
    refine EHas.kept ?_ g2' (fun k hk e => ((HAP.out k).1 hk).1 e.symm)
    rw [H1.out]; exact HA1.out
  have m3 := markTlbS_any m.t b M.tlb (1 + M.mem.length + M.pend.length * 2) w2 (by omega) (by omega) hs.t r2t
  rw [H3.out] at m3
  obtain ⟨x1, x2', x3'⟩ := HBOX.out w2 t2
  have HA2 : Hid (EHas eWord w2 m.w M.mem.length (markWord 1) ∧ EHas eWrite w2 m.p M.pend.length (markWrite (1 + M.mem.length))) := ⟨A1, by rw [H2.out]; exact h2⟩
  have HT2 : Hid (Touch _ wb w2) := t2
  have HR2 : Hid (ERow eWc w2 b m.c M.wc) := r2c
  clear m2 h2 g2 g2' t2 t2' r2t r2c A1
  go_wp2_with fail
  refine m3.mono ?_
  rintro e w3 ⟨rfl, h3, g3⟩
  have g3' : w2.grownBy w3 m.t.ownBlock := by rw [H3.out]; exact g3
  have t3' : Touch m.owns w2 w3 := Touch.of_grown g3' (fun k hk => .inr (.inr (.inl hk)))
  have t3 := HT2.out.trans t3'
  have r3c := HR2.out.kept g3' (fun k hk e => (HAP.out k).2.2 e.symm hk)
  have A3 := HA2.out.1.kept g3' (fun k hk e => ((HAP.out k).1 hk).2.1 e.symm)
  have B3 := HA2.out.2.kept g3' (fun k hk e => ((HAP.out k).2.1 hk).1 e.symm)
  have m4 := markWcS_any m.c b M.wc (1 + M.mem.length + M.pend.length * 2 + M.tlb.length * 5) w3 (by omega) (by omega) hs.c r3c
  rw [H4.out] at m4
  obtain ⟨y1, y2, y3⟩ := HBOX.out w3 t3
  have C3 : EHas eTlb w3 m.t M.tlb.length (markTlb (1 + M.mem.length + M.pend.length * 2)) := by rw [H3.out]; exact h3
  have HA3 : Hid (EHas eWord w3 m.w M.mem.length (markWord 1) ∧ EHas eWrite w3 m.p M.pend.length (markWrite (1 + M.mem.length)) ∧ EHas eTlb w3 m.t M.tlb.length (markTlb (1 + M.mem.length + M.pend.length * 2))) := ⟨A3, B3, C3⟩
  have HT3 : Hid (Touch _ wb w3) := t3
  clear m3 h3 g3 g3' t3 t3' r3c A3 B3 C3 x1 x2 x3 x2' x3'
  go_wp2_with fail
  refine m4.mono ?_
  rintro e w4 ⟨rfl, h4, g4⟩
  have g4' : w3.grownBy w4 m.c.ownBlock := by rw [H4.out]; exact g4
  have t4 := HT3.out.trans (Touch.of_grown (S := m.owns) g4' (fun k hk => .inr (.inr (.inr hk))))
  have A4 := HA3.out.1.kept g4' (fun k hk e => ((HAP.out k).1 hk).2.2 e.symm)
  have B4 := HA3.out.2.1.kept g4' (fun k hk e => ((HAP.out k).2.1 hk).2 e.symm)
  have C4 := HA3.out.2.2.kept g4' (fun k hk e => (HAP.out k).2.2 hk e.symm)
  have D4 : EHas eWc w4 m.c M.wc.length (markWc (1 + M.mem.length + M.pend.length * 2 + M.tlb.length * 5)) := by rw [H4.out]; exact h4
  have HA4 : Hid (MHas w4 m M 1) := ⟨A4, B4, C4, D4⟩
  have HT4 : Hid (Touch _ wb w4) := t4
  clear m4 h4 g4 g4' t4 A4 B4 C4 D4 y1 y2 y3
  go_wp2_with fail
  go_ret
  exact ⟨rfl, HA4.out, (Touch.of_below HBB.out).trans HT4.out⟩

theorem heldMachine_any (m : MV) (M : Mach) (w : World) (hs : M.Small) (h : MHas w m M 1) :
    Calls Try.prog 30 #[m.agg, .int .i64 1] w fun e w' => e = .returned (.int .i64 (1 + M.mem.length + M.pend.length * 2 + M.tlb.length * 5 + M.wc.length * 4)) ∧ Below w.heap.size w w' := by
  have z1 := hs.w
  have z2 := hs.p
  have z3 := hs.t
  have z4 := hs.c
  have hw := fun wX (hX : Below w.heap.size w wX) => heldMemE_any m.w M.mem.length 1 wX (by omega) (by omega) hs.w (h.w.below hX)
  have hp := fun wX (hX : Below w.heap.size w wX) => heldWriteS_any m.p M.pend.length (1 + M.mem.length) wX (by omega) (by omega) hs.p (h.p.below hX)
  have ht := fun wX (hX : Below w.heap.size w wX) => heldTlbS_any m.t M.tlb.length (1 + M.mem.length + M.pend.length * 2) wX (by omega) (by omega) hs.t (h.t.below hX)
  have hc := fun wX (hX : Below w.heap.size w wX) => heldWcS_any m.c M.wc.length (1 + M.mem.length + M.pend.length * 2 + M.tlb.length * 5) wX (by omega) (by omega) hs.c (h.c.below hX)
  obtain ⟨a1, c1, e1, _⟩ := h.w
  obtain ⟨a2, c2, e2, _⟩ := h.p
  obtain ⟨a3, c3, e3, _⟩ := h.t
  obtain ⟨a4, c4, e4, _⟩ := h.c
  unfold MV.agg
  rw [e1] at hw
  rw [e2] at hp
  rw [e3] at ht
  rw [e4] at hc
  rw [e1, e2, e3, e4]
  have HW : Hid _ := hw
  have HP : Hid _ := hp
  have HT : Hid _ := ht
  have HC : Hid _ := hc
  have k1 : decide (1 + (M.mem.length : Int) < 0) = false := by simp; omega
  have k2 : decide (1 + (M.mem.length : Int) + M.pend.length * 2 < 0) = false := by simp; omega
  have k3 : decide (1 + (M.mem.length : Int) + M.pend.length * 2 + M.tlb.length * 5 < 0) = false := by simp; omega
  have k4 : decide (1 + (M.mem.length : Int) + M.pend.length * 2 + M.tlb.length * 5 + M.wc.length * 4 < 0) = false := by simp; omega
  clear e1 e2 e3 e4 hw hp ht hc h
  go_enter Try.func30, Try.ntmps30
  go_wp2_with fail
  refine (HW.out _ ?_).mono ?_
  · exact (Below.refl _ _).alloc (Nat.le_refl _) _
  rintro e w1 ⟨rfl, hb1⟩
  have hc1 : ∀ o, w1.cell? ⟨w.heap.size, o, none⟩ = (w.alloc _).cell? ⟨w.heap.size, o, none⟩ := fun o => hb1.cell (p := ⟨w.heap.size, o, none⟩) (by simp)
  have B1 : Below w.heap.size w w1 := ((Below.refl _ _).alloc (Nat.le_refl _) _).trans (hb1.mono (by simp))
  have s1 := hb1.size
  simp at s1
  go_wp2_with fail
  refine (HP.out _ B1).mono ?_
  rintro e w2 ⟨rfl, hb2⟩
  have hc2 : ∀ o, w2.cell? ⟨w.heap.size, o, none⟩ = (w.alloc _).cell? ⟨w.heap.size, o, none⟩ := fun o => (hb2.cell (p := ⟨w.heap.size, o, none⟩) (by simp; omega)).trans (hc1 o)
  have B2 := B1.trans (hb2.mono (by omega))
  have s2 := hb2.size
  go_wp2_with fail
  refine (HT.out _ B2).mono ?_
  rintro e w3 ⟨rfl, hb3⟩
  have hc3 : ∀ o, w3.cell? ⟨w.heap.size, o, none⟩ = (w.alloc _).cell? ⟨w.heap.size, o, none⟩ := fun o => (hb3.cell (p := ⟨w.heap.size, o, none⟩) (by simp; omega)).trans (hc2 o)
  have B3 := B2.trans (hb3.mono (by omega))
  have s3 := hb3.size
  go_wp2_with fail
  refine (HC.out _ B3).mono ?_
  rintro e w4 ⟨rfl, hb4⟩
  go_wp2_with fail
  go_ret
  exact ⟨rfl, B3.trans (hb4.mono (by omega))⟩
end Go.Proofs.Ytnmhkgmmpkjjeab
