import Derived.Test.YtnmhkgmmpkjjeabWM
import Derived.Test.YtnmhkgmmpkjjeabUSmall
import Derived.Test.YtnmhkgmmpkjjeabIAddB
namespace Go.Proofs.Ytnmhkgmmpkjjeab
open Go.ChangeShapes Go.WideShapes Go.ChangeAt Go.RowKit
set_option linter.unusedVariables false

/-! The machine as the program holds it while things happen to it. -/
def eTE : Elt TlbE := ⟨193, 5, fun x => [.int .i64 x.page, .int .i64 x.size, .bool x.doom, .int .i64 x.out, .int .i64 x.perm], ⟨0, 0, 0, 0, false⟩, by omega, fun _ => rfl⟩
def eWE : Elt WcE := ⟨170, 5, fun x => [.int .i64 x.page, .int .i64 (16 * cov x.level), .bool x.doom, .int .i64 x.level, .int .i64 x.table], ⟨0, 0, 0, false⟩, by omega, fun _ => rfl⟩
theorem infoTE : (Try.prog.info? 193).map (fun i => (i.zero, i.size, i.bytes)) = some (some (.agg #[.int .i64 0, .int .i64 0, .bool false, .int .i64 0, .int .i64 0]), 5, 40) := by kernel_rfl
theorem infoWE : (Try.prog.info? 170).map (fun i => (i.zero, i.size, i.bytes)) = some (some (.agg #[.int .i64 0, .int .i64 0, .bool false, .int .i64 0, .int .i64 0]), 5, 40) := by kernel_rfl
/-- Where the five lists lie: mem, latest, pend, tlb, wc. -/
structure UV where
  a1 : Option Addr
  c1 : Nat
  a2 : Option Addr
  n2 : Nat
  c2 : Nat
  a3 : Option Addr
  c3 : Nat
  a4 : Option Addr
  c4 : Nat
  a5 : Option Addr
  c5 : Nat
def oOf (a : Option Addr) : Option Nat := (Value.slice a 0 0).ownBlock
theorem own_slice (a : Option Addr) (n c : Nat) : (Value.slice a n c).ownBlock = oOf a := by
  unfold oOf
  rcases a with _ | ⟨b, o, sp⟩
  · rfl
  · cases o <;> cases sp <;> rfl
theorem ERow.touchA {α : Type} {E : Elt α} {w w' : World} {base : Nat} {a : Option Addr} {n c : Nat} {xs : List α} {S : Nat → Prop} (h : ERow E w base (.slice a n c) xs) (hg : Touch S w w') (hne : ∀ k, oOf a = some k → ¬ S k) : ERow E w' base (.slice a n c) xs :=
  h.touch hg (fun k hk => hne k (by rw [← own_slice a n c]; exact hk))
theorem ERow.ownA {α : Type} {E : Elt α} {w : World} {base : Nat} {a : Option Addr} {n c : Nat} {xs : List α} (h : ERow E w base (.slice a n c) xs) : ∀ k, oOf a = some k → base ≤ k ∧ k < w.heap.size :=
  fun k hk => h.own k (by rw [own_slice a n c]; exact hk)
def UV.o1 (u : UV) : Option Nat := oOf u.a1
def UV.o2 (u : UV) : Option Nat := oOf u.a2
def UV.o3 (u : UV) : Option Nat := oOf u.a3
def UV.o4 (u : UV) : Option Nat := oOf u.a4
def UV.o5 (u : UV) : Option Nat := oOf u.a5
/-- The blocks that a walk may write: the machine's own and those of the two caches. -/
def UV.wr (u : UV) (gu : Nat) (k : Nat) : Prop := k = gu ∨ u.o4 = some k ∨ u.o5 = some k
structure UApart (gu : Nat) (u : UV) : Prop where
  g1 : u.o1 ≠ some gu
  g2 : u.o2 ≠ some gu
  g3 : u.o3 ≠ some gu
  g4 : u.o4 ≠ some gu
  g5 : u.o5 ≠ some gu
  t1 : ∀ k, u.o4 = some k → u.o1 ≠ some k
  t2 : ∀ k, u.o4 = some k → u.o2 ≠ some k
  t3 : ∀ k, u.o4 = some k → u.o3 ≠ some k
  t5 : ∀ k, u.o4 = some k → u.o5 ≠ some k
  w1 : ∀ k, u.o5 = some k → u.o1 ≠ some k
  w2 : ∀ k, u.o5 = some k → u.o2 ≠ some k
  w3 : ∀ k, u.o5 = some k → u.o3 ≠ some k
/-- Memory after all pending writes. -/
def lateL (M : Mach) : List Int := M.pend.foldl (fun z e => z.set e.addr.toNat e.word) M.mem
/-- The machine at block gu; L: is the latest memory there too? b0, B: where its lists begin. -/
structure UM (W : World) (gu b0 B : Nat) (L : Bool) (u : UV) (M : Mach) : Prop where
  lt : gu < W.heap.size
  q0 : W.cell? ⟨gu, 0, none⟩ = some (.slice u.a1 M.mem.length u.c1)
  q1 : W.cell? ⟨gu, 1, none⟩ = some (.slice u.a2 u.n2 u.c2)
  q2 : W.cell? ⟨gu, 2, none⟩ = some (.slice u.a3 M.pend.length u.c3)
  q3 : W.cell? ⟨gu, 3, none⟩ = some (.slice u.a4 M.tlb.length u.c4)
  q4 : W.cell? ⟨gu, 4, none⟩ = some (.slice u.a5 M.wc.length u.c5)
  f2 : W.frozen? ⟨gu, 2, none⟩ = false
  f3 : W.frozen? ⟨gu, 3, none⟩ = false
  f4 : W.frozen? ⟨gu, 4, none⟩ = false
  w : ERow eWord W b0 (.slice u.a1 M.mem.length u.c1) M.mem
  l : L = true → u.n2 = M.mem.length ∧ ERow eWord W b0 (.slice u.a2 u.n2 u.c2) (lateL M)
  p : ERow eWrite W b0 (.slice u.a3 M.pend.length u.c3) M.pend
  t : ERow eTE W B (.slice u.a4 M.tlb.length u.c4) M.tlb
  c : ERow eWE W B (.slice u.a5 M.wc.length u.c5) M.wc
  ap : UApart gu u
  o2 : ∀ k, u.o2 = some k → k < W.heap.size
theorem UM.below {W W' : World} {gu b0 B : Nat} {L : Bool} {u : UV} {M : Mach} (h : UM W gu b0 B L u M) (hb : Below W.heap.size W W') : UM W' gu b0 B L u M :=
  ⟨Nat.lt_of_lt_of_le h.lt hb.size, (hb.cell h.lt).trans h.q0, (hb.cell h.lt).trans h.q1, (hb.cell h.lt).trans h.q2, (hb.cell h.lt).trans h.q3, (hb.cell h.lt).trans h.q4, (hb.frozen h.lt).trans h.f2, (hb.frozen h.lt).trans h.f3, (hb.frozen h.lt).trans h.f4,
    h.w.below hb, fun hl => ⟨(h.l hl).1, (h.l hl).2.below hb⟩, h.p.below hb, h.t.below hb, h.c.below hb, h.ap, fun k hk => Nat.lt_of_lt_of_le (h.o2 k hk) hb.size⟩
theorem UM.touch {W W' : World} {gu b0 B : Nat} {L : Bool} {u : UV} {M : Mach} {S : Nat → Prop} (h : UM W gu b0 B L u M) (hb : Touch S W W') (hg : ¬ S gu) (h1 : ∀ k, u.o1 = some k → ¬ S k) (h2 : ∀ k, u.o2 = some k → ¬ S k) (h3 : ∀ k, u.o3 = some k → ¬ S k) (h4 : ∀ k, u.o4 = some k → ¬ S k) (h5 : ∀ k, u.o5 = some k → ¬ S k) : UM W' gu b0 B L u M := by
  have hk := hb.block gu h.lt hg
  exact ⟨Nat.lt_of_lt_of_le h.lt hb.size, (World.cell?_of_block hk).trans h.q0, (World.cell?_of_block hk).trans h.q1, (World.cell?_of_block hk).trans h.q2, (World.cell?_of_block hk).trans h.q3, (World.cell?_of_block hk).trans h.q4, (World.frozen?_of_block hk).trans h.f2, (World.frozen?_of_block hk).trans h.f3, (World.frozen?_of_block hk).trans h.f4,
    h.w.touchA hb h1, fun hl => ⟨(h.l hl).1, (h.l hl).2.touchA hb h2⟩, h.p.touchA hb h3, h.t.touchA hb h4, h.c.touchA hb h5, h.ap, fun k hk => Nat.lt_of_lt_of_le (h.o2 k hk) hb.size⟩
theorem Touch.then {S S' : Nat → Prop} {a b c : World} (h : Touch S a b) (k : Touch S' b c) (hS : ∀ k, k < a.heap.size → S' k → S k) : Touch S a c :=
  ⟨k.os.trans h.os, k.tape.trans h.tape, k.output.trans h.output, Nat.le_trans h.size k.size, fun i hi hn => (k.block i (Nat.lt_of_lt_of_le hi h.size) (fun h' => hn (hS i hi h'))).trans (h.block i hi hn)⟩
/-- What a step of a walk leaves: the machine, and what it may have written. -/
structure UStep (w w' : World) (gu b0 B : Nat) (L : Bool) (u u' : UV) (M' : Mach) : Prop where
  um : UM w' gu b0 B L u' M'
  tch : Touch (u.wr gu) w w'
  old : ∀ k, u'.wr gu k → u.wr gu k ∨ w.heap.size ≤ k
  s1 : u'.o1 = u.o1
  s2 : u'.o2 = u.o2
  s3 : u'.o3 = u.o3
theorem UStep.refl {w w' : World} {gu b0 B : Nat} {L : Bool} {u : UV} {M : Mach} (h : UM w gu b0 B L u M) (hb : Below w.heap.size w w') : UStep w w' gu b0 B L u u M := ⟨h.below hb, Touch.of_below hb, fun k hk => .inl hk, rfl, rfl, rfl⟩
theorem UStep.trans {a b c : World} {gu b0 B : Nat} {L : Bool} {u v x : UV} {M N : Mach} (h : UStep a b gu b0 B L u v M) (k : UStep b c gu b0 B L v x N) : UStep a c gu b0 B L u x N :=
  ⟨k.um, h.tch.then k.tch (fun i hi hv => (h.old i hv).resolve_right (by omega)), fun i hi => by
    rcases k.old i hi with hv | hv
    · exact h.old i hv
    · exact .inr (Nat.le_trans h.tch.size hv), k.s1.trans h.s1, k.s2.trans h.s2, k.s3.trans h.s3⟩
theorem UM.wr_lt {W : World} {gu b0 B : Nat} {L : Bool} {u : UV} {M : Mach} (h : UM W gu b0 B L u M) (k : Nat) (hk : u.wr gu k) : k < W.heap.size := by
  rcases hk with rfl | hk | hk
  · exact h.lt
  · exact (h.t.ownA k hk).2
  · exact (h.c.ownA k hk).2
/-- A step made in a later world, and then the call's own blocks written: a step from the beginning. -/
theorem UStep.seal {w a b c : World} {gu b0 B : Nat} {L : Bool} {u u' : UV} {M M' : Mach} (hwa : Below w.heap.size w a) (hu : UM w gu b0 B L u M) (h : UStep a b gu b0 B L u u' M') (ht : Touch (fun k => w.heap.size ≤ k ∧ k < a.heap.size) b c) : UStep w c gu b0 B L u u' M' := by
  have hlt := hu.lt
  have key : ∀ k, u'.wr gu k → ¬ (w.heap.size ≤ k ∧ k < a.heap.size) := fun k hk hs => by
    rcases h.old k hk with h' | h'
    · have := hu.wr_lt k h'; omega
    · omega
  refine ⟨h.um.touch ht (key gu (.inl rfl)) ?_ ?_ ?_ (fun k hk => key k (.inr (.inl hk))) (fun k hk => key k (.inr (.inr hk))), ⟨ht.os.trans (h.tch.os.trans hwa.os), ht.tape.trans (h.tch.tape.trans hwa.tape), ht.output.trans (h.tch.output.trans hwa.output), Nat.le_trans hwa.size (Nat.le_trans h.tch.size ht.size), fun k hk hn => ?_⟩, fun k hk => ?_, h.s1, h.s2, h.s3⟩
  · intro k hk hs
    rw [h.s1] at hk
    have := (hu.w.ownA k hk).2
    omega
  · intro k hk hs
    rw [h.s2] at hk
    have := hu.o2 k hk
    omega
  · intro k hk hs
    rw [h.s3] at hk
    have := (hu.p.ownA k hk).2
    omega
  · have := hwa.size
    have := h.tch.size
    exact (ht.block k (by omega) (by omega)).trans ((h.tch.block k (by omega) hn).trans (hwa.block k hk))
  · rcases h.old k hk with h' | h'
    · exact .inl h'
    · exact .inr (Nat.le_trans hwa.size h')
/-- One block of the call's own is written: still a step from the beginning. -/
theorem UStep.own {w b c : World} {gu b0 B R : Nat} {L : Bool} {u u' : UV} {M M' : Mach} (hu : UM w gu b0 B L u M) (h : UStep w b gu b0 B L u u' M') (ht : Touch (fun k => k = R) b c) (hR : w.heap.size ≤ R) (hn : ¬ u'.wr gu R) : UStep w c gu b0 B L u u' M' := by
  have key : ∀ k, u'.wr gu k → ¬ k = R := fun k hk e => hn (e ▸ hk)
  refine ⟨h.um.touch ht (key gu (.inl rfl)) ?_ ?_ ?_ (fun k hk => key k (.inr (.inl hk))) (fun k hk => key k (.inr (.inr hk))), ⟨ht.os.trans h.tch.os, ht.tape.trans h.tch.tape, ht.output.trans h.tch.output, Nat.le_trans h.tch.size ht.size, fun k hk hn => ?_⟩, h.old, h.s1, h.s2, h.s3⟩
  · intro k hk hs
    rw [h.s1] at hk
    have := (hu.w.ownA k hk).2
    omega
  · intro k hk hs
    rw [h.s2] at hk
    have := hu.o2 k hk
    omega
  · intro k hk hs
    rw [h.s3] at hk
    have := (hu.p.ownA k hk).2
    omega
  · have := h.tch.size
    exact (ht.block k (by omega) (by omega)).trans (h.tch.block k hk hn)
theorem UStep.wr_new {a b : World} {gu b0 B R : Nat} {L : Bool} {u u' : UV} {M' : Mach} (h : UStep a b gu b0 B L u u' M') (hR : R < a.heap.size) (hn : ¬ u.wr gu R) : ¬ u'.wr gu R := fun hk => by
  rcases h.old R hk with h' | h'
  · exact hn h'
  · omega
/-- The walk cache's list has turned. -/
theorem UM.newWc {W W' : World} {gu b0 B : Nat} {L : Bool} {u : UV} {M : Mach} (h : UM W gu b0 B L u M) (hg : W.grownBy W' u.o5) (a' : Option Addr) (c' : Nat) (ys : List WcE)
    (hc : ERow eWE W' B (.slice a' ys.length c') ys) (ho : ∀ k, oOf a' = some k → u.o5 = some k ∨ W.heap.size ≤ k) :
    UStep W (W'.setCell ⟨gu, 4, none⟩ (.slice a' ys.length c')) gu b0 B L u ⟨u.a1, u.c1, u.a2, u.n2, u.c2, u.a3, u.c3, u.a4, u.c4, a', c'⟩ ⟨M.mem, M.pend, M.tlb, ys⟩ := by
  have l1 : ∀ k, u.o1 = some k → k < W.heap.size := fun k hk => (h.w.ownA k hk).2
  have l2 := h.o2
  have l3 : ∀ k, u.o3 = some k → k < W.heap.size := fun k hk => (h.p.ownA k hk).2
  have l4 : ∀ k, u.o4 = some k → k < W.heap.size := fun k hk => (h.t.ownA k hk).2
  have l5 : ∀ k, u.o5 = some k → k < W.heap.size := fun k hk => (h.c.ownA k hk).2
  have hlt := h.lt
  have hblk : W'.heap[gu]? = W.heap[gu]? := hg.block gu h.lt (fun e => h.ap.g5 e.symm)
  have hT : Touch (u.wr gu) W (W'.setCell ⟨gu, 4, none⟩ (.slice a' ys.length c')) := ⟨hg.os, hg.tape, hg.output, by simpa using hg.size, fun k hk hn => (Below.heap_setCell _ _ _ _ (fun e => hn (.inl e))).trans (hg.block k hk (fun e => hn (.inr (.inr e.symm))))⟩
  have hS : Touch (fun k => k = gu ∨ u.o5 = some k) W (W'.setCell ⟨gu, 4, none⟩ (.slice a' ys.length c')) := ⟨hg.os, hg.tape, hg.output, by simpa using hg.size, fun k hk hn => (Below.heap_setCell _ _ _ _ (fun e => hn (.inl e))).trans (hg.block k hk (fun e => hn (.inr e.symm)))⟩
  have hsz := hg.size
  have hne : oOf a' ≠ some gu := fun e => by
    rcases ho gu e with h' | h'
    · exact h.ap.g5 h'
    · omega
  have cells : ∀ i, i ≠ 4 → (W'.setCell ⟨gu, 4, none⟩ (.slice a' ys.length c')).cell? ⟨gu, i, none⟩ = W.cell? ⟨gu, i, none⟩ := fun i hi => by
    rw [World.cell?_setCell_other _ _ _ _ (by intro e; injection e with _ e; exact hi e.symm)]
    exact World.cell?_of_block hblk
  have cnew : (W'.setCell ⟨gu, 4, none⟩ (.slice a' ys.length c')).cell? ⟨gu, 4, none⟩ = some (.slice a' ys.length c') := World.cell?_setCell_same _ _ _ ((World.cell?_of_block (a := ⟨gu, 4, none⟩) hblk).trans h.q4)
  have frz : ∀ i, (W'.setCell ⟨gu, 4, none⟩ (.slice a' ys.length c')).frozen? ⟨gu, i, none⟩ = W.frozen? ⟨gu, i, none⟩ := fun i => by
    rw [World.frozen?_setCell]
    exact World.frozen?_of_block (a := ⟨gu, i, none⟩) hblk
  have hrow : ERow eWE (W'.setCell ⟨gu, 4, none⟩ (.slice a' ys.length c')) B (.slice a' ys.length c') ys :=
    hc.touchA (S := fun k => k = gu) ⟨rfl, rfl, rfl, by simp, fun k hk hn => Below.heap_setCell _ _ _ _ hn⟩ (fun k hk e => hne (by rw [← e]; exact hk))
  have nb : ∀ (o : Option Nat), (∀ k, o = some k → k < W.heap.size) → (∀ k, u.o5 = some k → o ≠ some k) → ∀ k, oOf a' = some k → o ≠ some k := fun o h1 h2 k hk e => by
    rcases ho k hk with h' | h'
    · exact h2 k h' e
    · have := h1 k e; omega
  refine ⟨⟨?_, (cells 0 (by omega)).trans h.q0, (cells 1 (by omega)).trans h.q1, (cells 2 (by omega)).trans h.q2, (cells 3 (by omega)).trans h.q3, cnew, (frz 2).trans h.f2, (frz 3).trans h.f3, (frz 4).trans h.f4, ?_, fun hl => ⟨(h.l hl).1, ?_⟩, ?_, ?_, hrow, ?_, fun k hk => ?_⟩, hT, fun k hk => ?_, rfl, rfl, rfl⟩
  · exact Nat.lt_of_lt_of_le h.lt hT.size
  · exact h.w.touchA hS (fun k hk hx => hx.elim (fun e => h.ap.g1 (e ▸ hk)) (fun e => h.ap.w1 k e hk))
  · exact (h.l hl).2.touchA hS (fun k hk hx => hx.elim (fun e => h.ap.g2 (e ▸ hk)) (fun e => h.ap.w2 k e hk))
  · exact h.p.touchA hS (fun k hk hx => hx.elim (fun e => h.ap.g3 (e ▸ hk)) (fun e => h.ap.w3 k e hk))
  · exact h.t.touchA hS (fun k hk hx => hx.elim (fun e => h.ap.g4 (e ▸ hk)) (fun e => h.ap.t5 k hk e))
  · exact ⟨h.ap.g1, h.ap.g2, h.ap.g3, h.ap.g4, hne, h.ap.t1, h.ap.t2, h.ap.t3, fun k hk e => nb u.o4 l4 (fun j hj e' => h.ap.t5 j e' hj) k e hk, nb u.o1 l1 h.ap.w1, nb u.o2 l2 h.ap.w2, nb u.o3 l3 h.ap.w3⟩
  · exact Nat.lt_of_lt_of_le (l2 k hk) hT.size
  · rcases hk with hk | hk | hk
    · exact .inl (.inl hk)
    · exact .inl (.inr (.inl hk))
    · rcases ho k hk with h' | h'
      · exact .inl (.inr (.inr h'))
      · exact .inr h'
/-- The TLB's list has turned. -/
theorem UM.newTlb {W W' : World} {gu b0 B : Nat} {L : Bool} {u : UV} {M : Mach} (h : UM W gu b0 B L u M) (hg : W.grownBy W' u.o4) (a' : Option Addr) (c' : Nat) (ys : List TlbE)
    (hc : ERow eTE W' B (.slice a' ys.length c') ys) (ho : ∀ k, oOf a' = some k → u.o4 = some k ∨ W.heap.size ≤ k) :
    UStep W (W'.setCell ⟨gu, 3, none⟩ (.slice a' ys.length c')) gu b0 B L u ⟨u.a1, u.c1, u.a2, u.n2, u.c2, u.a3, u.c3, a', c', u.a5, u.c5⟩ ⟨M.mem, M.pend, ys, M.wc⟩ := by
  have l1 : ∀ k, u.o1 = some k → k < W.heap.size := fun k hk => (h.w.ownA k hk).2
  have l2 := h.o2
  have l3 : ∀ k, u.o3 = some k → k < W.heap.size := fun k hk => (h.p.ownA k hk).2
  have l4 : ∀ k, u.o4 = some k → k < W.heap.size := fun k hk => (h.t.ownA k hk).2
  have l5 : ∀ k, u.o5 = some k → k < W.heap.size := fun k hk => (h.c.ownA k hk).2
  have hlt := h.lt
  have hblk : W'.heap[gu]? = W.heap[gu]? := hg.block gu h.lt (fun e => h.ap.g4 e.symm)
  have hT : Touch (u.wr gu) W (W'.setCell ⟨gu, 3, none⟩ (.slice a' ys.length c')) := ⟨hg.os, hg.tape, hg.output, by simpa using hg.size, fun k hk hn => (Below.heap_setCell _ _ _ _ (fun e => hn (.inl e))).trans (hg.block k hk (fun e => hn (.inr (.inl e.symm))))⟩
  have hS : Touch (fun k => k = gu ∨ u.o4 = some k) W (W'.setCell ⟨gu, 3, none⟩ (.slice a' ys.length c')) := ⟨hg.os, hg.tape, hg.output, by simpa using hg.size, fun k hk hn => (Below.heap_setCell _ _ _ _ (fun e => hn (.inl e))).trans (hg.block k hk (fun e => hn (.inr e.symm)))⟩
  have hsz := hg.size
  have hne : oOf a' ≠ some gu := fun e => by
    rcases ho gu e with h' | h'
    · exact h.ap.g4 h'
    · omega
  have cells : ∀ i, i ≠ 3 → (W'.setCell ⟨gu, 3, none⟩ (.slice a' ys.length c')).cell? ⟨gu, i, none⟩ = W.cell? ⟨gu, i, none⟩ := fun i hi => by
    rw [World.cell?_setCell_other _ _ _ _ (by intro e; injection e with _ e; exact hi e.symm)]
    exact World.cell?_of_block hblk
  have cnew : (W'.setCell ⟨gu, 3, none⟩ (.slice a' ys.length c')).cell? ⟨gu, 3, none⟩ = some (.slice a' ys.length c') := World.cell?_setCell_same _ _ _ ((World.cell?_of_block (a := ⟨gu, 3, none⟩) hblk).trans h.q3)
  have frz : ∀ i, (W'.setCell ⟨gu, 3, none⟩ (.slice a' ys.length c')).frozen? ⟨gu, i, none⟩ = W.frozen? ⟨gu, i, none⟩ := fun i => by
    rw [World.frozen?_setCell]
    exact World.frozen?_of_block (a := ⟨gu, i, none⟩) hblk
  have hrow : ERow eTE (W'.setCell ⟨gu, 3, none⟩ (.slice a' ys.length c')) B (.slice a' ys.length c') ys :=
    hc.touchA (S := fun k => k = gu) ⟨rfl, rfl, rfl, by simp, fun k hk hn => Below.heap_setCell _ _ _ _ hn⟩ (fun k hk e => hne (by rw [← e]; exact hk))
  have nb : ∀ (o : Option Nat), (∀ k, o = some k → k < W.heap.size) → (∀ k, u.o4 = some k → o ≠ some k) → ∀ k, oOf a' = some k → o ≠ some k := fun o h1 h2 k hk e => by
    rcases ho k hk with h' | h'
    · exact h2 k h' e
    · have := h1 k e; omega
  refine ⟨⟨?_, (cells 0 (by omega)).trans h.q0, (cells 1 (by omega)).trans h.q1, (cells 2 (by omega)).trans h.q2, cnew, (cells 4 (by omega)).trans h.q4, (frz 2).trans h.f2, (frz 3).trans h.f3, (frz 4).trans h.f4, ?_, fun hl => ⟨(h.l hl).1, ?_⟩, ?_, hrow, ?_, ?_, fun k hk => ?_⟩, hT, fun k hk => ?_, rfl, rfl, rfl⟩
  · exact Nat.lt_of_lt_of_le h.lt hT.size
  · exact h.w.touchA hS (fun k hk hx => hx.elim (fun e => h.ap.g1 (e ▸ hk)) (fun e => h.ap.t1 k e hk))
  · exact (h.l hl).2.touchA hS (fun k hk hx => hx.elim (fun e => h.ap.g2 (e ▸ hk)) (fun e => h.ap.t2 k e hk))
  · exact h.p.touchA hS (fun k hk hx => hx.elim (fun e => h.ap.g3 (e ▸ hk)) (fun e => h.ap.t3 k e hk))
  · exact h.c.touchA hS (fun k hk hx => hx.elim (fun e => h.ap.g5 (e ▸ hk)) (fun e => h.ap.t5 k e hk))
  · exact ⟨h.ap.g1, h.ap.g2, h.ap.g3, hne, h.ap.g5, nb u.o1 l1 h.ap.t1, nb u.o2 l2 h.ap.t2, nb u.o3 l3 h.ap.t3, nb u.o5 l5 h.ap.t5, h.ap.w1, h.ap.w2, h.ap.w3⟩
  · exact Nat.lt_of_lt_of_le (l2 k hk) hT.size
  · rcases hk with hk | hk | hk
    · exact .inl (.inl hk)
    · rcases ho k hk with h' | h'
      · exact .inl (.inr (.inl h'))
      · exact .inr h'
    · exact .inl (.inr (.inr hk))
end Go.Proofs.Ytnmhkgmmpkjjeab
