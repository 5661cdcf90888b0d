import Derived.Test.YtnmhkgmmpkjjeaaG25
namespace Go.Proofs.Ytnmhkgmmpkjjeaa
open Go.ChangeShapes Go.WideShapes Go.ChangeAt Go.RowKit
set_option linter.unusedVariables false
set_option linter.unusedSimpArgs false
set_option maxRecDepth 100000

/-! The policy's box at block b: the map at mb, the rows of frames, pages and regions from block B on. -/
structure PA where
  g : Txt → Option OV
  fr : List RunE
  pg : List RunE
  rg : List SpanE
structure PV where
  fa : Option Addr
  fc : Nat
  pa : Option Addr
  pc : Nat
  ra : Option Addr
  rc : Nat
def oP (a : Option Addr) : Option Nat := (Value.slice a 0 0).ownBlock
theorem oP_slice (a : Option Addr) (n c : Nat) : (Value.slice a n c).ownBlock = oP a := by
  unfold oP
  cases a with
  | none => rfl
  | some d => rfl
theorem oP_some (g : Nat) : oP (some ⟨g, 0, none⟩) = some g := rfl
structure PI (w : World) (b mb B at_ : Nat) (v : PV) (x : PA) : Prop where
  c0 : w.cell? ⟨b, 0, none⟩ = some (.map (some mb))
  c1 : w.cell? ⟨b, 1, none⟩ = some (.slice v.fa x.fr.length v.fc)
  c2 : w.cell? ⟨b, 2, none⟩ = some (.slice v.pa x.pg.length v.pc)
  c3 : w.cell? ⟨b, 3, none⟩ = some (.slice v.ra x.rg.length v.rc)
  c4 : w.cell? ⟨b, 4, none⟩ = some (.int .i64 (at_ : Int))
  c5 : ∃ u, w.cell? ⟨b, 5, none⟩ = some u
  fz : ∀ i, w.frozen? ⟨b, i, none⟩ = false
  mp : MapO w mb x.g
  rf : ERow eRunR w B (.slice v.fa x.fr.length v.fc) x.fr
  rp : ERow eRunR w B (.slice v.pa x.pg.length v.pc) x.pg
  rr : ERow eSpan w B (.slice v.ra x.rg.length v.rc) x.rg
  s1 : ∀ k, oP v.fa = some k → oP v.pa ≠ some k ∧ oP v.ra ≠ some k
  s2 : ∀ k, oP v.pa = some k → oP v.ra ≠ some k
  bB : b < B
  mB : mb < B
  bm : b ≠ mb
  bd : B ≤ w.heap.size
/-- What may turn: the box, the map, and what lies from B on. -/
def PT (b mb B : Nat) : Nat → Prop := fun k => k = b ∨ k = mb ∨ B ≤ k
theorem PI.of {w : World} {b mb B at_ : Nat} {v : PV} {x : PA} (h : PI w b mb B at_ v x) : (∀ k, oP v.fa = some k → B ≤ k ∧ k < w.heap.size) ∧ (∀ k, oP v.pa = some k → B ≤ k ∧ k < w.heap.size) ∧ ∀ k, oP v.ra = some k → B ≤ k ∧ k < w.heap.size :=
  ⟨fun k hk => h.rf.own k (by rw [oP_slice]; exact hk), fun k hk => h.rp.own k (by rw [oP_slice]; exact hk), fun k hk => h.rr.own k (by rw [oP_slice]; exact hk)⟩
theorem PI.blt {w : World} {b mb B at_ : Nat} {v : PV} {x : PA} (h : PI w b mb B at_ v x) : b < w.heap.size := Nat.lt_of_lt_of_le h.bB h.bd
theorem PI.touch {w w' : World} {b mb B at_ : Nat} {v : PV} {x : PA} {S : Nat → Prop} (h : PI w b mb B at_ v x) (ht : Touch S w w') (hb : ¬ S b) (hm : ¬ S mb) (h1 : ∀ k, oP v.fa = some k → ¬ S k) (h2 : ∀ k, oP v.pa = some k → ¬ S k) (h3 : ∀ k, oP v.ra = some k → ¬ S k) : PI w' b mb B at_ v x := by
  have e : w'.heap[b]? = w.heap[b]? := ht.block b h.blt hb
  have c : ∀ i, w'.cell? ⟨b, i, none⟩ = w.cell? ⟨b, i, none⟩ := fun i => World.cell?_of_block e
  refine ⟨(c 0).trans h.c0, (c 1).trans h.c1, (c 2).trans h.c2, (c 3).trans h.c3, (c 4).trans h.c4, ?_, fun i => (World.frozen?_of_block (a := ⟨b, i, none⟩) e).trans (h.fz i), h.mp.of_block (ht.block mb (Nat.lt_of_lt_of_le h.mB h.bd) hm), h.rf.touch ht (fun k hk => h1 k (by rw [← oP_slice]; exact hk)), h.rp.touch ht (fun k hk => h2 k (by rw [← oP_slice]; exact hk)), h.rr.touch ht (fun k hk => h3 k (by rw [← oP_slice]; exact hk)), h.s1, h.s2, h.bB, h.mB, h.bm, Nat.le_trans h.bd ht.size⟩
  obtain ⟨u, hu⟩ := h.c5
  exact ⟨u, (c 5).trans hu⟩
theorem PI.below {w w' : World} {b mb B at_ : Nat} {v : PV} {x : PA} (h : PI w b mb B at_ v x) (hb : Below w.heap.size w w') : PI w' b mb B at_ v x :=
  h.touch (Touch.of_below (S := fun _ => False) hb) (fun h => h) (fun h => h) (fun _ _ h => h) (fun _ _ h => h) (fun _ _ h => h)
theorem pset {w : World} {a : Addr} {u : Value} : Touch (fun k => k = a.block) w (w.setCell a u) :=
  ⟨rfl, rfl, rfl, by simp [World.setCell], fun k hk hn => Below.heap_setCell _ _ _ _ hn⟩
theorem pcell {w : World} {b i j : Nat} {u : Value} (h : i ≠ j) : (w.setCell ⟨b, j, none⟩ u).cell? ⟨b, i, none⟩ = w.cell? ⟨b, i, none⟩ := World.cell?_setCell_other _ _ _ _ (fun e => by simp only [Addr.mk.injEq] at e; omega)
/-- What does not lie in the box, when the box is written. -/
theorem PI.out {w w' : World} {b mb B at_ : Nat} {v : PV} {x : PA} (h : PI w b mb B at_ v x) (ht : Touch (fun k => k = b) w w') : MapO w' mb x.g ∧ ERow eRunR w' B (.slice v.fa x.fr.length v.fc) x.fr ∧ ERow eRunR w' B (.slice v.pa x.pg.length v.pc) x.pg ∧ ERow eSpan w' B (.slice v.ra x.rg.length v.rc) x.rg := by
  obtain ⟨o1, o2, o3⟩ := h.of
  have := h.bB
  refine ⟨h.mp.of_block (ht.block mb (Nat.lt_of_lt_of_le h.mB h.bd) (fun e => h.bm e.symm)), h.rf.touch ht (fun k hk e => ?_), h.rp.touch ht (fun k hk e => ?_), h.rr.touch ht (fun k hk e => ?_)⟩
  · rw [oP_slice] at hk; have := (o1 k hk).1; omega
  · rw [oP_slice] at hk; have := (o2 k hk).1; omega
  · rw [oP_slice] at hk; have := (o3 k hk).1; omega
theorem PI.set5 {w : World} {b mb B at_ : Nat} {v : PV} {x : PA} (h : PI w b mb B at_ v x) (u : Value) : PI (w.setCell ⟨b, 5, none⟩ u) b mb B at_ v x := by
  obtain ⟨m, r1, r2, r3⟩ := h.out (pset (a := ⟨b, 5, none⟩) (u := u))
  obtain ⟨u0, hu0⟩ := h.c5
  exact ⟨(pcell (by omega)).trans h.c0, (pcell (by omega)).trans h.c1, (pcell (by omega)).trans h.c2, (pcell (by omega)).trans h.c3, (pcell (by omega)).trans h.c4, ⟨u, World.cell?_setCell_same _ _ _ hu0⟩, fun i => by rw [World.frozen?_setCell]; exact h.fz i, m, r1, r2, r3, h.s1, h.s2, h.bB, h.mB, h.bm, by simpa using h.bd⟩
theorem PI.set4 {w : World} {b mb B at_ : Nat} {v : PV} {x : PA} (h : PI w b mb B at_ v x) (n : Nat) : PI (w.setCell ⟨b, 4, none⟩ (.int .i64 (n : Int))) b mb B n v x := by
  obtain ⟨m, r1, r2, r3⟩ := h.out (pset (a := ⟨b, 4, none⟩) (u := .int .i64 (n : Int)))
  obtain ⟨u0, hu0⟩ := h.c5
  exact ⟨(pcell (by omega)).trans h.c0, (pcell (by omega)).trans h.c1, (pcell (by omega)).trans h.c2, (pcell (by omega)).trans h.c3, World.cell?_setCell_same _ _ _ h.c4, ⟨u0, (pcell (by omega)).trans hu0⟩, fun i => by rw [World.frozen?_setCell]; exact h.fz i, m, r1, r2, r3, h.s1, h.s2, h.bB, h.mB, h.bm, by simpa using h.bd⟩
theorem PI.addF {w wn : World} {b mb B at_ g1 c1 : Nat} {v : PV} {x : PA} {r : RunE} (h : PI w b mb B at_ v x) (ht : Touch (fun k => oP v.fa = some k) w wn) (hown : ERow eRunR wn B (.slice (some ⟨g1, 0, none⟩) (x.fr.length + 1) c1) (x.fr ++ [r])) (hat : oP v.fa = some g1 ∨ w.heap.size ≤ g1) :
    PI (wn.setCell ⟨b, 1, none⟩ (.slice (some ⟨g1, 0, none⟩) (x.fr.length + 1) c1)) b mb B at_ ⟨some ⟨g1, 0, none⟩, c1, v.pa, v.pc, v.ra, v.rc⟩ ⟨x.g, x.fr ++ [r], x.pg, x.rg⟩ := by
  obtain ⟨o1, o2, o3⟩ := h.of
  have hbB := h.bB
  have hmB := h.mB
  have e : wn.heap[b]? = w.heap[b]? := ht.block b h.blt (fun e => by have := (o1 b e).1; omega)
  have c : ∀ i, wn.cell? ⟨b, i, none⟩ = w.cell? ⟨b, i, none⟩ := fun i => World.cell?_of_block e
  have t2 : Touch (fun k => k = b) wn (wn.setCell ⟨b, 1, none⟩ (.slice (some ⟨g1, 0, none⟩) (x.fr.length + 1) c1)) := pset (a := ⟨b, 1, none⟩)
  have hg1 : B ≤ g1 := (hown.own g1 rfl).1
  have hle : (x.fr ++ [r]).length = x.fr.length + 1 := by simp
  have rp := (h.rp.touch ht (fun k hk e => by rw [oP_slice] at hk; exact (h.s1 k e).1 hk)).touch t2 (fun k hk e => by rw [oP_slice] at hk; have := (o2 k hk).1; omega)
  have rr := (h.rr.touch ht (fun k hk e => by rw [oP_slice] at hk; exact (h.s1 k e).2 hk)).touch t2 (fun k hk e => by rw [oP_slice] at hk; have := (o3 k hk).1; omega)
  obtain ⟨u0, hu0⟩ := h.c5
  refine ⟨(pcell (by omega)).trans ((c 0).trans h.c0), ?_, (pcell (by omega)).trans ((c 2).trans h.c2), (pcell (by omega)).trans ((c 3).trans h.c3), (pcell (by omega)).trans ((c 4).trans h.c4), ⟨u0, (pcell (by omega)).trans ((c 5).trans hu0)⟩, fun i => by rw [World.frozen?_setCell]; exact (World.frozen?_of_block (a := ⟨b, i, none⟩) e).trans (h.fz i), ?_, ?_, rp, rr, fun k hk => ?_, h.s2, hbB, hmB, h.bm, ?_⟩
  · show _ = some (Value.slice _ (x.fr ++ [r]).length c1)
    rw [hle]
    exact World.cell?_setCell_same _ _ _ ((c 1).trans h.c1)
  · exact (h.mp.of_block (ht.block mb (Nat.lt_of_lt_of_le hmB h.bd) (fun e => by have := (o1 mb e).1; omega))).of_block (t2.block mb (Nat.lt_of_lt_of_le (Nat.lt_of_lt_of_le hmB h.bd) ht.size) (fun e => h.bm e.symm))
  · show ERow eRunR _ B (.slice _ (x.fr ++ [r]).length c1) (x.fr ++ [r])
    rw [hle]
    exact hown.touch t2 (fun k hk e => by have := (hown.own k hk).1; omega)
  · rw [oP_some] at hk
    injection hk with hk
    subst hk
    rcases hat with e | e
    · exact h.s1 g1 e
    · exact ⟨fun e2 => by have := (o2 g1 e2).2; omega, fun e2 => by have := (o3 g1 e2).2; omega⟩
  · have := ht.size; have := t2.size; have := h.bd; omega
theorem PI.addP {w wn : World} {b mb B at_ g1 c1 : Nat} {v : PV} {x : PA} {r : RunE} (h : PI w b mb B at_ v x) (ht : Touch (fun k => oP v.pa = some k) w wn) (hown : ERow eRunR wn B (.slice (some ⟨g1, 0, none⟩) (x.pg.length + 1) c1) (x.pg ++ [r])) (hat : oP v.pa = some g1 ∨ w.heap.size ≤ g1) :
    PI (wn.setCell ⟨b, 2, none⟩ (.slice (some ⟨g1, 0, none⟩) (x.pg.length + 1) c1)) b mb B at_ ⟨v.fa, v.fc, some ⟨g1, 0, none⟩, c1, v.ra, v.rc⟩ ⟨x.g, x.fr, x.pg ++ [r], x.rg⟩ := by
  obtain ⟨o1, o2, o3⟩ := h.of
  have hbB := h.bB
  have hmB := h.mB
  have e : wn.heap[b]? = w.heap[b]? := ht.block b h.blt (fun e => by have := (o2 b e).1; omega)
  have c : ∀ i, wn.cell? ⟨b, i, none⟩ = w.cell? ⟨b, i, none⟩ := fun i => World.cell?_of_block e
  have t2 : Touch (fun k => k = b) wn (wn.setCell ⟨b, 2, none⟩ (.slice (some ⟨g1, 0, none⟩) (x.pg.length + 1) c1)) := pset (a := ⟨b, 2, none⟩)
  have hg1 : B ≤ g1 := (hown.own g1 rfl).1
  have hle : (x.pg ++ [r]).length = x.pg.length + 1 := by simp
  have rf := (h.rf.touch ht (fun k hk e => by rw [oP_slice] at hk; exact (h.s1 k hk).1 e)).touch t2 (fun k hk e => by rw [oP_slice] at hk; have := (o1 k hk).1; omega)
  have rr := (h.rr.touch ht (fun k hk e => by rw [oP_slice] at hk; exact h.s2 k e hk)).touch t2 (fun k hk e => by rw [oP_slice] at hk; have := (o3 k hk).1; omega)
  obtain ⟨u0, hu0⟩ := h.c5
  refine ⟨(pcell (by omega)).trans ((c 0).trans h.c0), (pcell (by omega)).trans ((c 1).trans h.c1), ?_, (pcell (by omega)).trans ((c 3).trans h.c3), (pcell (by omega)).trans ((c 4).trans h.c4), ⟨u0, (pcell (by omega)).trans ((c 5).trans hu0)⟩, fun i => by rw [World.frozen?_setCell]; exact (World.frozen?_of_block (a := ⟨b, i, none⟩) e).trans (h.fz i), ?_, rf, ?_, rr, fun k hk => ⟨?_, (h.s1 k hk).2⟩, fun k hk => ?_, hbB, hmB, h.bm, ?_⟩
  · show _ = some (Value.slice _ (x.pg ++ [r]).length c1)
    rw [hle]
    exact World.cell?_setCell_same _ _ _ ((c 2).trans h.c2)
  · exact (h.mp.of_block (ht.block mb (Nat.lt_of_lt_of_le hmB h.bd) (fun e => by have := (o2 mb e).1; omega))).of_block (t2.block mb (Nat.lt_of_lt_of_le (Nat.lt_of_lt_of_le hmB h.bd) ht.size) (fun e => h.bm e.symm))
  · show ERow eRunR _ B (.slice _ (x.pg ++ [r]).length c1) (x.pg ++ [r])
    rw [hle]
    exact hown.touch t2 (fun k hk e => by have := (hown.own k hk).1; omega)
  · rw [oP_some]
    intro hk2
    injection hk2 with hk2
    subst hk2
    rcases hat with e | e
    · exact (h.s1 g1 hk).1 e
    · have := (o1 g1 hk).2; omega
  · rw [oP_some] at hk
    injection hk with hk
    subst hk
    rcases hat with e | e
    · exact h.s2 g1 e
    · exact fun e2 => by have := (o3 g1 e2).2; omega
  · have := ht.size; have := t2.size; have := h.bd; omega
theorem PI.addR {w wn : World} {b mb B at_ g1 c1 : Nat} {v : PV} {x : PA} {r : SpanE} (h : PI w b mb B at_ v x) (ht : Touch (fun k => oP v.ra = some k) w wn) (hown : ERow eSpan wn B (.slice (some ⟨g1, 0, none⟩) (x.rg.length + 1) c1) (x.rg ++ [r])) (hat : oP v.ra = some g1 ∨ w.heap.size ≤ g1) :
    PI (wn.setCell ⟨b, 3, none⟩ (.slice (some ⟨g1, 0, none⟩) (x.rg.length + 1) c1)) b mb B at_ ⟨v.fa, v.fc, v.pa, v.pc, some ⟨g1, 0, none⟩, c1⟩ ⟨x.g, x.fr, x.pg, x.rg ++ [r]⟩ := by
  obtain ⟨o1, o2, o3⟩ := h.of
  have hbB := h.bB
  have hmB := h.mB
  have e : wn.heap[b]? = w.heap[b]? := ht.block b h.blt (fun e => by have := (o3 b e).1; omega)
  have c : ∀ i, wn.cell? ⟨b, i, none⟩ = w.cell? ⟨b, i, none⟩ := fun i => World.cell?_of_block e
  have t2 : Touch (fun k => k = b) wn (wn.setCell ⟨b, 3, none⟩ (.slice (some ⟨g1, 0, none⟩) (x.rg.length + 1) c1)) := pset (a := ⟨b, 3, none⟩)
  have hg1 : B ≤ g1 := (hown.own g1 rfl).1
  have hle : (x.rg ++ [r]).length = x.rg.length + 1 := by simp
  have rf := (h.rf.touch ht (fun k hk e => by rw [oP_slice] at hk; exact (h.s1 k hk).2 e)).touch t2 (fun k hk e => by rw [oP_slice] at hk; have := (o1 k hk).1; omega)
  have rp := (h.rp.touch ht (fun k hk e => by rw [oP_slice] at hk; exact h.s2 k hk e)).touch t2 (fun k hk e => by rw [oP_slice] at hk; have := (o2 k hk).1; omega)
  obtain ⟨u0, hu0⟩ := h.c5
  refine ⟨(pcell (by omega)).trans ((c 0).trans h.c0), (pcell (by omega)).trans ((c 1).trans h.c1), (pcell (by omega)).trans ((c 2).trans h.c2), ?_, (pcell (by omega)).trans ((c 4).trans h.c4), ⟨u0, (pcell (by omega)).trans ((c 5).trans hu0)⟩, fun i => by rw [World.frozen?_setCell]; exact (World.frozen?_of_block (a := ⟨b, i, none⟩) e).trans (h.fz i), ?_, rf, rp, ?_, fun k hk => ⟨(h.s1 k hk).1, ?_⟩, fun k hk => ?_, hbB, hmB, h.bm, ?_⟩
  · show _ = some (Value.slice _ (x.rg ++ [r]).length c1)
    rw [hle]
    exact World.cell?_setCell_same _ _ _ ((c 3).trans h.c3)
  · exact (h.mp.of_block (ht.block mb (Nat.lt_of_lt_of_le hmB h.bd) (fun e => by have := (o3 mb e).1; omega))).of_block (t2.block mb (Nat.lt_of_lt_of_le (Nat.lt_of_lt_of_le hmB h.bd) ht.size) (fun e => h.bm e.symm))
  · show ERow eSpan _ B (.slice _ (x.rg ++ [r]).length c1) (x.rg ++ [r])
    rw [hle]
    exact hown.touch t2 (fun k hk e => by have := (hown.own k hk).1; omega)
  · rw [oP_some]
    intro hk2
    injection hk2 with hk2
    subst hk2
    rcases hat with e | e
    · exact (h.s1 g1 hk).2 e
    · have := (o1 g1 hk).2; omega
  · rw [oP_some]
    intro hk2
    injection hk2 with hk2
    subst hk2
    rcases hat with e | e
    · exact h.s2 g1 hk e
    · have := (o2 g1 hk).2; omega
  · have := ht.size; have := t2.size; have := h.bd; omega
/-- The map is written. -/
theorem PI.putO {w wn : World} {b mb B at_ : Nat} {v : PV} {x : PA} {g : Txt → Option OV} (h : PI w b mb B at_ v x) (hg : w.grownBy wn (some mb)) (hm : MapO wn mb g) : PI wn b mb B at_ v ⟨g, x.fr, x.pg, x.rg⟩ := by
  have hmB := h.mB
  obtain ⟨o1, o2, o3⟩ := h.of
  have ht : Touch (fun k => k = mb) w wn := Touch.of_grown hg (fun k e => by injection e with e; exact e.symm)
  have e : wn.heap[b]? = w.heap[b]? := ht.block b h.blt h.bm
  have c : ∀ i, wn.cell? ⟨b, i, none⟩ = w.cell? ⟨b, i, none⟩ := fun i => World.cell?_of_block e
  obtain ⟨u0, hu0⟩ := h.c5
  exact ⟨(c 0).trans h.c0, (c 1).trans h.c1, (c 2).trans h.c2, (c 3).trans h.c3, (c 4).trans h.c4, ⟨u0, (c 5).trans hu0⟩, fun i => (World.frozen?_of_block (a := ⟨b, i, none⟩) e).trans (h.fz i), hm, h.rf.touch ht (fun k hk e => by rw [oP_slice] at hk; have := (o1 k hk).1; omega), h.rp.touch ht (fun k hk e => by rw [oP_slice] at hk; have := (o2 k hk).1; omega), h.rr.touch ht (fun k hk e => by rw [oP_slice] at hk; have := (o3 k hk).1; omega), h.s1, h.s2, h.bB, h.mB, h.bm, Nat.le_trans h.bd ht.size⟩
/-- With the words that are left. -/
structure PS (w : World) (b mb B at_ : Nat) (v : PV) (x : PA) (ws : List Txt) : Prop where
  i : PI w b mb B at_ v x
  p : ∃ s, PW w b at_ s ws
theorem PS.below {w w' : World} {b mb B at_ : Nat} {v : PV} {x : PA} {ws : List Txt} (h : PS w b mb B at_ v x ws) (hb : Below w.heap.size w w') : PS w' b mb B at_ v x ws := by
  obtain ⟨s, hs⟩ := h.p
  exact ⟨h.i.below hb, s, hs.below hb⟩
theorem PS.took {w w' : World} {b mb B at_ : Nat} {v : PV} {x : PA} {ws ws' : List Txt} (h : PS w b mb B at_ v x ws) (ht : TookW w b at_ ws' w') : PS w' b mb B at_ v x ws' ∧ Touch (PT b mb B) w w' := by
  obtain ⟨s', rfl, hp⟩ := ht
  exact ⟨⟨h.i.set5 _, s', hp⟩, rfl, rfl, rfl, by simp [World.setCell], fun k hk hn => Below.heap_setCell _ _ _ _ (fun e => hn (.inl e))⟩
theorem PS.tookB {w w' : World} {b mb B at_ : Nat} {v : PV} {x : PA} {ws ws' : List Txt} (h : PS w b mb B at_ v x ws) (ht : TookB w b at_ ws' w') : PS w' b mb B at_ v x ws' ∧ Touch (PT b mb B) w w' := by
  obtain ⟨w1, h1, h2⟩ := ht
  obtain ⟨a, t⟩ := h.took h1
  exact ⟨a.below h2, t.trans (Touch.of_below h2)⟩
end Go.Proofs.Ytnmhkgmmpkjjeaa
