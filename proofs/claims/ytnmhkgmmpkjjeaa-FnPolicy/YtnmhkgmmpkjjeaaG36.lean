import Derived.Test.YtnmhkgmmpkjjeaaG35
import Derived.Recover
import Derived.Tactics2
namespace Go.Proofs.Ytnmhkgmmpkjjeaa
open Go.ChangeShapes Go.WideShapes Go.ChangeAt Go.RowKit
set_option linter.unusedVariables false
set_option linter.unusedSimpArgs false
set_option maxRecDepth 100000
attribute [local go_sem ↓] Go.wp_at_zero Go.wp_at_succ

/-! firstFault: the panic of the reading is caught, and its Diag is the answer. -/
theorem catch_idle (p : Addr) (w : World) : CallsD Try.prog 126 #[.pointer (some p)] .returning w fun e u' w' => e = .returned (.tuple #[]) ∧ u' = .returning ∧ w' = w := by
  refine callsD_of_wpS Try.func126 rfl fun c₀ cs hu => ?_
  apply wpS_seq
  apply wpS_region
  simp [wpOpsS, go_sem, recoverD, hu, Try.ntmps126, Exit.thenS]
  refine wpS_of_wp ?_
  have e : (#[Value.pointer (some p)] ++ (Array.replicate 10 undef).setIfInBounds 3 Value.nilIface) = #[.pointer (some p), undef, undef, undef, .nilIface, undef, undef, undef, undef, undef, undef] := rfl
  rw [e]
  clear e
  go_wp2_with fail
  cases c₀
  simp_all [bodyPostS, results, Try.results126]
theorem catch_pan (p : Nat) (c k : Int) (x y : Value) (older : List PanicEntry) (w : World) (h0 : w.cell? ⟨p, 0, none⟩ = some x) (h1 : w.cell? ⟨p, 1, none⟩ = some y) (f0 : w.frozen? ⟨p, 0, none⟩ = false) (f1 : w.frozen? ⟨p, 1, none⟩ = false) :
    CallsD Try.prog 126 #[.pointer (some ⟨p, 0, none⟩)] (.panicking ({ v := diagV c k, recovered := false } :: older)) w fun e u' w' => e = .returned (.tuple #[]) ∧ u' = .panicking ({ v := diagV c k, recovered := true } :: older) ∧ w' = ((w.setCell ⟨p, 0, none⟩ (.int .i64 c)).setCell ⟨p, 1, none⟩ (.int .i64 k)).alloc (.cells #[.int .i64 c, .int .i64 k] 49) := by
  unfold diagV
  have hta : ∀ w : World, (Instr.typeAssert (.iface 49 (.agg #[.int .i64 c, .int .i64 k])) 20 49 true).run Try.prog w = .ok (.tuple #[.agg #[.int .i64 c, .int .i64 k], .bool true]) w := fun w => by kernel_rfl
  refine callsD_of_wpS Try.func126 rfl fun c₀ cs hu => ?_
  apply wpS_seq
  apply wpS_region
  simp [wpOpsS, go_sem, recoverD, hu, Try.ntmps126, Exit.thenS]
  refine wpS_of_wp ?_
  have e : (#[Value.pointer (some (⟨p, 0, none⟩ : Addr))] ++ (Array.replicate 10 undef).setIfInBounds 3 (Value.iface 49 (Value.agg #[Value.int IntKind.i64 c, Value.int IntKind.i64 k]))) = #[.pointer (some ⟨p, 0, none⟩), undef, undef, undef, .iface 49 (Value.agg #[Value.int IntKind.i64 c, Value.int IntKind.i64 k]), undef, undef, undef, undef, undef, undef] := rfl
  rw [e]
  clear e
  have hp : p < w.heap.size := cell_some_lt h0
  go_wp2_with fail
  simp [bodyPostS, results, Try.results126]
theorem pb_below {w w1 : World} {b mb : Nat} (h : PB w b mb) (hb : Below w.heap.size w w1) : PB w1 b mb := by
  have c : ∀ i, w1.cell? ⟨b, i, none⟩ = w.cell? ⟨b, i, none⟩ := fun i => hb.cell (p := ⟨b, i, none⟩) h.bl
  exact ⟨(c 0).trans h.c0, (c 1).trans h.c1, (c 2).trans h.c2, (c 3).trans h.c3, (c 4).trans h.c4, (c 5).trans h.c5, fun i => (hb.frozen (p := ⟨b, i, none⟩) h.bl).trans (h.fz i), h.mp.of_block (hb.block mb h.ml), Nat.lt_of_lt_of_le h.bl hb.size, Nat.lt_of_lt_of_le h.ml hb.size, h.bm⟩
def FfPost (w : World) (b mb : Nat) (r : List SpanE × Int × Int) (e : Ending) (w' : World) : Prop := e = .returned (.agg #[.int .i64 r.2.1, .int .i64 r.2.2]) ∧ Touch (fun k => k = b ∨ k = mb) w w' ∧ (r.2.1 = 0 → ∃ all at_ B v, Good all ∧ r = (spansTo all 4096, 0, 0) ∧ w.heap.size ≤ B ∧ PI w' b mb B at_ v (paOf all) ∧ all.length ≤ 1000)
theorem tTail {S : Nat → Prop} {w w1 w2 w3 : World} (hb : Below w.heap.size w w1) (h : Touch S w1 w2) (h2 : Touch (fun k => w.heap.size ≤ k) w2 w3) : Touch S w w3 :=
  ⟨h2.os.trans (h.os.trans hb.os), h2.tape.trans (h.tape.trans hb.tape), h2.output.trans (h.output.trans hb.output), Nat.le_trans hb.size (Nat.le_trans h.size h2.size), fun k hk hn => (h2.block k (Nat.lt_of_lt_of_le hk (Nat.le_trans hb.size h.size)) (by show ¬ w.heap.size ≤ k; omega)).trans ((h.block k (Nat.lt_of_lt_of_le hk hb.size) hn).trans (hb.block k hk))⟩
set_option maxHeartbeats 1000000 in
theorem firstFault_any (l : Txt) (b mb : Nat) (w : World) (hl : l.length ≤ 9223372036854775807) (h : PB w b mb) : Calls Try.prog 63 #[.pointer (some ⟨b, 0, none⟩), .string (bs l)] w (FfPost w b mb (polL l)) := by
  have hmf : ∀ (fn : Fn) (first cap : Array Value) (w : World), (Instr.makeFunc fn first cap).run Try.prog w = .ok (.func fn first cap) w := fun _ _ _ _ => rfl
  obtain ⟨w1, hw1⟩ : ∃ w1, w1 = w.alloc (.cells #[.int .i64 0, .int .i64 0] 49) := ⟨_, rfl⟩
  have hb1 : Below w.heap.size w w1 := by rw [hw1]; exact bal
  have HZ1 : Hid (w.heap.size < w1.heap.size) := hidP (by rw [hw1]; simp)
  have HQ1 : Hid (w1.cell? ⟨w.heap.size, 0, none⟩ = some (.int .i64 0) ∧ w1.cell? ⟨w.heap.size, 1, none⟩ = some (.int .i64 0) ∧ w1.frozen? ⟨w.heap.size, 0, none⟩ = false ∧ w1.frozen? ⟨w.heap.size, 1, none⟩ = false) := hidP (by rw [hw1]; refine ⟨?_, ?_, ?_, ?_⟩ <;> simp [go_sem])
  have HW1 : Hid (w1 = _) := hw1
  have hbl := h.bl
  have hml := h.ml
  have t1 := hidP (read_any l b mb w1 hl (pb_below h hb1))
  have HB1 : Hid (Below w.heap.size w w1) := hb1
  generalize polL l = r at *
  clear h hb1 hw1
  go_enter_defers Try.func63, Try.ntmps63
  go_wp2_with fail
  rw [← HW1.out]
  refine t1.out.mono ?_
  rintro e w2 ⟨ht, hno, hyes⟩
  have e2 : w2.heap[w.heap.size]? = w1.heap[w.heap.size]? := ht.block _ HZ1.out (by show ¬ (_ ∨ _); omega)
  have q0 := (World.cell?_of_block (a := ⟨w.heap.size, 0, none⟩) e2).trans HQ1.out.1
  have q1 := (World.cell?_of_block (a := ⟨w.heap.size, 1, none⟩) e2).trans HQ1.out.2.1
  have f0 := (World.frozen?_of_block (a := ⟨w.heap.size, 0, none⟩) e2).trans HQ1.out.2.2.1
  have f1 := (World.frozen?_of_block (a := ⟨w.heap.size, 1, none⟩) e2).trans HQ1.out.2.2.2
  have hz2 : w.heap.size < w2.heap.size := Nat.lt_of_lt_of_le HZ1.out ht.size
  have HT2 := hidP ht
  clear e2 ht t1
  by_cases hc : r.2.1 = 0
  · obtain ⟨rfl, all, at_, B, v, hgd, hr, hB, hp, hal⟩ := hyes hc
    have HP2 := hidP hp
    have HGD := hidP hgd
    have HR := hidP hr
    have HBS := hidP hB
    clear hp hgd hr hno hyes hB hc
    go_wp2_with fail
    obtain ⟨w3, hw3⟩ : ∃ w3, w3 = (w2.setCell ⟨w.heap.size, 0, none⟩ (.int .i64 0)).setCell ⟨w.heap.size, 1, none⟩ (.int .i64 0) := ⟨_, rfl⟩
    have c0 : w3.cell? ⟨w.heap.size, 0, none⟩ = some (.int .i64 0) := by rw [hw3]; exact (pcell (by omega)).trans (World.cell?_setCell_same _ _ _ q0)
    have c1 : w3.cell? ⟨w.heap.size, 1, none⟩ = some (.int .i64 0) := by rw [hw3]; exact World.cell?_setCell_same _ _ _ ((pcell (by omega)).trans q1)
    have t3 : Touch (fun k => k = w.heap.size) w2 w3 := by rw [hw3]; exact (pset (a := ⟨w.heap.size, 0, none⟩)).trans (pset (a := ⟨w.heap.size, 1, none⟩))
    have HT3 := hidP t3
    rw [← hw3]
    clear hw3 t3 q0 q1 f0 f1
    refine leaves_cons (f := 126) (args := #[.pointer (some ⟨w.heap.size, 0, none⟩)]) (by simp) (by simp [go_sem]) ?_
    refine (catch_idle ⟨w.heap.size, 0, none⟩ w3).mono ?_
    rintro e u' w'' ⟨rfl, rfl, ew⟩
    obtain rfl : w3 = w'' := ew.symm
    simp [Leaves, settle, results, Try.results63, go_sem, c0, c1]
    have hB1 : w.heap.size < B := Nat.lt_of_lt_of_le HZ1.out HBS.out
    have hp3 : PI w3 b mb B at_ v (paOf all) := HP2.out.touch HT3.out (by show ¬ b = _; omega) (by show ¬ mb = _; omega) (fun k hk => by have := (HP2.out.of.1 k hk).1; show ¬ k = _; omega) (fun k hk => by have := (HP2.out.of.2.1 k hk).1; show ¬ k = _; omega) (fun k hk => by have := (HP2.out.of.2.2 k hk).1; show ¬ k = _; omega)
    rw [HR.out]
    exact ⟨rfl, tTail HB1.out HT2.out (HT3.out.up (fun k hk => by show w.heap.size ≤ k; omega)), fun _ => ⟨all, at_, B, v, HGD.out, rfl, by omega, hp3, hal⟩⟩
  · obtain rfl := hno hc
    have HC := hidP hc
    clear hno hyes hc
    obtain ⟨w3, hw3⟩ : ∃ w3, w3 = ((w2.setCell ⟨w.heap.size, 0, none⟩ (.int .i64 r.2.1)).setCell ⟨w.heap.size, 1, none⟩ (.int .i64 r.2.2)).alloc (.cells #[.int .i64 r.2.1, .int .i64 r.2.2] 49) := ⟨_, rfl⟩
    have t3 : Touch (fun k => w.heap.size ≤ k) w2 w3 := by
      rw [hw3]
      refine (((pset (a := ⟨w.heap.size, 0, none⟩)).trans (pset (a := ⟨w.heap.size, 1, none⟩))).up (fun k (hk : k = w.heap.size) => by show w.heap.size ≤ k; omega)).trans (Touch.of_below bal)
    have c0 : w3.cell? ⟨w.heap.size, 0, none⟩ = some (.int .i64 r.2.1) := by rw [hw3]; exact (bal.cell (p := ⟨w.heap.size, 0, none⟩) (by simp; omega)).trans ((pcell (by omega)).trans (World.cell?_setCell_same _ _ _ q0))
    have c1 : w3.cell? ⟨w.heap.size, 1, none⟩ = some (.int .i64 r.2.2) := by rw [hw3]; exact (bal.cell (p := ⟨w.heap.size, 1, none⟩) (by simp; omega)).trans (World.cell?_setCell_same _ _ _ ((pcell (by omega)).trans q1))
    have HT3 := hidP t3
    have tc := catch_pan w.heap.size r.2.1 r.2.2 _ _ [] w2 q0 q1 f0 f1
    rw [← hw3] at tc
    clear hw3 t3 q0 q1 f0 f1
    show bodyPostD _ _ _ _ _ _
    refine leaves_cons (f := 126) (args := #[.pointer (some ⟨w.heap.size, 0, none⟩)]) (by simp) (by simp [go_sem]) ?_
    refine tc.mono ?_
    rintro e u' w'' ⟨rfl, rfl, ew⟩
    obtain rfl : w3 = w'' := ew.symm
    simp [Leaves, settle, results, Try.results63, go_sem, c0, c1]
    exact ⟨rfl, tTail HB1.out HT2.out HT3.out, fun h0 => absurd h0 HC.out⟩
end Go.Proofs.Ytnmhkgmmpkjjeaa
