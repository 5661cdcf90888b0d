import Derived.Test.YtnmhkgmmpkjjeaaG00
import Derived.Test.YtnmhkgmmpkjjeaaG02
namespace Go.Proofs.Ytnmhkgmmpkjjeaa
open Go.ChangeShapes Go.WideShapes Go.ChangeAt Go.RowKit
set_option linter.unusedVariables false
attribute [local go_sem ↓] Go.wp_at_zero Go.wp_at_succ

structure WriteE where
  addr : Int
  word : Int
def eWrite : Elt WriteE := ⟨147, 2, fun x => [.int .i64 x.addr, .int .u64 x.word], ⟨0, 0⟩, by omega, fun _ => rfl⟩
theorem infoWrite : (Try.prog.info? 147).map (fun i => (i.zero, i.size, i.bytes)) = some (some (.agg #[.int .i64 0, .int .u64 0]), 2, 16) := by kernel_rfl

/-- What is in cell j of element i when the slice has been marked from s on. -/
def markWrite (s : Int) (i j : Nat) : Value :=
  match j with
  | 0 => .int .i64 (s + i * 2)
  | 1 => .int .u64 (s + i * 2 + 1)
  | _ => .bool false


structure TlbE where
  page : Int
  size : Int
  out : Int
  perm : Int
  doom : Bool
def eTlb : Elt TlbE := ⟨72, 5, fun x => [.int .i64 x.page, .int .i64 x.size, .int .i64 x.out, .int .i64 x.perm, .bool x.doom], ⟨0, 0, 0, 0, false⟩, by omega, fun _ => rfl⟩
theorem infoTlb : (Try.prog.info? 72).map (fun i => (i.zero, i.size, i.bytes)) = some (some (.agg #[.int .i64 0, .int .i64 0, .int .i64 0, .int .i64 0, .bool false]), 5, 40) := by kernel_rfl

/-- What is in cell j of element i when the slice has been marked from s on. -/
def markTlb (s : Int) (i j : Nat) : Value :=
  match j with
  | 0 => .int .i64 (s + i * 5)
  | 1 => .int .i64 (s + i * 5 + 1)
  | 2 => .int .i64 (s + i * 5 + 1 + 1)
  | 3 => .int .i64 (s + i * 5 + 1 + 1 + 1)
  | 4 => .bool ((s + i * 5 + 1 + 1 + 1 + 1) % 3 == 0)
  | _ => .bool false


structure WcE where
  level : Int
  page : Int
  table : Int
  doom : Bool
def eWc : Elt WcE := ⟨74, 4, fun x => [.int .i64 x.level, .int .i64 x.page, .int .i64 x.table, .bool x.doom], ⟨0, 0, 0, false⟩, by omega, fun _ => rfl⟩
theorem infoWc : (Try.prog.info? 74).map (fun i => (i.zero, i.size, i.bytes)) = some (some (.agg #[.int .i64 0, .int .i64 0, .int .i64 0, .bool false]), 4, 32) := by kernel_rfl

/-- What is in cell j of element i when the slice has been marked from s on. -/
def markWc (s : Int) (i j : Nat) : Value :=
  match j with
  | 0 => .int .i64 (s + i * 4)
  | 1 => .int .i64 (s + i * 4 + 1)
  | 2 => .int .i64 (s + i * 4 + 1 + 1)
  | 3 => .bool ((s + i * 4 + 1 + 1 + 1) % 3 == 0)
  | _ => .bool false


/-- What a machine holds. -/
structure Mach where
  mem : List Int
  pend : List WriteE
  tlb : List TlbE
  wc : List WcE
/-- The four slices of a machine's value. -/
structure MV where
  w : Value
  p : Value
  t : Value
  c : Value
def MV.agg (m : MV) : Value := .agg #[m.w, m.p, m.t, m.c]
def MV.owns (m : MV) (k : Nat) : Prop := m.w.ownBlock = some k ∨ m.p.ownBlock = some k ∨ m.t.ownBlock = some k ∨ m.c.ownBlock = some k
/-- No two of the slices lie in one block. -/
def MV.apart (m : MV) : Prop := ∀ k, (m.w.ownBlock = some k → m.p.ownBlock ≠ some k ∧ m.t.ownBlock ≠ some k ∧ m.c.ownBlock ≠ some k) ∧ (m.p.ownBlock = some k → m.t.ownBlock ≠ some k ∧ m.c.ownBlock ≠ some k) ∧ (m.t.ownBlock = some k → m.c.ownBlock ≠ some k)
structure MRow (W : World) (base : Nat) (m : MV) (M : Mach) : Prop where
  w : ERow eWord W base m.w M.mem
  p : ERow eWrite W base m.p M.pend
  t : ERow eTlb W base m.t M.tlb
  c : ERow eWc W base m.c M.wc
structure MSrc (W : World) (m : MV) (M : Mach) : Prop where
  w : Src W m.w M.mem
  p : ESrc eWrite W m.p M.pend
  t : ESrc eTlb W m.t M.tlb
  c : ESrc eWc W m.c M.wc
/-- A machine that has been marked from s on. -/
structure MHas (W : World) (m : MV) (M : Mach) (s : Int) : Prop where
  w : EHas eWord W m.w M.mem.length (markWord s)
  p : EHas eWrite W m.p M.pend.length (markWrite (s + M.mem.length))
  t : EHas eTlb W m.t M.tlb.length (markTlb (s + M.mem.length + M.pend.length * 2))
  c : EHas eWc W m.c M.wc.length (markWc (s + M.mem.length + M.pend.length * 2 + M.tlb.length * 5))
structure Mach.Small (M : Mach) : Prop where
  w : M.mem.length ≤ 1048576
  p : M.pend.length ≤ 1048576
  t : M.tlb.length ≤ 1048576
  c : M.wc.length ≤ 1048576
/-- Only blocks of S have turned; the rest is new. -/
structure Touch (S : Nat → Prop) (w w' : World) : Prop where
  os : w'.os = w.os
  tape : w'.tape = w.tape
  output : w'.output = w.output
  size : w.heap.size ≤ w'.heap.size
  block : ∀ k, k < w.heap.size → ¬ S k → w'.heap[k]? = w.heap[k]?
theorem Touch.trans {S : Nat → Prop} {a b c : World} (h : Touch S a b) (k : Touch S b c) : Touch S a c :=
  ⟨k.os.trans h.os, k.tape.trans h.tape, k.output.trans h.output, Nat.le_trans h.size k.size, fun i hi hn => (k.block i (Nat.lt_of_lt_of_le hi h.size) hn).trans (h.block i hi hn)⟩
theorem Touch.of_below {S : Nat → Prop} {a b : World} (h : Below a.heap.size a b) : Touch S a b := ⟨h.os, h.tape, h.output, h.size, fun i hi _ => h.block i hi⟩
theorem Touch.of_grown {S : Nat → Prop} {a b : World} {row : Option Nat} (h : a.grownBy b row) (hS : ∀ k, row = some k → S k) : Touch S a b :=
  ⟨h.os, h.tape, h.output, h.size, fun i hi hn => h.block i hi (fun e => hn (hS i e.symm))⟩
theorem Touch.below {S : Nat → Prop} {B : Nat} {w a b : World} (h : Below B w a) (k : Touch S a b) (hB : B ≤ a.heap.size) (hS : ∀ k, S k → B ≤ k) : Below B w b :=
  ⟨k.os.trans h.os, k.tape.trans h.tape, k.output.trans h.output, Nat.le_trans h.size k.size, fun i hi => (k.block i (by omega) (fun hs => by have := hS i hs; omega)).trans (h.block i hi)⟩

theorem ERow.touch {α : Type} {E : Elt α} {w w' : World} {base : Nat} {v : Value} {xs : List α} {S : Nat → Prop} (h : ERow E w base v xs) (hg : Touch S w w') (hne : ∀ k, v.ownBlock = some k → ¬ S k) : ERow E w' base v xs := by
  refine ⟨h.1, ?_⟩
  rcases h.2 with hh | ⟨g, cap, cur, e, hb, hgg, r⟩
  · exact .inl hh
  · refine .inr ⟨g, cap, cur, e, hb, ?_, r⟩
    rw [hg.block g (Array.getElem?_eq_some_iff.1 hgg).1 (hne g (by rw [e]; rfl))]
    exact hgg
theorem EHas.touch {α : Type} {E : Elt α} {w w' : World} {v : Value} {n : Nat} {c : Nat → Nat → Value} {S : Nat → Prop} (h : EHas E w v n c) (hg : Touch S w w') (hne : ∀ k, v.ownBlock = some k → ¬ S k) : EHas E w' v n c := by
  obtain ⟨a, cap, e, h1⟩ := h
  refine ⟨a, cap, e, fun h0 => ?_⟩
  obtain ⟨g, N, f, p, q, r, s⟩ := h1 h0
  subst e p
  exact ⟨g, N, f, rfl, q.of_block (hg.block g q.lt (hne g rfl)), r, s⟩
theorem MRow.below {w w' : World} {base : Nat} {m : MV} {M : Mach} (h : MRow w base m M) (hb : Below w.heap.size w w') : MRow w' base m M := ⟨h.w.below hb, h.p.below hb, h.t.below hb, h.c.below hb⟩
theorem MRow.touch {w w' : World} {base : Nat} {m : MV} {M : Mach} {S : Nat → Prop} (h : MRow w base m M) (hg : Touch S w w') (hne : ∀ k, m.owns k → ¬ S k) : MRow w' base m M :=
  ⟨h.w.touch hg (fun k hk => hne k (.inl hk)), h.p.touch hg (fun k hk => hne k (.inr (.inl hk))), h.t.touch hg (fun k hk => hne k (.inr (.inr (.inl hk)))), h.c.touch hg (fun k hk => hne k (.inr (.inr (.inr hk))))⟩
theorem MRow.rebase {w : World} {base base' : Nat} {m : MV} {M : Mach} (h : MRow w base m M) (hb : base' ≤ base) : MRow w base' m M := ⟨h.w.rebase hb, h.p.rebase hb, h.t.rebase hb, h.c.rebase hb⟩
theorem MRow.own {w : World} {base : Nat} {m : MV} {M : Mach} (h : MRow w base m M) : ∀ k, m.owns k → base ≤ k ∧ k < w.heap.size := by
  rintro k (hk | hk | hk | hk)
  · exact h.w.own k hk
  · exact h.p.own k hk
  · exact h.t.own k hk
  · exact h.c.own k hk
theorem MSrc.at {w w' : World} {m : MV} {M : Mach} (h : MSrc w m M) (hb : Below w.heap.size w w') : MSrc w' m M := by
  refine ⟨?_, h.p.at hb, h.t.at hb, h.c.at hb⟩
  obtain ⟨a, cap, e, ha⟩ := h.w
  refine ⟨a, cap, e, fun h0 => ?_⟩
  obtain ⟨b, o, e2, hbl, hc⟩ := ha h0
  exact ⟨b, o, e2, Nat.lt_of_lt_of_le hbl hb.size, fun i hi => (hb.cell hbl).trans (hc i hi)⟩

theorem bcellM {W w1 : World} (hb : Below W.heap.size W w1) : (∀ b o, b < W.heap.size → w1.cell? ⟨b, o, none⟩ = W.cell? ⟨b, o, none⟩) ∧ (∀ b o, b < W.heap.size → w1.frozen? ⟨b, o, none⟩ = W.frozen? ⟨b, o, none⟩) :=
  ⟨fun b o h => hb.cell (p := ⟨b, o, none⟩) h, fun b o h => hb.frozen (p := ⟨b, o, none⟩) h⟩

end Go.Proofs.Ytnmhkgmmpkjjeaa
