import Derived.Test.YtnmhkgmmpkjjeaaG17
import Derived.Test.YtnmhkgmmpkjjeaaG18
namespace Go.Proofs.Ytnmhkgmmpkjjeaa
open Go.ChangeShapes Go.WideShapes Go.ChangeAt Go.RowKit
set_option linter.unusedVariables false

end Go.Proofs.Ytnmhkgmmpkjjeaa
namespace Go.Proofs.Ytnmhkgmmpkjjeaa
open Go.ChangeShapes Go.WideShapes Go.ChangeAt Go.RowKit
set_option linter.unusedVariables false

def okWrite (x : WriteE) : Prop := (Lit.int .i64 x.addr).wf = true ∧ (Lit.int .u64 x.word).wf = true
def okTlb (x : TlbE) : Prop := (Lit.int .i64 x.page).wf = true ∧ (Lit.int .i64 x.size).wf = true ∧ (Lit.int .i64 x.out).wf = true ∧ (Lit.int .i64 x.perm).wf = true
def okWc (x : WcE) : Prop := (Lit.int .i64 x.level).wf = true ∧ (Lit.int .i64 x.page).wf = true ∧ (Lit.int .i64 x.table).wf = true
end Go.Proofs.Ytnmhkgmmpkjjeaa
namespace Go.Proofs.Ytnmhkgmmpkjjeaa
open Go.ChangeShapes Go.WideShapes Go.ChangeAt Go.RowKit
set_option linter.unusedVariables false

/-- Where the four slices of a machine lie, and their capacities. -/
structure SV where
  a1 : Option Addr
  c1 : Nat
  a2 : Option Addr
  c2 : Nat
  a3 : Option Addr
  c3 : Nat
  a4 : Option Addr
  c4 : Nat
def SV.mv (s : SV) (M : Mach) : MV := ⟨.slice s.a1 M.mem.length s.c1, .slice s.a2 M.pend.length s.c2, .slice s.a3 M.tlb.length s.c3, .slice s.a4 M.wc.length s.c4⟩
/-- A machine's value; its four cells in block B. -/
abbrev MA (s : SV) (M : Mach) : Value := .agg #[.slice s.a1 M.mem.length s.c1, .slice s.a2 M.pend.length s.c2, .slice s.a3 M.tlb.length s.c3, .slice s.a4 M.wc.length s.c4]
abbrev MC (w : World) (B : Nat) (s : SV) (M : Mach) : Prop := w.cell? ⟨B, 0, none⟩ = some (.slice s.a1 M.mem.length s.c1) ∧ w.cell? ⟨B, 1, none⟩ = some (.slice s.a2 M.pend.length s.c2) ∧ w.cell? ⟨B, 2, none⟩ = some (.slice s.a3 M.tlb.length s.c3) ∧ w.cell? ⟨B, 3, none⟩ = some (.slice s.a4 M.wc.length s.c4)
theorem MRow.sv {W : World} {b : Nat} {m : MV} {M : Mach} (h : MRow W b m M) : ∃ s : SV, m = s.mv M := by
  obtain ⟨a1, c1, e1, _⟩ := h.w.form
  obtain ⟨a2, c2, e2, _⟩ := h.p.form
  obtain ⟨a3, c3, e3, _⟩ := h.t.form
  obtain ⟨a4, c4, e4, _⟩ := h.c.form
  obtain ⟨x, y, z, t⟩ := m
  exact ⟨⟨a1, c1, a2, c2, a3, c3, a4, c4⟩, by simp only at e1 e2 e3 e4; rw [e1, e2, e3, e4]; rfl⟩
/-- What is known of a machine that came in: lengths, and that its numbers fit their kinds. -/
structure MOk (M : Mach) : Prop where
  w : M.mem.length ≤ 9223372036854775807
  p : M.pend.length ≤ 9223372036854775807
  t : M.tlb.length ≤ 9223372036854775807
  c : M.wc.length ≤ 9223372036854775807
  word : ∀ i, 0 ≤ M.mem.getD i 0 ∧ M.mem.getD i 0 < 2 ^ 64
  pend : ∀ i, i < M.pend.length → okWrite (eAt eWrite M.pend i)
  tlb : ∀ i, i < M.tlb.length → okTlb (eAt eTlb M.tlb i)
  wc : ∀ i, i < M.wc.length → okWc (eAt eWc M.wc i)
theorem cellsWord1 : Try.prog.cellsOf 61 = 1 := by kernel_rfl
theorem elWord {H : Type} {enc : TypeId × Value → H} {W : World} {sp : Nat → Bool} (n : Nat) (cs : List Value) (y : DataW H × List MemPlace) (h : DataW.trod enc Try.prog W 0 sp true n 61 cs = some y) : ∃ x, cs = eWord.enc x ∧ (Lit.int .u64 x).wf = true := by
  obtain ⟨x, r, _, hw⟩ := DataW.trod_int Try.underlying61 h
  exact ⟨x, r, hw⟩
end Go.Proofs.Ytnmhkgmmpkjjeaa
