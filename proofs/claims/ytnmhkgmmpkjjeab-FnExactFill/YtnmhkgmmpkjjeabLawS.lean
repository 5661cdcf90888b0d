import Derived.Test.YtnmhkgmmpkjjeabMachO
namespace Go.Proofs.Ytnmhkgmmpkjjeab
open Go.ChangeShapes Go.WideShapes Go.ChangeAt Go.RowKit
set_option linter.unusedVariables false

/-- Where the four slices of a machine lie, and their capacities. -/
structure SV where
  a1 : Option Addr
  c1 : Nat
  a2 : Option Addr
  c2 : Nat
  a3 : Option Addr
  c3 : Nat
  a4 : Option Addr
  c4 : Nat
def SV.mv (s : SV) (M : Mach) : MV := ⟨.slice s.a1 M.mem.length s.c1, .slice s.a2 M.pend.length s.c2, .slice s.a3 M.tlb.length s.c3, .slice s.a4 M.wc.length s.c4⟩
/-- A machine's value; its four cells in block B. -/
abbrev MA (s : SV) (M : Mach) : Value := .agg #[.slice s.a1 M.mem.length s.c1, .slice s.a2 M.pend.length s.c2, .slice s.a3 M.tlb.length s.c3, .slice s.a4 M.wc.length s.c4]
abbrev MC (w : World) (B : Nat) (s : SV) (M : Mach) : Prop := w.cell? ⟨B, 0, none⟩ = some (.slice s.a1 M.mem.length s.c1) ∧ w.cell? ⟨B, 1, none⟩ = some (.slice s.a2 M.pend.length s.c2) ∧ w.cell? ⟨B, 2, none⟩ = some (.slice s.a3 M.tlb.length s.c3) ∧ w.cell? ⟨B, 3, none⟩ = some (.slice s.a4 M.wc.length s.c4)
theorem MRow.sv {W : World} {b : Nat} {m : MV} {M : Mach} (h : MRow W b m M) : ∃ s : SV, m = s.mv M := by
  obtain ⟨a1, c1, e1, _⟩ := h.w.form
  obtain ⟨a2, c2, e2, _⟩ := h.p.form
  obtain ⟨a3, c3, e3, _⟩ := h.t.form
  obtain ⟨a4, c4, e4, _⟩ := h.c.form
  obtain ⟨x, y, z, t⟩ := m
  exact ⟨⟨a1, c1, a2, c2, a3, c3, a4, c4⟩, by simp only at e1 e2 e3 e4; rw [e1, e2, e3, e4]; rfl⟩
theorem toMachine_s (s : SV) (M : Mach) (w : World) (hs : M.Small) (h : MSrc w (s.mv M) M) :
    Calls Try.prog 26 #[.agg #[.slice s.a1 M.mem.length s.c1, .slice s.a2 M.pend.length s.c2, .slice s.a3 M.tlb.length s.c3, .slice s.a4 M.wc.length s.c4]] w fun e w' => ∃ s' : SV, e = .returned (.agg #[.slice s'.a1 M.mem.length s'.c1, .slice s'.a2 M.pend.length s'.c2, .slice s'.a3 M.tlb.length s'.c3, .slice s'.a4 M.wc.length s'.c4]) ∧ MRow w' w.heap.size (s'.mv M) M ∧ (s'.mv M).apart ∧ Below w.heap.size w w' := by
  refine (toMachine_any (s.mv M) M w hs h).mono ?_
  rintro e w' ⟨m', rfl, h1, h2, h3⟩
  obtain ⟨s', rfl⟩ := h1.sv
  exact ⟨s', rfl, h1, h2, h3⟩

theorem cellsMach : Try.prog.cellsOf 45 = 4 := by kernel_rfl
/-- What is known of a machine that came in: lengths, and that its numbers fit their kinds. -/
structure MOk (M : Mach) : Prop where
  w : M.mem.length ≤ 9223372036854775807
  p : M.pend.length ≤ 9223372036854775807
  t : M.tlb.length ≤ 9223372036854775807
  c : M.wc.length ≤ 9223372036854775807
  word : ∀ i, 0 ≤ M.mem.getD i 0 ∧ M.mem.getD i 0 < 2 ^ 64
  pend : ∀ i, i < M.pend.length → okWrite (eAt eWrite M.pend i)
  tlb : ∀ i, i < M.tlb.length → okTlb (eAt eTlb M.tlb i)
  wc : ∀ i, i < M.wc.length → okWc (eAt eWc M.wc i)
theorem cellsWord1 : Try.prog.cellsOf 84 = 1 := by kernel_rfl
theorem elWord {H : Type} {enc : TypeId × Value → H} {W : World} {sp : Nat → Bool} (n : Nat) (cs : List Value) (y : DataW H × List MemPlace) (h : DataW.trod enc Try.prog W 0 sp true n 84 cs = some y) : ∃ x, cs = eWord.enc x ∧ (Lit.int .u64 x).wf = true := by
  obtain ⟨x, r, _, hw⟩ := DataW.trod_int Try.underlying84 h
  exact ⟨x, r, hw⟩
set_option maxRecDepth 100000 in
theorem mach_open {H : Type} {enc : TypeId × Value → H} {W : World} {r : Reach} {b0 : Nat} {v : Value} {d : DataW H} {p : List MemPlace} (hv : Value.okWide Try.prog W r b0 45 v) (h : DataW.Trod enc Try.prog W 0 (fun _ => true) true 45 v d p) :
    ∃ (s : SV) (M : Mach), v = .agg #[.slice s.a1 M.mem.length s.c1, .slice s.a2 M.pend.length s.c2, .slice s.a3 M.tlb.length s.c3, .slice s.a4 M.wc.length s.c4] ∧ MOk M ∧ MSrc W (s.mv M) M := by
  obtain ⟨cs, rfl, hsz⟩ := okWide_struct Try.underlying45 hv
  obtain ⟨l⟩ := cs
  obtain ⟨u1, u2, u3, u4, rfl⟩ := list4 (hsz.trans cellsMach)
  obtain ⟨fuel, hf⟩ := h
  obtain ⟨xs, m, _, _, hl, hlen, hfs⟩ := DataW.trod_struct Try.underlying45 hf
  have e0 : ∃ z, xs[0]? = some z := ⟨_, List.getElem?_eq_getElem (by rw [hlen]; decide)⟩
  have e1 : ∃ z, xs[1]? = some z := ⟨_, List.getElem?_eq_getElem (by rw [hlen]; decide)⟩
  have e2 : ∃ z, xs[2]? = some z := ⟨_, List.getElem?_eq_getElem (by rw [hlen]; decide)⟩
  have e3 : ∃ z, xs[3]? = some z := ⟨_, List.getElem?_eq_getElem (by rw [hlen]; decide)⟩
  obtain ⟨y0, e0⟩ := e0
  obtain ⟨y1, e1⟩ := e1
  obtain ⟨y2, e2⟩ := e2
  obtain ⟨y3, e3⟩ := e3
  have h0 : DataW.trod enc Try.prog W 0 (fun _ => true) true m 24 [u1] = xs[0]? := hfs 0 _ rfl
  have h1 : DataW.trod enc Try.prog W 0 (fun _ => true) true m 41 [u2] = xs[1]? := hfs 1 _ rfl
  have h2 : DataW.trod enc Try.prog W 0 (fun _ => true) true m 42 [u3] = xs[2]? := hfs 2 _ rfl
  have h3 : DataW.trod enc Try.prog W 0 (fun _ => true) true m 43 [u4] = xs[3]? := hfs 3 _ rfl
  rw [e0] at h0
  rw [e1] at h1
  rw [e2] at h2
  rw [e3] at h3
  obtain ⟨y, m', _, _, hy⟩ := trod_struct1 Try.underlying24 h0
  have hy' : DataW.trod enc Try.prog W 0 (fun _ => true) true m' 22 [u1] = some y := hy
  obtain ⟨zs, q1, q2, q3⟩ := esrc_open eWord (fun x => (Lit.int .u64 x).wf = true) Try.underlying22 cellsWord1 elWord hy'
  obtain ⟨ps, r1, r2, r3⟩ := esrc_open eWrite okWrite Try.underlying41 cellsWrite elWrite h1
  obtain ⟨ts, s1, s2, s3⟩ := esrc_open eTlb okTlb Try.underlying42 cellsTlb elTlb h2
  obtain ⟨ws, t1, t2, t3⟩ := esrc_open eWc okWc Try.underlying43 cellsWc elWc h3
  obtain ⟨a1, c1, rfl, g1⟩ := q1
  obtain ⟨a2, c2, rfl, g2⟩ := r1
  obtain ⟨a3, c3, rfl, g3⟩ := s1
  obtain ⟨a4, c4, rfl, g4⟩ := t1
  refine ⟨⟨a1, c1, a2, c2, a3, c3, a4, c4⟩, ⟨zs, ps, ts, ws⟩, rfl, ⟨q2, r2, s2, t2, fun i => ?_, r3, s3, t3⟩, ⟨?_, ⟨a2, c2, rfl, g2⟩, ⟨a3, c3, rfl, g3⟩, ⟨a4, c4, rfl, g4⟩⟩⟩
  · show 0 ≤ zs.getD i 0 ∧ zs.getD i 0 < 2 ^ 64
    by_cases hi : i < zs.length
    · have hw : (Lit.int .u64 (zs.getD i 0)).wf = true := q3 i hi
      have := bounds_u64 hw
      omega
    · rw [List.getD_eq_getElem?_getD, List.getElem?_eq_none (by omega)]
      simp
  · refine ⟨a1, c1, rfl, fun h0 => ?_⟩
    obtain ⟨b, o, e, hb, hc⟩ := g1 h0
    refine ⟨b, o, e, hb, fun i hi => ?_⟩
    have := hc i hi 0 (by decide)
    simpa [eWord, eCell, eAt] using this
end Go.Proofs.Ytnmhkgmmpkjjeab
