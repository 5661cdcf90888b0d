import Derived.Test.YtnmhkgmmpkjjeabUEnd
import Derived.Test.YtnmhkgmmpkjjeabULate
namespace Go.Proofs.Ytnmhkgmmpkjjeab
open Go.ChangeShapes Go.WideShapes Go.ChangeAt Go.RowKit
set_option linter.unusedVariables false
attribute [local go_sem ↓] Go.wp_at_zero Go.wp_at_succ

/-- The walk's own two blocks: the answer's (still zero) and the place where it stands. -/
structure WLoc (W : World) (R A : Nat) (at1 : WcE) : Prop where
  r : W.cell? ⟨R, 0, none⟩ = some (.int .i64 0) ∧ W.cell? ⟨R, 1, none⟩ = some (.int .i64 0) ∧ W.cell? ⟨R, 2, none⟩ = some (.int .i64 0) ∧ W.cell? ⟨R, 3, none⟩ = some (.int .i64 0)
  rf : W.frozen? ⟨R, 0, none⟩ = false ∧ W.frozen? ⟨R, 1, none⟩ = false ∧ W.frozen? ⟨R, 2, none⟩ = false ∧ W.frozen? ⟨R, 3, none⟩ = false
  a : W.cell? ⟨A, 0, none⟩ = some (.int .i64 at1.page) ∧ W.cell? ⟨A, 1, none⟩ = some (.int .i64 (16 * cov at1.level)) ∧ W.cell? ⟨A, 2, none⟩ = some (.bool at1.doom) ∧ W.cell? ⟨A, 3, none⟩ = some (.int .i64 at1.level) ∧ W.cell? ⟨A, 4, none⟩ = some (.int .i64 at1.table)
  af : W.frozen? ⟨A, 0, none⟩ = false ∧ W.frozen? ⟨A, 1, none⟩ = false ∧ W.frozen? ⟨A, 2, none⟩ = false ∧ W.frozen? ⟨A, 3, none⟩ = false ∧ W.frozen? ⟨A, 4, none⟩ = false
  rl : R < W.heap.size
  al : A < W.heap.size
theorem WLoc.of_blocks {W W' : World} {R A : Nat} {at1 : WcE} (h : WLoc W R A at1) (hr : W'.heap[R]? = W.heap[R]?) (ha : W'.heap[A]? = W.heap[A]?) (hs : W.heap.size ≤ W'.heap.size) : WLoc W' R A at1 := by
  obtain ⟨⟨r0, r1, r2, r3⟩, ⟨g0, g1, g2, g3⟩, ⟨a0, a1, a2, a3, a4⟩, ⟨f0, f1, f2, f3, f4⟩, rl, al⟩ := h
  exact ⟨⟨(World.cell?_of_block hr).trans r0, (World.cell?_of_block hr).trans r1, (World.cell?_of_block hr).trans r2, (World.cell?_of_block hr).trans r3⟩, ⟨(World.frozen?_of_block hr).trans g0, (World.frozen?_of_block hr).trans g1, (World.frozen?_of_block hr).trans g2, (World.frozen?_of_block hr).trans g3⟩,
    ⟨(World.cell?_of_block ha).trans a0, (World.cell?_of_block ha).trans a1, (World.cell?_of_block ha).trans a2, (World.cell?_of_block ha).trans a3, (World.cell?_of_block ha).trans a4⟩, ⟨(World.frozen?_of_block ha).trans f0, (World.frozen?_of_block ha).trans f1, (World.frozen?_of_block ha).trans f2, (World.frozen?_of_block ha).trans f3, (World.frozen?_of_block ha).trans f4⟩, by omega, by omega⟩
theorem WLoc.below {W W' : World} {R A : Nat} {at1 : WcE} (h : WLoc W R A at1) (hb : Below W.heap.size W W') : WLoc W' R A at1 := h.of_blocks (hb.block _ h.rl) (hb.block _ h.al) hb.size
theorem dKind_end (l x : Int) (h2 : ¬ dKind l x = 2) (h3 : ¬ dKind l x = 3) (page choice : Int) (M : Mach) (doom : Bool) : endM page choice M l x doom = (M, if dKind l x = 0 then ⟨0, 0, 0, 0⟩ else ⟨3, 0, 0, 0⟩) := by
  unfold endM
  by_cases h0 : dKind l x = 0
  · simp [h0]
  · simp [h0, h2, h3]
theorem dKind_map (l x : Int) (h : dKind l x = 2 ∨ dKind l x = 3) (page choice : Int) (M : Mach) (doom : Bool) : cov l = sizR l x ∧ (sizR l x = 1 ∨ sizR l x = 16) ∧ endM page choice M l x doom = (if bitI choice 6 then addTlbM M ⟨page - page % sizR l x, sizR l x, dOut l x, dPerm l x, doom⟩ else M, ⟨1, dOut l x + page % sizR l x, dPerm l x, sizR l x⟩) := by
  have h0 : ¬ dKind l x = 0 := by omega
  refine ⟨?_, ?_, ?_⟩
  · unfold sizR
    rcases h with h | h
    · rw [if_pos h, dKind_2 l x h]; rfl
    · rw [if_neg (by omega), dKind_is3 l x h]; rfl
  · unfold sizR; split <;> simp
  · unfold endM
    rw [if_neg h0, if_pos h]
/-- The end, at any word. -/
theorem end_any (gu b0 B : Nat) (L : Bool) (u : UV) (M : Mach) (page choice : Int) (at' : WcE) (x : Int) (hp0 : 0 ≤ page) (hp1 : page < 4096) (hc0 : 0 ≤ choice) (hc1 : choice ≤ 65535) (hn : M.tlb.length ≤ 256) (w : World) (hB : B ≤ w.heap.size) (h : UM w gu b0 B L u M) :
    Calls Try.prog 126 #[.pointer (some ⟨gu, 0, none⟩), tabV at', .agg #[.int .i64 (dKind at'.level x), .int .i64 (dOut at'.level x), .int .i64 (dPerm at'.level x)], .int .i64 page, .int .i64 choice] w fun r w' => r = .returned (hitV (endM page choice M at'.level x at'.doom).2) ∧ ∃ u', UStep w w' gu b0 B L u u' (endM page choice M at'.level x at'.doom).1 := by
  by_cases hm : dKind at'.level x = 2 ∨ dKind at'.level x = 3
  · obtain ⟨e1, e2, e3⟩ := dKind_map at'.level x hm page choice M at'.doom
    rw [e3]
    exact end_map gu b0 B L u M page choice at' _ _ _ _ hm e2 e1 (dOut_lo _ _) hp0 hp1 hc0 hc1 hn w hB h
  · rw [dKind_end at'.level x (fun e => hm (.inl e)) (fun e => hm (.inr e)) page choice M at'.doom]
    refine (end_none gu b0 B L u M page choice at' _ _ _ ⟨fun e => hm (.inl e), fun e => hm (.inr e)⟩ w h).mono ?_
    rintro r w' ⟨rfl, hb⟩
    exact ⟨rfl, u, UStep.refl h hb⟩
theorem readM_any (gu b0 B : Nat) (L : Bool) (u : UV) (M : Mach) (Ad : Nat) (late : Bool) (w : World) (hA : Ad < M.mem.length) (hl : late = true → L = true) (hp : L = true → ∀ i, i < M.pend.length → 0 ≤ (eAt eWrite M.pend i).addr) (h : UM w gu b0 B L u M) :
    Calls Try.prog 122 #[.pointer (some ⟨gu, 0, none⟩), .int .i64 Ad, .bool late] w fun e w' => e = .returned (.int .u64 (readM M Ad late)) ∧ Below w.heap.size w w' := by
  cases late
  · obtain ⟨ga, ca, hae, haf⟩ := eWord_form h.w
    obtain ⟨g, N, f, hag, _, hr, hN, hf⟩ := haf (by omega)
    simp only [Value.slice.injEq] at hae
    have c := hr.cell (i := Ad) (by omega)
    rw [hf Ad hA] at c
    have q := h.q0
    rw [hae.1, hag] at q
    exact readU_any gu g 0 M.mem.length u.c1 0 0 Ad false _ w (fun _ => ⟨q, hA, by rw [c]; simp [readM]⟩) (fun h => by cases h)
  · have hL := hl rfl
    obtain ⟨e2, hrow⟩ := h.l hL
    have hll := lateL_length M
    obtain ⟨ga, ca, hae, haf⟩ := eWord_form hrow
    obtain ⟨g, N, f, hag, _, hr, hN, hf⟩ := haf (by omega)
    simp only [Value.slice.injEq] at hae
    have c := hr.cell (i := Ad) (by omega)
    rw [hf Ad (by omega), lateL_read M Ad hA (hp hL)] at c
    have q := h.q1
    rw [hae.1, hag] at q
    exact readU_any gu 0 g 0 0 u.n2 u.c2 Ad true _ w (fun h => by cases h) (fun _ => ⟨q, by omega, c⟩)

/-- Where a round of the walk stands. -/
structure WAt (w W : World) (gu b0 B : Nat) (L : Bool) (u : UV) (M : Mach) (page choice : Int) (A : Nat) (u1 : UV) (M1 : Mach) (at1 : WcE) : Prop where
  loc : WLoc W w.heap.size A at1
  A0 : w.heap.size < A
  st : UStep w W gu b0 B L u u1 M1
  go : goM page choice (3 - at1.level).toNat M1 at1.level at1.table at1.doom = walkM M page choice
  ok : WOk M1
  mem : M1.mem = M.mem
  pend : M1.pend = M.pend
  l1 : 1 ≤ at1.level
  l3 : at1.level ≤ 3
  t0 : 0 ≤ at1.table
  t1 : at1.table < nfr M.mem.length
  nR : ¬ u1.wr gu w.heap.size
  nA : ¬ u1.wr gu A
theorem go_end (page choice : Int) (M : Mach) (level table X : Int) (doom : Bool) (hl1 : 1 ≤ level) (hl3 : level ≤ 3) (hX : X = wordM M page choice level table) (h : ¬ (dKind level X = 1 ∧ dOut level X < nfr M.mem.length)) : goM page choice (3 - level).toNat M level table doom = endM page choice M level X doom := by
  rcases (show (3 - level).toNat = 0 ∨ ∃ d, (3 - level).toNat = d + 1 from by cases h : (3 - level).toNat with | zero => exact .inl rfl | succ d => exact .inr ⟨d, rfl⟩) with e | ⟨d, e⟩
  · rw [e, hX]; rfl
  · rw [e, hX]
    unfold goM
    rw [if_neg]
    intro hl
    apply h
    rw [hX]
    simpa [leadsM] using hl
theorem go_step (page choice : Int) (M : Mach) (level table X : Int) (doom : Bool) (hl1 : 1 ≤ level) (hl3 : level ≤ 3) (hX : X = wordM M page choice level table) (hK : dKind level X = 1) (hO : dOut level X < nfr M.mem.length) : level < 3 ∧ goM page choice (3 - level).toNat M level table doom = goM page choice (3 - (level + 1)).toNat (stepM page choice M level X doom) (level + 1) (dOut level X) doom := by
  have hlt : level < 3 := by
    rcases Int.lt_or_eq_of_le hl3 with h | h
    · exact h
    · rw [h] at hK; exact absurd hK (dKind_3 X)
  refine ⟨hlt, ?_⟩
  obtain ⟨d, e⟩ : ∃ d, (3 - level).toNat = d + 1 := ⟨(3 - (level + 1)).toNat, by omega⟩
  have e2 : (3 - (level + 1)).toNat = d := by omega
  rw [e, e2, hX]
  conv => lhs; unfold goM
  rw [if_pos]
  rw [← hX]
  simp [leadsM, hK, hO]
end Go.Proofs.Ytnmhkgmmpkjjeab
