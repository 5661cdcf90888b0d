import Derived.Test.YtnmhkgmmpkjjeacGreatG34
namespace Go.Proofs.YtnmhkgmmpkjjeacGreat
open Go.ChangeShapes Go.WideShapes Go.ChangeAt Go.RowKit
set_option linter.unusedVariables false
set_option maxRecDepth 100000
attribute [local go_sem ↓] Go.wp_at_zero Go.wp_at_succ

/-- What a part is given: the plan below wp, the operations in OP, the plan's pointer in PV. -/
structure Emit (wp w : World) (gp OP PV : Nat) (a : Option Addr) (c : Nat) (l : List OpE) : Prop where
  ops : OpsAt w OP wp.heap.size a c l
  pl : Below wp.heap.size wp w
  pv : w.cell? ⟨PV, 0, none⟩ = some (.pointer (some ⟨gp, 0, none⟩))
  vlt : PV < w.heap.size
  vo : PV ≠ OP
  va : oB a ≠ some PV
  lo : wp.heap.size ≤ OP
theorem Emit.below {wp w w' : World} {gp OP PV c : Nat} {a : Option Addr} {l : List OpE} (h : Emit wp w gp OP PV a c l) (hb : Below w.heap.size w w') : Emit wp w' gp OP PV a c l :=
  ⟨h.ops.below hb, h.pl.trans (hb.mono h.pl.size), (hb.cell (p := ⟨PV, 0, none⟩) h.vlt).trans h.pv, Nat.lt_of_lt_of_le h.vlt hb.size, h.vo, h.va, h.lo⟩
theorem Emit.step {wp w w' : World} {gp OP PV c c' : Nat} {a a' : Option Addr} {l l' : List OpE} (h : Emit wp w gp OP PV a c l) (ho : OpsAt w' OP wp.heap.size a' c' l') (ht : Tch (fun k => k = OP ∨ oB a = some k) w w') (hn : ∀ k, oB a' = some k → oB a = some k ∨ w.heap.size ≤ k) : Emit wp w' gp OP PV a' c' l' := by
  have nv : ¬ (PV = OP ∨ oB a = some PV) := fun hh => hh.elim h.vo h.va
  refine ⟨ho, ?_, (ht.cell (p := ⟨PV, 0, none⟩) h.vlt nv).trans h.pv, Nat.lt_of_lt_of_le h.vlt ht.size, h.vo, ?_, h.lo⟩
  · refine ((Tch.of_below (S := fun k => wp.heap.size ≤ k) h.pl).then ht (fun k hk hh => ?_)).below (fun k hk hh => by omega)
    rcases hh with e | e
    · have := h.lo; omega
    · have := (h.ops.own k e).1; omega
  · intro e
    rcases hn _ e with e2 | e2
    · exact h.va e2
    · have := h.vlt; omega
/-- Its entries so far. -/
def brkPInv (wp : World) (OP PB : Nat) (l : List OpE) (zs : List Int) (H : Nat → Ht) (all : List P3) (S : Nat → Prop) (es : List En) (w : World) : Prop :=
  (∃ a c, OpsAt w OP wp.heap.size a c (l ++ brkOps zs H all es) ∧ S = (fun k => k = OP ∨ oB a = some k) ∧ oB a ≠ some PB) ∧ Below wp.heap.size wp w ∧ w.cell? ⟨PB, 0, none⟩ = some (putV OP) ∧ PB < w.heap.size
theorem brkP_ok (wp : World) (OP PB : Nat) (l : List OpE) (zs : List Int) (H : Nat → Ht) (all : List P3) (hzr : ∀ i, 0 ≤ zs.getD i 0 ∧ zs.getD i 0 < 18446744073709551616) (hl : l.length ≤ 700000) (hlo : wp.heap.size ≤ OP) (hpo : PB ≠ OP) : VisOk 98 PB zs H all wp (brkPInv wp OP PB l zs H all) := by
  refine ⟨fun a b w => ?_, ?_, ?_, ?_, ?_⟩
  · kernel_rfl
  · rintro S es e wX ⟨⟨a, c, ho, rfl, hn⟩, hb, hc, hlt⟩ ⟨lv, pg, ad, rfl, h1, h3, h4, h5⟩ hes
    have hlen : (l ++ brkOps zs H all es).length ≤ 900000 := by
      rw [List.length_append]
      have := brkOps_len zs H all es
      omega
    refine (brkVis_any PB OP wp.heap.size c a (l ++ brkOps zs H all es) zs H all lv pg ad wX hlen (hzr _) hc hlt ho).mono ?_
    rintro r w' ⟨rfl, a', c', h6, h7, h8⟩
    have nv : ¬ (PB = OP ∨ oB a = some PB) := fun hh => hh.elim hpo hn
    refine ⟨rfl, fun k => k = OP ∨ oB a' = some k, ⟨⟨a', c', ?_, rfl, ?_⟩, ?_, (h7.cell (p := ⟨PB, 0, none⟩) hlt nv).trans hc, Nat.lt_of_lt_of_le hlt h7.size⟩, h7, ?_⟩
    · rw [brkOps_succ, ← List.append_assoc]
      exact h6
    · intro e
      rcases h8 _ e with e2 | e2
      · exact hn e2
      · omega
    · refine ((Tch.of_below (S := fun k => wp.heap.size ≤ k) hb).then h7 (fun k hk hh => ?_)).below (fun k hk hh => by omega)
      rcases hh with e | e
      · omega
      · have := (ho.own k e).1; omega
    · intro k hk hh
      rcases hh with e | e
      · exact .inl e
      · rcases h8 _ e with e2 | e2
        · exact .inr e2
        · omega
  · rintro S es wX wY ⟨⟨a, c, ho, rfl, hn⟩, hb, hc, hlt⟩ hX
    exact ⟨⟨a, c, ho.below hX, rfl, hn⟩, hb.trans (hX.mono hb.size), (hX.cell (p := ⟨PB, 0, none⟩) hlt).trans hc, Nat.lt_of_lt_of_le hlt hX.size⟩
  · rintro S es wX ⟨_, hb, _⟩
    exact hb
  · rintro S es wX ⟨⟨a, c, ho, rfl, hn⟩, hb, hc, hlt⟩ k hk
    rcases hk with e | e
    · rw [e]; exact ho.lt
    · exact (ho.own k e).2
set_option maxHeartbeats 1000000 in
theorem brkP_any (wp : World) (gp gz cz gl M OP PV c : Nat) (a : Option Addr) (l : List OpE) (zs : List Int) (H : Nat → Ht) (kept fs : List P3) (w : World) (hzr : ∀ i, 0 ≤ zs.getD i 0 ∧ zs.getD i 0 < 18446744073709551616) (hl : l.length ≤ 700000) (hP : PSt wp gp gz cz gl M zs H (hmOf kept fs)) (hK : KOk zs H kept fs) (h : Emit wp w gp OP PV a c l) :
    Calls Tryz.prog 96 #[putV OP, .pointer (some ⟨PV, 0, none⟩)] w (PutP OP wp.heap.size a (l ++ brkOps zs H (kept ++ fs) (enTo kept 4096)) w) := by
  obtain ⟨wb, hwb⟩ : ∃ wb, wb = w.alloc (.cells #[putV OP] 129) := ⟨_, rfl⟩
  have hb0 : Below w.heap.size w wb := by rw [hwb]; exact bal
  have h1 := h.below hb0
  have hev := brkP_ok wp OP w.heap.size l zs H (kept ++ fs) hzr hl h.lo (by have := h.ops.lt; omega)
  have hst : brkPInv wp OP w.heap.size l zs H (kept ++ fs) (fun k => k = OP ∨ oB a = some k) [] wb := by
    refine ⟨⟨a, c, ?_, rfl, fun e => by have := (h.ops.own _ e).2; omega⟩, h1.pl, ?_, by rw [hwb]; simp⟩
    · have e0 : brkOps zs H (kept ++ fs) [] = [] := rfl
      rw [e0, List.append_nil]
      exact h1.ops
    · rw [hwb]; simp [go_sem]
  have hek := eachKept_any hev hP hK _ wb hst
  have p1 := h.pv
  have hvl := h.vlt
  have HE : Hid (∀ r w', VPost (brkPInv wp OP w.heap.size l zs H (kept ++ fs)) (fun k => k = OP ∨ oB a = some k) (enTo kept 4096) wb r w' → PutP OP wp.heap.size a (l ++ brkOps zs H (kept ++ fs) (enTo kept 4096)) w r w') := hidOf <| by
    rintro r w' ⟨rfl, S', ⟨⟨a', c', ho, rfl, hn⟩, hb, hc, hlt⟩, ht, hs⟩
    refine ⟨rfl, a', c', ho, (Tch.of_below hb0).then ht (fun k _ hh => hh), fun k hk => ?_⟩
    by_cases hkw : k < w.heap.size
    · rcases hs k (by have := hb0.size; omega) (.inr hk) with e | e
      · exact absurd (by rw [hk, e]) ho.off
      · exact .inl e
    · exact .inr (by omega)
  have HWB : Hid (wb = _) := hwb
  clear hwb hb0 h1 hev hst h hP hK
  unfold putV at *
  go_enter Tryz.func96, Tryz.ntmps96
  go_wp2_with fail
  rw [← HWB.out]
  refine hek.mono ?_
  rintro r w1 hv
  obtain ⟨rfl, hp⟩ := HE.out _ _ hv
  clear hek hv
  go_wp2_with fail
  refine bodyPost_end (v := .tuple #[]) (by simp [results, Tryz.results96, go_sem]) rfl ?_
  exact ⟨rfl, hp⟩
/-- Its entries so far. -/
def lnkPInv (wp : World) (OP PB : Nat) (l : List OpE) (zs : List Int) (H : Nat → Ht) (all : List P3) (S : Nat → Prop) (es : List En) (w : World) : Prop :=
  (∃ a c, OpsAt w OP wp.heap.size a c (l ++ lnkOps zs H all es) ∧ S = (fun k => k = OP ∨ oB a = some k) ∧ oB a ≠ some PB) ∧ Below wp.heap.size wp w ∧ w.cell? ⟨PB, 0, none⟩ = some (putV OP) ∧ PB < w.heap.size
theorem lnkP_ok (wp : World) (OP PB : Nat) (l : List OpE) (zs : List Int) (H : Nat → Ht) (all : List P3) (hzr : ∀ i, 0 ≤ zs.getD i 0 ∧ zs.getD i 0 < 18446744073709551616) (hl : l.length ≤ 700000) (hlo : wp.heap.size ≤ OP) (hpo : PB ≠ OP) : VisOk 108 PB zs H all wp (lnkPInv wp OP PB l zs H all) := by
  refine ⟨fun a b w => ?_, ?_, ?_, ?_, ?_⟩
  · kernel_rfl
  · rintro S es e wX ⟨⟨a, c, ho, rfl, hn⟩, hb, hc, hlt⟩ ⟨lv, pg, ad, rfl, h1, h3, h4, h5⟩ hes
    have hlen : (l ++ lnkOps zs H all es).length ≤ 900000 := by
      rw [List.length_append]
      have := lnkOps_len zs H all es
      omega
    refine (lnkVis_any PB OP wp.heap.size c a (l ++ lnkOps zs H all es) zs H all lv pg ad wX hlen (hzr _) hc hlt ho).mono ?_
    rintro r w' ⟨rfl, a', c', h6, h7, h8⟩
    have nv : ¬ (PB = OP ∨ oB a = some PB) := fun hh => hh.elim hpo hn
    refine ⟨rfl, fun k => k = OP ∨ oB a' = some k, ⟨⟨a', c', ?_, rfl, ?_⟩, ?_, (h7.cell (p := ⟨PB, 0, none⟩) hlt nv).trans hc, Nat.lt_of_lt_of_le hlt h7.size⟩, h7, ?_⟩
    · rw [lnkOps_succ, ← List.append_assoc]
      exact h6
    · intro e
      rcases h8 _ e with e2 | e2
      · exact hn e2
      · omega
    · refine ((Tch.of_below (S := fun k => wp.heap.size ≤ k) hb).then h7 (fun k hk hh => ?_)).below (fun k hk hh => by omega)
      rcases hh with e | e
      · omega
      · have := (ho.own k e).1; omega
    · intro k hk hh
      rcases hh with e | e
      · exact .inl e
      · rcases h8 _ e with e2 | e2
        · exact .inr e2
        · omega
  · rintro S es wX wY ⟨⟨a, c, ho, rfl, hn⟩, hb, hc, hlt⟩ hX
    exact ⟨⟨a, c, ho.below hX, rfl, hn⟩, hb.trans (hX.mono hb.size), (hX.cell (p := ⟨PB, 0, none⟩) hlt).trans hc, Nat.lt_of_lt_of_le hlt hX.size⟩
  · rintro S es wX ⟨_, hb, _⟩
    exact hb
  · rintro S es wX ⟨⟨a, c, ho, rfl, hn⟩, hb, hc, hlt⟩ k hk
    rcases hk with e | e
    · rw [e]; exact ho.lt
    · exact (ho.own k e).2
set_option maxHeartbeats 1000000 in
theorem lnkP_any (wp : World) (gp gz cz gl M OP PV c : Nat) (a : Option Addr) (l : List OpE) (zs : List Int) (H : Nat → Ht) (kept fs : List P3) (w : World) (hzr : ∀ i, 0 ≤ zs.getD i 0 ∧ zs.getD i 0 < 18446744073709551616) (hl : l.length ≤ 700000) (hP : PSt wp gp gz cz gl M zs H (hmOf kept fs)) (hK : KOk zs H kept fs) (h : Emit wp w gp OP PV a c l) :
    Calls Tryz.prog 107 #[putV OP, .pointer (some ⟨PV, 0, none⟩)] w (PutP OP wp.heap.size a (l ++ lnkOps zs H (kept ++ fs) (enTo kept 4096)) w) := by
  obtain ⟨wb, hwb⟩ : ∃ wb, wb = w.alloc (.cells #[putV OP] 129) := ⟨_, rfl⟩
  have hb0 : Below w.heap.size w wb := by rw [hwb]; exact bal
  have h1 := h.below hb0
  have hev := lnkP_ok wp OP w.heap.size l zs H (kept ++ fs) hzr hl h.lo (by have := h.ops.lt; omega)
  have hst : lnkPInv wp OP w.heap.size l zs H (kept ++ fs) (fun k => k = OP ∨ oB a = some k) [] wb := by
    refine ⟨⟨a, c, ?_, rfl, fun e => by have := (h.ops.own _ e).2; omega⟩, h1.pl, ?_, by rw [hwb]; simp⟩
    · have e0 : lnkOps zs H (kept ++ fs) [] = [] := rfl
      rw [e0, List.append_nil]
      exact h1.ops
    · rw [hwb]; simp [go_sem]
  have hek := eachKept_any hev hP hK _ wb hst
  have p1 := h.pv
  have hvl := h.vlt
  have HE : Hid (∀ r w', VPost (lnkPInv wp OP w.heap.size l zs H (kept ++ fs)) (fun k => k = OP ∨ oB a = some k) (enTo kept 4096) wb r w' → PutP OP wp.heap.size a (l ++ lnkOps zs H (kept ++ fs) (enTo kept 4096)) w r w') := hidOf <| by
    rintro r w' ⟨rfl, S', ⟨⟨a', c', ho, rfl, hn⟩, hb, hc, hlt⟩, ht, hs⟩
    refine ⟨rfl, a', c', ho, (Tch.of_below hb0).then ht (fun k _ hh => hh), fun k hk => ?_⟩
    by_cases hkw : k < w.heap.size
    · rcases hs k (by have := hb0.size; omega) (.inr hk) with e | e
      · exact absurd (by rw [hk, e]) ho.off
      · exact .inl e
    · exact .inr (by omega)
  have HWB : Hid (wb = _) := hwb
  clear hwb hb0 h1 hev hst h hP hK
  unfold putV at *
  go_enter Tryz.func107, Tryz.ntmps107
  go_wp2_with fail
  rw [← HWB.out]
  refine hek.mono ?_
  rintro r w1 hv
  obtain ⟨rfl, hp⟩ := HE.out _ _ hv
  clear hek hv
  go_wp2_with fail
  refine bodyPost_end (v := .tuple #[]) (by simp [results, Tryz.results107, go_sem]) rfl ?_
  exact ⟨rfl, hp⟩
end Go.Proofs.YtnmhkgmmpkjjeacGreat
