import Derived.Test.YtiiejckfcnmhoabGreatLawS
import Derived.Test.YtiiejckfcnmhoabGreatMStep
import Derived.Deep.RegionHeld3
namespace Go.Proofs.YtiiejckfcnmhoabGreat
open Go.ChangeShapes Go.WideShapes Go.ChangeAt Go.RowKit
set_option linter.unusedVariables false
attribute [local go_sem ↓] Go.wp_at_zero Go.wp_at_succ

set_option maxHeartbeats 4000000 in
theorem toOp_any (o : OpE) (w : World) : Calls Tryz.prog 15 #[.agg #[.int .i64 o.kind, .int .i64 o.a, .int .i64 o.b, .int .u64 o.word]] w fun e w' => e = .returned (.agg #[.int .i64 o.kind, .int .i64 o.a, .int .i64 o.b, .int .u64 o.word]) ∧ Below w.heap.size w w' := by
  obtain ⟨K, A, Bb, W⟩ := o
  dsimp only
  go_enter Tryz.func15, Tryz.ntmps15
  go_wp2_with fail
  refine bodyPost_ret (v := .agg #[.int .i64 K, .int .i64 A, .int .i64 Bb, .int .u64 W]) (by simp [results, Tryz.results15, go_sem]) rfl ⟨rfl, ?_⟩
  exact ((((Below.refl _ _).alloc (Nat.le_refl _) _).alloc (by simp) _).alloc (by simp; omega) _)
theorem both_ways3 {α β γ : Type} {G : Prop} {F : α → β → γ → Prop} {C : α → β → γ → Prop} (h1 : (∀ a b c, F a b c → C a b c) → G) (h2 : ∀ a b c, F a b c → C a b c) : G := h1 h2
theorem both_ways4 {α β γ δ : Type} {G : Prop} {F : α → β → γ → δ → Prop} {C : α → β → γ → δ → Prop} (h1 : (∀ a b c d, F a b c d → C a b c d) → G) (h2 : ∀ a b c d, F a b c d → C a b c d) : G := h1 h2
/-- A new machine, all nil, lies in block B. -/
def ZB (w : World) (B : Nat) : Prop := B < w.heap.size ∧ w.cell? ⟨B, 0, none⟩ = some (.slice none 0 0) ∧ w.cell? ⟨B, 1, none⟩ = some (.slice none 0 0) ∧ w.cell? ⟨B, 2, none⟩ = some (.slice none 0 0) ∧ w.cell? ⟨B, 3, none⟩ = some (.slice none 0 0) ∧ w.frozen? ⟨B, 0, none⟩ = false ∧ w.frozen? ⟨B, 1, none⟩ = false ∧ w.frozen? ⟨B, 2, none⟩ = false ∧ w.frozen? ⟨B, 3, none⟩ = false
theorem ZB.alloc (w : World) : ZB (w.alloc (.cells #[.slice none 0 0, .slice none 0 0, .slice none 0 0, .slice none 0 0] 36)) w.heap.size := by
  refine ⟨by simp, ?_, ?_, ?_, ?_, ?_, ?_, ?_, ?_⟩ <;> simp [go_sem]
theorem ZB.below {w w' : World} {B : Nat} (h : ZB w B) (hb : Below w.heap.size w w') : ZB w' B := by
  have h1 := h.1
  have h2 := hb.size
  refine ⟨by omega, ?_, ?_, ?_, ?_, ?_, ?_, ?_, ?_⟩
  · exact (hb.cell (by simpa using h1)).trans h.2.1
  · exact (hb.cell (by simpa using h1)).trans h.2.2.1
  · exact (hb.cell (by simpa using h1)).trans h.2.2.2.1
  · exact (hb.cell (by simpa using h1)).trans h.2.2.2.2.1
  · exact (hb.frozen (by simpa using h1)).trans h.2.2.2.2.2.1
  · exact (hb.frozen (by simpa using h1)).trans h.2.2.2.2.2.2.1
  · exact (hb.frozen (by simpa using h1)).trans h.2.2.2.2.2.2.2.1
  · exact (hb.frozen (by simpa using h1)).trans h.2.2.2.2.2.2.2.2

theorem fnexactstep_big (s : SV) (M : Mach) (o : OpE) (w : World) (h1 : M.mem.length ≤ 9223372036854775807) (h2 : M.pend.length ≤ 9223372036854775807) (h3 : M.tlb.length ≤ 9223372036854775807) (h4 : M.wc.length ≤ 9223372036854775807) (hb : ¬ M.mem.length + M.pend.length + M.tlb.length + M.wc.length ≤ 1048576) :
    Calls Tryz.prog 4 #[.agg #[.slice s.a1 M.mem.length s.c1, .slice s.a2 M.pend.length s.c2, .slice s.a3 M.tlb.length s.c3, .slice s.a4 M.wc.length s.c4], .agg #[.int .i64 o.kind, .int .i64 o.a, .int .i64 o.b, .int .u64 o.word]] w fun e w' => e = .returned (.bool true) ∧ Below w.heap.size w w' := by
  have hs := szMachine_any s.a1 s.a2 s.a3 s.a4 M.mem.length M.pend.length M.tlb.length M.wc.length s.c1 s.c2 s.c3 s.c4 h1 h2 h3 h4
  rw [if_neg hb] at hs
  go_enter Tryz.func4, Tryz.ntmps4
  go_wp2_with (go_at_call 6; refine (hs _).mono ?_; rintro e w1 ⟨rfl, hb1⟩)
  go_ret
  exact ⟨rfl, (((Below.refl _ _).alloc (Nat.le_refl _) _).alloc (by simp) _).trans (hb1.mono (by simp; omega))⟩

set_option maxHeartbeats 4000000 in
theorem fnexactstep_walk (s : SV) (M M' : Mach) (cd : Int) (o : OpE) (w : World) (hsm : M.Small) (hsm' : M'.Small) (hsum : M.mem.length + M.pend.length + M.tlb.length + M.wc.length ≤ 1048576) (hv : MSrc w (s.mv M) M)
    (hS : ∀ (s : SV) (b : Nat) (w : World), MRow w b (s.mv M) M → Calls Tryz.prog 14 #[.agg #[.slice s.a1 M.mem.length s.c1, .slice s.a2 M.pend.length s.c2, .slice s.a3 M.tlb.length s.c3, .slice s.a4 M.wc.length s.c4], .agg #[.int .i64 o.kind, .int .i64 o.a, .int .i64 o.b, .int .u64 o.word]] w fun e w' => ∃ s' : SV, e = .returned (.tuple #[.agg #[.slice s'.a1 M'.mem.length s'.c1, .slice s'.a2 M'.pend.length s'.c2, .slice s'.a3 M'.tlb.length s'.c3, .slice s'.a4 M'.wc.length s'.c4], .int .i64 cd]) ∧ MRow w' w.heap.size (s'.mv M') M' ∧ Below w.heap.size w w')
    (hI : ∀ (s : SV) (b : Nat) (w : World), MRow w b (s.mv M) M → Calls Tryz.prog 16 #[.agg #[.slice s.a1 M.mem.length s.c1, .slice s.a2 M.pend.length s.c2, .slice s.a3 M.tlb.length s.c3, .slice s.a4 M.wc.length s.c4], .agg #[.int .i64 o.kind, .int .i64 o.a, .int .i64 o.b, .int .u64 o.word]] w fun e w' => ∃ s' : SV, e = .returned (.tuple #[.agg #[.slice s'.a1 M'.mem.length s'.c1, .slice s'.a2 M'.pend.length s'.c2, .slice s'.a3 M'.tlb.length s'.c3, .slice s'.a4 M'.wc.length s'.c4], .int .i64 cd]) ∧ MRow w' w.heap.size (s'.mv M') M' ∧ (s'.mv M').apart ∧ Below w.heap.size w w') :
    Calls Tryz.prog 4 #[.agg #[.slice s.a1 M.mem.length s.c1, .slice s.a2 M.pend.length s.c2, .slice s.a3 M.tlb.length s.c3, .slice s.a4 M.wc.length s.c4], .agg #[.int .i64 o.kind, .int .i64 o.a, .int .i64 o.b, .int .u64 o.word]] w fun e w' => e = .returned (.bool true) ∧ Below w.heap.size w w' := by
  have z1 := hsm'.w
  have z2 := hsm'.p
  have z3 := hsm'.t
  have z4 := hsm'.c
  have y1 := hsm.w
  have y2 := hsm.p
  have y3 := hsm.t
  have y4 := hsm.c
  have hsz := szMachine_any s.a1 s.a2 s.a3 s.a4 M.mem.length M.pend.length M.tlb.length M.wc.length s.c1 s.c2 s.c3 s.c4 (by omega) (by omega) (by omega) (by omega)
  rw [if_pos hsum] at hsz
  have d0 : decide ((1048576 : Int) - M.mem.length - M.pend.length - M.tlb.length - M.wc.length < 0) = false := by simp; omega
  obtain ⟨wb, hwb⟩ : ∃ wb, wb = (w.alloc (.cells #[.slice s.a1 M.mem.length s.c1, .slice s.a2 M.pend.length s.c2, .slice s.a3 M.tlb.length s.c3, .slice s.a4 M.wc.length s.c4] 29)).alloc (.cells #[.int .i64 o.kind, .int .i64 o.a, .int .i64 o.b, .int .u64 o.word] 48) := ⟨_, rfl⟩
  have hbb : Below w.heap.size w wb := by rw [hwb]; exact ((Below.refl _ _).alloc (Nat.le_refl _) _).alloc (by simp) _
  have hzb : wb.heap.size = w.heap.size + 2 := by rw [hwb]; simp
  have HOPB : Hid (∀ wX, Below (w.heap.size + 2) wb wX → wX.cell? ⟨w.heap.size + 1, 0, none⟩ = some (.int .i64 o.kind) ∧ wX.cell? ⟨w.heap.size + 1, 1, none⟩ = some (.int .i64 o.a) ∧ wX.cell? ⟨w.heap.size + 1, 2, none⟩ = some (.int .i64 o.b) ∧ wX.cell? ⟨w.heap.size + 1, 3, none⟩ = some (.int .u64 o.word)) := fun wX hX => by
    refine ⟨?_, ?_, ?_, ?_⟩
    iterate 4 (exact (hX.cell (by simp)).trans (by rw [hwb]; simp [go_sem]))
  have hop := toOp_any o
  have qb : wb.cell? ⟨w.heap.size, 0, none⟩ = some (.slice s.a1 M.mem.length s.c1) ∧ wb.cell? ⟨w.heap.size, 1, none⟩ = some (.slice s.a2 M.pend.length s.c2) ∧ wb.cell? ⟨w.heap.size, 2, none⟩ = some (.slice s.a3 M.tlb.length s.c3) ∧ wb.cell? ⟨w.heap.size, 3, none⟩ = some (.slice s.a4 M.wc.length s.c4) := by rw [hwb]; simp [go_sem]
  have hto : ∀ wX, Below (w.heap.size + 2) wb wX → Calls Tryz.prog 8 #[.agg #[.slice s.a1 M.mem.length s.c1, .slice s.a2 M.pend.length s.c2, .slice s.a3 M.tlb.length s.c3, .slice s.a4 M.wc.length s.c4]] wX fun e w' => ∃ s' : SV, e = .returned (.agg #[.slice s'.a1 M.mem.length s'.c1, .slice s'.a2 M.pend.length s'.c2, .slice s'.a3 M.tlb.length s'.c3, .slice s'.a4 M.wc.length s'.c4]) ∧ MRow w' wX.heap.size (s'.mv M) M ∧ (s'.mv M).apart ∧ Below wX.heap.size wX w' :=
    fun wX hX => toMachine_s s M wX hsm (hv.at (hbb.trans (hX.mono (by omega))))
  have hbox : ∀ wX, Below (w.heap.size + 2) wb wX → wX.cell? ⟨w.heap.size, 0, none⟩ = some (.slice s.a1 M.mem.length s.c1) ∧ wX.cell? ⟨w.heap.size, 1, none⟩ = some (.slice s.a2 M.pend.length s.c2) ∧ wX.cell? ⟨w.heap.size, 2, none⟩ = some (.slice s.a3 M.tlb.length s.c3) ∧ wX.cell? ⟨w.heap.size, 3, none⟩ = some (.slice s.a4 M.wc.length s.c4) :=
    fun wX hX => ⟨(hX.cell (by simp)).trans qb.1, (hX.cell (by simp)).trans qb.2.1, (hX.cell (by simp)).trans qb.2.2.1, (hX.cell (by simp)).trans qb.2.2.2⟩
  have HWB : Hid (wb = _) := hwb
  have HBB : Hid (Below _ _ _) := hbb
  have HTO : Hid _ := hto
  have HBOX : Hid _ := hbox
  have HS : Hid _ := hS
  have HI : Hid _ := hI
  clear hwb hbb hto hbox qb hv hS hI
  go_enter Tryz.func4, Tryz.ntmps4
  go_wp2_with fail
  refine (hsz _).mono ?_
  rintro e w1 ⟨rfl, hb1⟩
  have b1 : Below (w.heap.size + 2) wb w1 := by rw [HWB.out]; exact hb1.mono (by simp)
  obtain ⟨x1, x2, x3, x4⟩ := HBOX.out w1 b1
  clear hb1 hsz
  go_wp2_with fail
  refine wp_region_held_drew (S := fun wX => (wX.cell? ⟨w.heap.size, 0, none⟩ = some (.slice s.a1 M.mem.length s.c1) ∧ wX.cell? ⟨w.heap.size, 1, none⟩ = some (.slice s.a2 M.pend.length s.c2) ∧ wX.cell? ⟨w.heap.size, 2, none⟩ = some (.slice s.a3 M.tlb.length s.c3) ∧ wX.cell? ⟨w.heap.size, 3, none⟩ = some (.slice s.a4 M.wc.length s.c4)) ∧ (wX.cell? ⟨w.heap.size + 1, 0, none⟩ = some (.int .i64 o.kind) ∧ wX.cell? ⟨w.heap.size + 1, 1, none⟩ = some (.int .i64 o.a) ∧ wX.cell? ⟨w.heap.size + 1, 2, none⟩ = some (.int .i64 o.b) ∧ wX.cell? ⟨w.heap.size + 1, 3, none⟩ = some (.int .u64 o.word))) (by kernel_rfl) (⟨HBOX.out _ b1.drew, HOPB.out _ b1.drew⟩) (fun hHeld => ?_)
  obtain ⟨wdp, hwd⟩ : ∃ x, x = w1.drew := ⟨_, rfl⟩
  have hzd : wdp.heap.size = w1.heap.size := by rw [hwd]; rfl
  have b1d : Below (w.heap.size + 2) wb wdp := by rw [hwd]; exact b1.drew
  have s1 := b1.size
  have HTp : Hid (∀ wX, Below wdp.heap.size wdp wX → Calls Tryz.prog 8 #[.agg #[.slice s.a1 M.mem.length s.c1, .slice s.a2 M.pend.length s.c2, .slice s.a3 M.tlb.length s.c3, .slice s.a4 M.wc.length s.c4]] wX fun e w' => ∃ s' : SV, e = .returned (.agg #[.slice s'.a1 M.mem.length s'.c1, .slice s'.a2 M.pend.length s'.c2, .slice s'.a3 M.tlb.length s'.c3, .slice s'.a4 M.wc.length s'.c4]) ∧ MRow w' wX.heap.size (s'.mv M) M ∧ (s'.mv M).apart ∧ Below wX.heap.size wX w') := fun wX hX => HTO.out wX (b1d.trans (hX.mono (by omega)))
  have HKp : Hid (∀ wX, Below wdp.heap.size wdp wX → (wX.cell? ⟨w.heap.size, 0, none⟩ = some (.slice s.a1 M.mem.length s.c1) ∧ wX.cell? ⟨w.heap.size, 1, none⟩ = some (.slice s.a2 M.pend.length s.c2) ∧ wX.cell? ⟨w.heap.size, 2, none⟩ = some (.slice s.a3 M.tlb.length s.c3) ∧ wX.cell? ⟨w.heap.size, 3, none⟩ = some (.slice s.a4 M.wc.length s.c4)) ∧ (wX.cell? ⟨w.heap.size + 1, 0, none⟩ = some (.int .i64 o.kind) ∧ wX.cell? ⟨w.heap.size + 1, 1, none⟩ = some (.int .i64 o.a) ∧ wX.cell? ⟨w.heap.size + 1, 2, none⟩ = some (.int .i64 o.b) ∧ wX.cell? ⟨w.heap.size + 1, 3, none⟩ = some (.int .u64 o.word))) := fun wX hX => ⟨HBOX.out wX (b1d.trans (hX.mono (by omega))), HOPB.out wX (b1d.trans (hX.mono (by omega)))⟩
  have bwdp : Below wdp.heap.size wdp wdp := Below.refl _ _
  rw [← hwd]
  rw [← hwd] at hHeld
  have HZp : Hid (wdp.heap.size = w1.heap.size) := hzd
  clear hwd hzd
  apply both_ways4 (F := fun (w3 : World) (sw : SV) (B : Nat) (sa : SV) => (((w3.cell? ⟨w.heap.size, 0, none⟩ = some (.slice s.a1 M.mem.length s.c1) ∧ w3.cell? ⟨w.heap.size, 1, none⟩ = some (.slice s.a2 M.pend.length s.c2) ∧ w3.cell? ⟨w.heap.size, 2, none⟩ = some (.slice s.a3 M.tlb.length s.c3) ∧ w3.cell? ⟨w.heap.size, 3, none⟩ = some (.slice s.a4 M.wc.length s.c4)) ∧ (w3.cell? ⟨w.heap.size + 1, 0, none⟩ = some (.int .i64 o.kind) ∧ w3.cell? ⟨w.heap.size + 1, 1, none⟩ = some (.int .i64 o.a) ∧ w3.cell? ⟨w.heap.size + 1, 2, none⟩ = some (.int .i64 o.b) ∧ w3.cell? ⟨w.heap.size + 1, 3, none⟩ = some (.int .u64 o.word))) ∧ MRow w3 wdp.heap.size (sw.mv M') M' ∧ (∀ k, (sw.mv M').owns k → ¬ k = B) ∧ wdp.heap.size ≤ B ∧ ZB w3 B ∧ Below wdp.heap.size wdp w3))
  · intro cont
    refine wpAnyH_take (i := 0) (v := ?_) rfl (by kernel_rfl) (by kernel_rfl) (by kernel_rfl) (fun _ _ _ h => h) (Or.inl ⟨by rfl, ?_⟩) (by assumption) ?_
    rotate_left
    · (intro w hSw; (try dsimp only at hSw); go_simp; try with_reducible rfl)
    simp only [Act.put, List.setIfInBounds_toArray, List.set_cons_zero, List.set_cons_succ, List.getElem_toArray, List.getElem_cons_zero]
    refine wpAnyH_take (i := 2) (v := ?_) rfl (by kernel_rfl) (by kernel_rfl) (by kernel_rfl) (fun _ _ _ h => h) (Or.inl ⟨by rfl, ?_⟩) (by assumption) ?_
    rotate_left
    · (intro w hSw; (try dsimp only at hSw); go_simp; try with_reducible rfl)
    simp only [Act.put, List.setIfInBounds_toArray, List.set_cons_zero, List.set_cons_succ, List.getElem_toArray, List.getElem_cons_zero, List.getElem_cons_succ]
    refine wpAnyH_ready (rs := [1, 8]) (by kernel_rfl) (by simp) ?_
    refine AllReadyH.cons rfl (fun K hK => ?_) (AllReadyH.cons rfl (fun K hK => ?_) AllReadyH.nil)
    · skip
      go_simp
      go_at_call 8
      refine (HTp.out _ bwdp).mono ?_
      rintro e wp1 ⟨sa, rfl, hra, _, hb⟩
      have bwp1 : Below wdp.heap.size wdp wp1 := bwdp.trans (hb.mono bwdp.size)
      go_wp2_with fail
      refine hK.out _ _ (HKp.out _ bwp1) (fun hHeld => ?_)
      clear hK K hb
      refine wpAnyH_ready (rs := [3, 8]) (by kernel_rfl) (by simp) ?_
      refine AllReadyH.cons rfl (fun K hK => ?_) (AllReadyH.cons rfl (fun K hK => ?_) AllReadyH.nil)
      · skip
        go_simp
        go_at_call 15
        refine (hop _).mono ?_
        rintro e wp2 ⟨rfl, hb⟩
        have bwp2 : Below wdp.heap.size wdp wp2 := bwp1.trans (hb.mono bwp1.size)
        have hra := hra.below hb
        go_wp2_with fail
        refine hK.out _ _ (HKp.out _ bwp2) (fun hHeld => ?_)
        clear hK K hb
        refine wpAnyH_ready (rs := [4, 8]) (by kernel_rfl) (by simp) ?_
        refine AllReadyH.cons rfl (fun K hK => ?_) (AllReadyH.cons rfl (fun K hK => ?_) AllReadyH.nil)
        · skip
          go_simp
          go_at_call 14
          refine (HS.out sa _ _ hra).mono ?_
          rintro e wp3 ⟨sw, rfl, hres, hb⟩
          have bwp3 : Below wdp.heap.size wdp wp3 := bwp2.trans (hb.mono bwp2.size)
          have hres0 := hres
          have hres := hres.rebase bwp2.size
          go_wp2_with fail
          refine hK.out _ _ (HKp.out _ bwp3) (fun hHeld => ?_)
          clear hK K hb
          refine wpAnyH_take (i := 5) (v := ?_) rfl (by kernel_rfl) (by kernel_rfl) (by kernel_rfl) (fun _ _ _ h => h) (Or.inl ⟨by rfl, ?_⟩) (by assumption) ?_
          rotate_left
          · (intro w hSw; (try dsimp only at hSw); go_simp; try with_reducible rfl)
          simp only [Act.put, List.setIfInBounds_toArray, List.set_cons_zero, List.set_cons_succ, List.getElem_toArray, List.getElem_cons_zero, List.getElem_cons_succ]
          refine wpAnyH_take (i := 6) (v := ?_) rfl (by kernel_rfl) (by kernel_rfl) (by kernel_rfl) (fun _ _ _ h => h) (Or.inl ⟨by rfl, ?_⟩) (by assumption) ?_
          rotate_left
          · (intro w hSw; (try dsimp only at hSw); go_simp; try with_reducible rfl)
          simp only [Act.put, List.setIfInBounds_toArray, List.set_cons_zero, List.set_cons_succ, List.getElem_toArray, List.getElem_cons_zero, List.getElem_cons_succ]
          refine wpAnyH_take (i := 7) (v := ?_) rfl (by kernel_rfl) (by kernel_rfl) (by kernel_rfl) (fun _ _ _ h => h) (Or.inl ⟨by rfl, ?_⟩) (by assumption) ?_
          rotate_left
          · (intro w hSw; (try dsimp only at hSw); go_simp; try with_reducible rfl)
          simp only [Act.put, List.setIfInBounds_toArray, List.set_cons_zero, List.set_cons_succ, List.getElem_toArray, List.getElem_cons_zero, List.getElem_cons_succ]
          refine wpAnyH_ready (rs := [8]) (by kernel_rfl) (by simp) ?_
          refine AllReadyH.cons rfl (fun K hK => ?_) AllReadyH.nil
          go_simp
          have hb : Below wp3.heap.size wp3 (wp3.alloc (.cells #[.slice none 0 0, .slice none 0 0, .slice none 0 0, .slice none 0 0] 36)) := (Below.refl _ _).alloc (Nat.le_refl _) _
          refine hK.out _ _ (HKp.out _ (bwp3.trans (hb.mono bwp3.size))) (fun hHeld => ?_)
          clear hK K
          obtain ⟨wp4, hwp4⟩ : ∃ x, x = wp3.alloc (.cells #[.slice none 0 0, .slice none 0 0, .slice none 0 0, .slice none 0 0] 36) := ⟨_, rfl⟩
          obtain ⟨B, hB⟩ : ∃ x, x = wp3.heap.size := ⟨_, rfl⟩
          have hz : ZB wp4 B := by rw [hwp4, hB]; exact ZB.alloc wp3
          rw [← hwp4] at hb hHeld
          simp only [← hwp4, ← hB]
          have bwp4 : Below wdp.heap.size wdp wp4 := bwp3.trans (hb.mono bwp3.size)
          have hBl : wdp.heap.size ≤ B := by rw [hB]; exact bwp3.size
          have hno : ∀ k, (sw.mv M').owns k → ¬ k = B := fun k hk e => by have h1 := (hres0.own k hk).2; omega
          have hres := hres.below hb
          clear hb hwp4 hB
          exact cont wp4 sw B sa ⟨HKp.out _ bwp4, hres, hno, hBl, hz, bwp4⟩
        · skip
          go_simp
          have hb : Below wp2.heap.size wp2 (wp2.alloc (.cells #[.slice none 0 0, .slice none 0 0, .slice none 0 0, .slice none 0 0] 36)) := (Below.refl _ _).alloc (Nat.le_refl _) _
          refine hK.out _ _ (HKp.out _ (bwp2.trans (hb.mono bwp2.size))) (fun hHeld => ?_)
          clear hK K
          obtain ⟨wp5, hwp5⟩ : ∃ x, x = wp2.alloc (.cells #[.slice none 0 0, .slice none 0 0, .slice none 0 0, .slice none 0 0] 36) := ⟨_, rfl⟩
          obtain ⟨B, hB⟩ : ∃ x, x = wp2.heap.size := ⟨_, rfl⟩
          have hz : ZB wp5 B := by rw [hwp5, hB]; exact ZB.alloc wp2
          rw [← hwp5] at hb hHeld
          simp only [← hwp5, ← hB]
          have bwp5 : Below wdp.heap.size wdp wp5 := bwp2.trans (hb.mono bwp2.size)
          have hBl : wdp.heap.size ≤ B := by rw [hB]; exact bwp2.size
          have hra := hra.below hb
          clear hb hwp5 hB
          refine wpAnyH_ready (rs := [4]) (by kernel_rfl) (by simp) ?_
          refine AllReadyH.cons rfl (fun K hK => ?_) AllReadyH.nil
          go_simp
          go_at_call 14
          refine (HS.out sa _ _ hra).mono ?_
          rintro e wp6 ⟨sw, rfl, hres, hb⟩
          have bwp6 : Below wdp.heap.size wdp wp6 := bwp5.trans (hb.mono bwp5.size)
          have hzq := hz
          have hz := hz.below hb
          have hno : ∀ k, (sw.mv M').owns k → ¬ k = B := fun k hk e => by have h1 := (hres.own k hk).1; have h2 := hzq.1; omega
          have hres0 := hres
          have hres := hres.rebase bwp5.size
          go_wp2_with fail
          refine hK.out _ _ (HKp.out _ bwp6) (fun hHeld => ?_)
          clear hK K hb
          refine wpAnyH_take (i := 5) (v := ?_) rfl (by kernel_rfl) (by kernel_rfl) (by kernel_rfl) (fun _ _ _ h => h) (Or.inl ⟨by rfl, ?_⟩) (by assumption) ?_
          rotate_left
          · (intro w hSw; (try dsimp only at hSw); go_simp; try with_reducible rfl)
          simp only [Act.put, List.setIfInBounds_toArray, List.set_cons_zero, List.set_cons_succ, List.getElem_toArray, List.getElem_cons_zero, List.getElem_cons_succ]
          refine wpAnyH_take (i := 6) (v := ?_) rfl (by kernel_rfl) (by kernel_rfl) (by kernel_rfl) (fun _ _ _ h => h) (Or.inl ⟨by rfl, ?_⟩) (by assumption) ?_
          rotate_left
          · (intro w hSw; (try dsimp only at hSw); go_simp; try with_reducible rfl)
          simp only [Act.put, List.setIfInBounds_toArray, List.set_cons_zero, List.set_cons_succ, List.getElem_toArray, List.getElem_cons_zero, List.getElem_cons_succ]
          refine wpAnyH_take (i := 7) (v := ?_) rfl (by kernel_rfl) (by kernel_rfl) (by kernel_rfl) (fun _ _ _ h => h) (Or.inl ⟨by rfl, ?_⟩) (by assumption) ?_
          rotate_left
          · (intro w hSw; (try dsimp only at hSw); go_simp; try with_reducible rfl)
          simp only [Act.put, List.setIfInBounds_toArray, List.set_cons_zero, List.set_cons_succ, List.getElem_toArray, List.getElem_cons_zero, List.getElem_cons_succ]
          exact cont wp6 sw B sa ⟨HKp.out _ bwp6, hres, hno, hBl, hz, bwp6⟩
      · skip
        go_simp
        have hb : Below wp1.heap.size wp1 (wp1.alloc (.cells #[.slice none 0 0, .slice none 0 0, .slice none 0 0, .slice none 0 0] 36)) := (Below.refl _ _).alloc (Nat.le_refl _) _
        refine hK.out _ _ (HKp.out _ (bwp1.trans (hb.mono bwp1.size))) (fun hHeld => ?_)
        clear hK K
        obtain ⟨wp7, hwp7⟩ : ∃ x, x = wp1.alloc (.cells #[.slice none 0 0, .slice none 0 0, .slice none 0 0, .slice none 0 0] 36) := ⟨_, rfl⟩
        obtain ⟨B, hB⟩ : ∃ x, x = wp1.heap.size := ⟨_, rfl⟩
        have hz : ZB wp7 B := by rw [hwp7, hB]; exact ZB.alloc wp1
        rw [← hwp7] at hb hHeld
        simp only [← hwp7, ← hB]
        have bwp7 : Below wdp.heap.size wdp wp7 := bwp1.trans (hb.mono bwp1.size)
        have hBl : wdp.heap.size ≤ B := by rw [hB]; exact bwp1.size
        have hra := hra.below hb
        clear hb hwp7 hB
        refine wpAnyH_ready (rs := [3]) (by kernel_rfl) (by simp) ?_
        refine AllReadyH.cons rfl (fun K hK => ?_) AllReadyH.nil
        go_simp
        go_at_call 15
        refine (hop _).mono ?_
        rintro e wp8 ⟨rfl, hb⟩
        have bwp8 : Below wdp.heap.size wdp wp8 := bwp7.trans (hb.mono bwp7.size)
        have hra := hra.below hb
        have hzq := hz
        have hz := hz.below hb
        go_wp2_with fail
        refine hK.out _ _ (HKp.out _ bwp8) (fun hHeld => ?_)
        clear hK K hb
        refine wpAnyH_ready (rs := [4]) (by kernel_rfl) (by simp) ?_
        refine AllReadyH.cons rfl (fun K hK => ?_) AllReadyH.nil
        go_simp
        go_at_call 14
        refine (HS.out sa _ _ hra).mono ?_
        rintro e wp9 ⟨sw, rfl, hres, hb⟩
        have bwp9 : Below wdp.heap.size wdp wp9 := bwp8.trans (hb.mono bwp8.size)
        have hzq := hz
        have hz := hz.below hb
        have hno : ∀ k, (sw.mv M').owns k → ¬ k = B := fun k hk e => by have h1 := (hres.own k hk).1; have h2 := hzq.1; omega
        have hres0 := hres
        have hres := hres.rebase bwp8.size
        go_wp2_with fail
        refine hK.out _ _ (HKp.out _ bwp9) (fun hHeld => ?_)
        clear hK K hb
        refine wpAnyH_take (i := 5) (v := ?_) rfl (by kernel_rfl) (by kernel_rfl) (by kernel_rfl) (fun _ _ _ h => h) (Or.inl ⟨by rfl, ?_⟩) (by assumption) ?_
        rotate_left
        · (intro w hSw; (try dsimp only at hSw); go_simp; try with_reducible rfl)
        simp only [Act.put, List.setIfInBounds_toArray, List.set_cons_zero, List.set_cons_succ, List.getElem_toArray, List.getElem_cons_zero, List.getElem_cons_succ]
        refine wpAnyH_take (i := 6) (v := ?_) rfl (by kernel_rfl) (by kernel_rfl) (by kernel_rfl) (fun _ _ _ h => h) (Or.inl ⟨by rfl, ?_⟩) (by assumption) ?_
        rotate_left
        · (intro w hSw; (try dsimp only at hSw); go_simp; try with_reducible rfl)
        simp only [Act.put, List.setIfInBounds_toArray, List.set_cons_zero, List.set_cons_succ, List.getElem_toArray, List.getElem_cons_zero, List.getElem_cons_succ]
        refine wpAnyH_take (i := 7) (v := ?_) rfl (by kernel_rfl) (by kernel_rfl) (by kernel_rfl) (fun _ _ _ h => h) (Or.inl ⟨by rfl, ?_⟩) (by assumption) ?_
        rotate_left
        · (intro w hSw; (try dsimp only at hSw); go_simp; try with_reducible rfl)
        simp only [Act.put, List.setIfInBounds_toArray, List.set_cons_zero, List.set_cons_succ, List.getElem_toArray, List.getElem_cons_zero, List.getElem_cons_succ]
        exact cont wp9 sw B sa ⟨HKp.out _ bwp9, hres, hno, hBl, hz, bwp9⟩
    · skip
      go_simp
      have hb : Below wdp.heap.size wdp (wdp.alloc (.cells #[.slice none 0 0, .slice none 0 0, .slice none 0 0, .slice none 0 0] 36)) := (Below.refl _ _).alloc (Nat.le_refl _) _
      refine hK.out _ _ (HKp.out _ (bwdp.trans (hb.mono bwdp.size))) (fun hHeld => ?_)
      clear hK K
      obtain ⟨wp10, hwp10⟩ : ∃ x, x = wdp.alloc (.cells #[.slice none 0 0, .slice none 0 0, .slice none 0 0, .slice none 0 0] 36) := ⟨_, rfl⟩
      obtain ⟨B, hB⟩ : ∃ x, x = wdp.heap.size := ⟨_, rfl⟩
      have hz : ZB wp10 B := by rw [hwp10, hB]; exact ZB.alloc wdp
      rw [← hwp10] at hb hHeld
      simp only [← hwp10, ← hB]
      have bwp10 : Below wdp.heap.size wdp wp10 := bwdp.trans (hb.mono bwdp.size)
      have hBl : wdp.heap.size ≤ B := by rw [hB]; exact bwdp.size
      clear hb hwp10 hB
      refine wpAnyH_ready (rs := [1]) (by kernel_rfl) (by simp) ?_
      refine AllReadyH.cons rfl (fun K hK => ?_) AllReadyH.nil
      go_simp
      go_at_call 8
      refine (HTp.out _ bwp10).mono ?_
      rintro e wp11 ⟨sa, rfl, hra, _, hb⟩
      have bwp11 : Below wdp.heap.size wdp wp11 := bwp10.trans (hb.mono bwp10.size)
      have hzq := hz
      have hz := hz.below hb
      go_wp2_with fail
      refine hK.out _ _ (HKp.out _ bwp11) (fun hHeld => ?_)
      clear hK K hb
      refine wpAnyH_ready (rs := [3]) (by kernel_rfl) (by simp) ?_
      refine AllReadyH.cons rfl (fun K hK => ?_) AllReadyH.nil
      go_simp
      go_at_call 15
      refine (hop _).mono ?_
      rintro e wp12 ⟨rfl, hb⟩
      have bwp12 : Below wdp.heap.size wdp wp12 := bwp11.trans (hb.mono bwp11.size)
      have hra := hra.below hb
      have hzq := hz
      have hz := hz.below hb
      go_wp2_with fail
      refine hK.out _ _ (HKp.out _ bwp12) (fun hHeld => ?_)
      clear hK K hb
      refine wpAnyH_ready (rs := [4]) (by kernel_rfl) (by simp) ?_
      refine AllReadyH.cons rfl (fun K hK => ?_) AllReadyH.nil
      go_simp
      go_at_call 14
      refine (HS.out sa _ _ hra).mono ?_
      rintro e wp13 ⟨sw, rfl, hres, hb⟩
      have bwp13 : Below wdp.heap.size wdp wp13 := bwp12.trans (hb.mono bwp12.size)
      have hzq := hz
      have hz := hz.below hb
      have hno : ∀ k, (sw.mv M').owns k → ¬ k = B := fun k hk e => by have h1 := (hres.own k hk).1; have h2 := hzq.1; omega
      have hres0 := hres
      have hres := hres.rebase bwp12.size
      go_wp2_with fail
      refine hK.out _ _ (HKp.out _ bwp13) (fun hHeld => ?_)
      clear hK K hb
      refine wpAnyH_take (i := 5) (v := ?_) rfl (by kernel_rfl) (by kernel_rfl) (by kernel_rfl) (fun _ _ _ h => h) (Or.inl ⟨by rfl, ?_⟩) (by assumption) ?_
      rotate_left
      · (intro w hSw; (try dsimp only at hSw); go_simp; try with_reducible rfl)
      simp only [Act.put, List.setIfInBounds_toArray, List.set_cons_zero, List.set_cons_succ, List.getElem_toArray, List.getElem_cons_zero, List.getElem_cons_succ]
      refine wpAnyH_take (i := 6) (v := ?_) rfl (by kernel_rfl) (by kernel_rfl) (by kernel_rfl) (fun _ _ _ h => h) (Or.inl ⟨by rfl, ?_⟩) (by assumption) ?_
      rotate_left
      · (intro w hSw; (try dsimp only at hSw); go_simp; try with_reducible rfl)
      simp only [Act.put, List.setIfInBounds_toArray, List.set_cons_zero, List.set_cons_succ, List.getElem_toArray, List.getElem_cons_zero, List.getElem_cons_succ]
      refine wpAnyH_take (i := 7) (v := ?_) rfl (by kernel_rfl) (by kernel_rfl) (by kernel_rfl) (fun _ _ _ h => h) (Or.inl ⟨by rfl, ?_⟩) (by assumption) ?_
      rotate_left
      · (intro w hSw; (try dsimp only at hSw); go_simp; try with_reducible rfl)
      simp only [Act.put, List.setIfInBounds_toArray, List.set_cons_zero, List.set_cons_succ, List.getElem_toArray, List.getElem_cons_zero, List.getElem_cons_succ]
      exact cont wp13 sw B sa ⟨HKp.out _ bwp13, hres, hno, hBl, hz, bwp13⟩
  rintro w3p sw Bp sap ⟨hHeld, hpp, hnop, hBlp, hzp, hbp⟩
  obtain ⟨hBsp, r0, r1, r2, r3, z0, z1, z2, z3⟩ := hzp
  refine wpAnyH_ready (rs := [9]) (by kernel_rfl) (by simp) ?_
  refine AllReadyH.cons rfl (fun K hK => ?_) AllReadyH.nil
  go_simp
  refine hK.out _ _ (HKp.out _ ((((hbp.setCell hBlp _).setCell hBlp _).setCell hBlp _).setCell hBlp _)) (fun hHeld => ?_)
  clear hK K
  refine wpAnyH_take (i := 10) (v := ?_) rfl (by kernel_rfl) (by kernel_rfl) (by kernel_rfl) (fun _ _ _ h => h) (Or.inl ⟨by rfl, ?_⟩) (by assumption) ?_
  rotate_left
  · (intro w hSw; (try dsimp only at hSw); go_simp; try with_reducible rfl)
  simp only [Act.put, List.setIfInBounds_toArray, List.set_cons_zero, List.set_cons_succ, List.getElem_toArray, List.getElem_cons_zero, List.getElem_cons_succ]
  refine wpAnyH_done (by kernel_rfl) ?_ _
  obtain ⟨wS, hwS⟩ : ∃ x, x = ((((w3p.setCell ⟨Bp, 0, none⟩ (.slice sw.a1 M'.mem.length sw.c1)).setCell ⟨Bp, 1, none⟩ (.slice sw.a2 M'.pend.length sw.c2)).setCell ⟨Bp, 2, none⟩ (.slice sw.a3 M'.tlb.length sw.c3)).setCell ⟨Bp, 3, none⟩ (.slice sw.a4 M'.wc.length sw.c4)) := ⟨_, rfl⟩
  rw [← hwS]
  have hzwS : wS.heap.size = w3p.heap.size := by rw [hwS]; simp
  have twS : Touch (fun k => k = Bp) w3p wS := by
    rw [hwS]
    exact Touch.put (Touch.put (Touch.put (Touch.put (Touch.none _) _ _ (by rfl)) _ _ (by rfl)) _ _ (by rfl)) _ _ (by rfl)
  have qwS : wS.cell? ⟨Bp, 0, none⟩ = some (.slice sw.a1 M'.mem.length sw.c1) ∧ wS.cell? ⟨Bp, 1, none⟩ = some (.slice sw.a2 M'.pend.length sw.c2) ∧ wS.cell? ⟨Bp, 2, none⟩ = some (.slice sw.a3 M'.tlb.length sw.c3) ∧ wS.cell? ⟨Bp, 3, none⟩ = some (.slice sw.a4 M'.wc.length sw.c4) := ⟨by rw [hwS]; simp [go_sem, r0], by rw [hwS]; simp [go_sem, r1], by rw [hwS]; simp [go_sem, r2], by rw [hwS]; simp [go_sem, r3]⟩
  have rwS : MRow wS wdp.heap.size (sw.mv M') M' := hpp.touch twS (fun k hk e => hnop k hk e)
  have bwS : Below wdp.heap.size wdp wS := Touch.below hbp twS hbp.size (fun k hk => by omega)
  have ewS := bwS.size
  have np : Bp < wS.heap.size := by omega
  clear hwS twS r0 r1 r2 r3 z0 z1 z2 z3 hHeld hbp hpp
  have hd1 := HZp.out
  have bS : Below (w.heap.size + 2) wb wS := b1d.trans (bwS.mono (by omega))
  obtain ⟨x1, x2, x3, x4⟩ := HBOX.out wS bS
  have htS := HTO.out wS bS
  have HRS : Hid (MRow wS wdp.heap.size (sw.mv M') M') := rwS
  have HBS : Hid (Below (w.heap.size + 2) wb wS) := bS
  have HQS : Hid (wS.cell? ⟨Bp, 0, none⟩ = some (.slice sw.a1 M'.mem.length sw.c1) ∧ wS.cell? ⟨Bp, 1, none⟩ = some (.slice sw.a2 M'.pend.length sw.c2) ∧ wS.cell? ⟨Bp, 2, none⟩ = some (.slice sw.a3 M'.tlb.length sw.c3) ∧ wS.cell? ⟨Bp, 3, none⟩ = some (.slice sw.a4 M'.wc.length sw.c4)) := qwS
  have hszS : w.heap.size + 2 ≤ wS.heap.size := by omega
  clear bS qwS rwS bwS b1 b1d HKp HTp bwdp hnop hd1
  go_wp2_with fail
  refine htS.mono ?_
  rintro e w4 ⟨sx, rfl, hrx0, hapx, hb4⟩
  have s4 := hb4.size
  obtain ⟨wX, hwX⟩ : ∃ wX, wX = w4.alloc (.cells #[.slice sx.a1 M.mem.length sx.c1, .slice sx.a2 M.pend.length sx.c2, .slice sx.a3 M.tlb.length sx.c3, .slice sx.a4 M.wc.length sx.c4] 36) := ⟨_, rfl⟩
  have hzX : wX.heap.size = w4.heap.size + 1 := by rw [hwX]; simp
  have bSX : Below wS.heap.size wS wX := by rw [hwX]; exact hb4.alloc (by omega) _
  have rX : MRow wX wS.heap.size (sx.mv M) M := by rw [hwX]; exact hrx0.below ((Below.refl _ _).alloc (Nat.le_refl _) _)
  have qX : wX.cell? ⟨w4.heap.size, 0, none⟩ = some (.slice sx.a1 M.mem.length sx.c1) ∧ wX.cell? ⟨w4.heap.size, 1, none⟩ = some (.slice sx.a2 M.pend.length sx.c2) ∧ wX.cell? ⟨w4.heap.size, 2, none⟩ = some (.slice sx.a3 M.tlb.length sx.c3) ∧ wX.cell? ⟨w4.heap.size, 3, none⟩ = some (.slice sx.a4 M.wc.length sx.c4) := by rw [hwX]; simp [go_sem]
  have HRX : Hid (MRow wX wS.heap.size (sx.mv M) M) := rX
  have HAPX : Hid ((sx.mv M).apart) := hapx
  have HOX : Hid (∀ k, (sx.mv M).owns k → wS.heap.size ≤ k ∧ k < w4.heap.size) := hrx0.own
  have HBSX : Hid (Below wS.heap.size wS wX) := bSX
  have HQX : Hid (wX.cell? ⟨w4.heap.size, 0, none⟩ = some (.slice sx.a1 M.mem.length sx.c1) ∧ wX.cell? ⟨w4.heap.size, 1, none⟩ = some (.slice sx.a2 M.pend.length sx.c2) ∧ wX.cell? ⟨w4.heap.size, 2, none⟩ = some (.slice sx.a3 M.tlb.length sx.c3) ∧ wX.cell? ⟨w4.heap.size, 3, none⟩ = some (.slice sx.a4 M.wc.length sx.c4)) := qX
  have HWX : Hid (wX = _) := hwX
  have HZX : Hid (wX.heap.size = w4.heap.size + 1) := hzX
  clear htS hrx0 hb4 hapx hwX bSX rX qX hzX x1 x2 x3 x4
  go_wp2_with fail
  rw [← HWX.out]
  have HKX : Hid (∀ wY, Below wX.heap.size wX wY → (wY.cell? ⟨w4.heap.size, 0, none⟩ = some (.slice sx.a1 M.mem.length sx.c1) ∧ wY.cell? ⟨w4.heap.size, 1, none⟩ = some (.slice sx.a2 M.pend.length sx.c2) ∧ wY.cell? ⟨w4.heap.size, 2, none⟩ = some (.slice sx.a3 M.tlb.length sx.c3) ∧ wY.cell? ⟨w4.heap.size, 3, none⟩ = some (.slice sx.a4 M.wc.length sx.c4)) ∧ (wY.cell? ⟨w.heap.size + 1, 0, none⟩ = some (.int .i64 o.kind) ∧ wY.cell? ⟨w.heap.size + 1, 1, none⟩ = some (.int .i64 o.a) ∧ wY.cell? ⟨w.heap.size + 1, 2, none⟩ = some (.int .i64 o.b) ∧ wY.cell? ⟨w.heap.size + 1, 3, none⟩ = some (.int .u64 o.word))) := fun wY hY => by
    have h0 := HZX.out
    obtain ⟨a, b, c, d⟩ := HQX.out
    exact ⟨⟨(hY.cell (by simp; omega)).trans a, (hY.cell (by simp; omega)).trans b, (hY.cell (by simp; omega)).trans c, (hY.cell (by simp; omega)).trans d⟩, HOPB.out wY (HBS.out.trans ((HBSX.out.trans (hY.mono HBSX.out.size)).mono (by omega)))⟩
  refine wp_region_held_drew (S := fun wX => (wX.cell? ⟨w4.heap.size, 0, none⟩ = some (.slice sx.a1 M.mem.length sx.c1) ∧ wX.cell? ⟨w4.heap.size, 1, none⟩ = some (.slice sx.a2 M.pend.length sx.c2) ∧ wX.cell? ⟨w4.heap.size, 2, none⟩ = some (.slice sx.a3 M.tlb.length sx.c3) ∧ wX.cell? ⟨w4.heap.size, 3, none⟩ = some (.slice sx.a4 M.wc.length sx.c4)) ∧ (wX.cell? ⟨w.heap.size + 1, 0, none⟩ = some (.int .i64 o.kind) ∧ wX.cell? ⟨w.heap.size + 1, 1, none⟩ = some (.int .i64 o.a) ∧ wX.cell? ⟨w.heap.size + 1, 2, none⟩ = some (.int .i64 o.b) ∧ wX.cell? ⟨w.heap.size + 1, 3, none⟩ = some (.int .u64 o.word))) (by kernel_rfl) (HKX.out _ ((Below.refl _ _).drew)) (fun hHeld => ?_)
  obtain ⟨wdg, hwd⟩ : ∃ x, x = wX.drew := ⟨_, rfl⟩
  have hzd : wdg.heap.size = wX.heap.size := by rw [hwd]; rfl
  have bXd : Below wX.heap.size wX wdg := by rw [hwd]; exact (Below.refl _ _).drew
  have HKg : Hid (∀ wY, Below wdg.heap.size wdg wY → (wY.cell? ⟨w4.heap.size, 0, none⟩ = some (.slice sx.a1 M.mem.length sx.c1) ∧ wY.cell? ⟨w4.heap.size, 1, none⟩ = some (.slice sx.a2 M.pend.length sx.c2) ∧ wY.cell? ⟨w4.heap.size, 2, none⟩ = some (.slice sx.a3 M.tlb.length sx.c3) ∧ wY.cell? ⟨w4.heap.size, 3, none⟩ = some (.slice sx.a4 M.wc.length sx.c4)) ∧ (wY.cell? ⟨w.heap.size + 1, 0, none⟩ = some (.int .i64 o.kind) ∧ wY.cell? ⟨w.heap.size + 1, 1, none⟩ = some (.int .i64 o.a) ∧ wY.cell? ⟨w.heap.size + 1, 2, none⟩ = some (.int .i64 o.b) ∧ wY.cell? ⟨w.heap.size + 1, 3, none⟩ = some (.int .u64 o.word))) := fun wY hY => HKX.out wY (bXd.trans (hY.mono (by omega)))
  have hrx : MRow wdg wS.heap.size (sx.mv M) M := HRX.out.below bXd
  have bwdg : Below wdg.heap.size wdg wdg := Below.refl _ _
  rw [← hwd]
  rw [← hwd] at hHeld
  have HZg : Hid (wdg.heap.size = wX.heap.size) := hzd
  clear hwd hzd
  apply both_ways3 (F := fun (w3 : World) (sg : SV) (B : Nat) => (((w3.cell? ⟨w4.heap.size, 0, none⟩ = some (.slice sx.a1 M.mem.length sx.c1) ∧ w3.cell? ⟨w4.heap.size, 1, none⟩ = some (.slice sx.a2 M.pend.length sx.c2) ∧ w3.cell? ⟨w4.heap.size, 2, none⟩ = some (.slice sx.a3 M.tlb.length sx.c3) ∧ w3.cell? ⟨w4.heap.size, 3, none⟩ = some (.slice sx.a4 M.wc.length sx.c4)) ∧ (w3.cell? ⟨w.heap.size + 1, 0, none⟩ = some (.int .i64 o.kind) ∧ w3.cell? ⟨w.heap.size + 1, 1, none⟩ = some (.int .i64 o.a) ∧ w3.cell? ⟨w.heap.size + 1, 2, none⟩ = some (.int .i64 o.b) ∧ w3.cell? ⟨w.heap.size + 1, 3, none⟩ = some (.int .u64 o.word))) ∧ MRow w3 wdg.heap.size (sg.mv M') M' ∧ (sg.mv M').apart ∧ (∀ k, (sg.mv M').owns k → ¬ k = B) ∧ wdg.heap.size ≤ B ∧ ZB w3 B ∧ Below wdg.heap.size wdg w3))
  · intro cont
    refine wpAnyH_take (i := 0) (v := ?_) rfl (by kernel_rfl) (by kernel_rfl) (by kernel_rfl) (fun _ _ _ h => h) (Or.inl ⟨by rfl, ?_⟩) (by assumption) ?_
    rotate_left
    · (intro w hSw; (try dsimp only at hSw); go_simp; try with_reducible rfl)
    simp only [Act.put, List.setIfInBounds_toArray, List.set_cons_zero, List.set_cons_succ, List.getElem_toArray, List.getElem_cons_zero]
    refine wpAnyH_take (i := 1) (v := ?_) rfl (by kernel_rfl) (by kernel_rfl) (by kernel_rfl) (fun _ _ _ h => h) (Or.inl ⟨by rfl, ?_⟩) (by assumption) ?_
    rotate_left
    · (intro w hSw; (try dsimp only at hSw); go_simp; try with_reducible rfl)
    simp only [Act.put, List.setIfInBounds_toArray, List.set_cons_zero, List.set_cons_succ, List.getElem_toArray, List.getElem_cons_zero, List.getElem_cons_succ]
    refine wpAnyH_ready (rs := [2, 7]) (by kernel_rfl) (by simp) ?_
    refine AllReadyH.cons rfl (fun K hK => ?_) (AllReadyH.cons rfl (fun K hK => ?_) AllReadyH.nil)
    · skip
      go_simp
      go_at_call 15
      refine (hop _).mono ?_
      rintro e wg1 ⟨rfl, hb⟩
      have bwg1 : Below wdg.heap.size wdg wg1 := bwdg.trans (hb.mono bwdg.size)
      have hrx := hrx.below hb
      go_wp2_with fail
      refine hK.out _ _ (HKg.out _ bwg1) (fun hHeld => ?_)
      clear hK K hb
      refine wpAnyH_ready (rs := [3, 7]) (by kernel_rfl) (by simp) ?_
      refine AllReadyH.cons rfl (fun K hK => ?_) (AllReadyH.cons rfl (fun K hK => ?_) AllReadyH.nil)
      · skip
        go_simp
        go_at_call 16
        refine (HI.out sx _ _ hrx).mono ?_
        rintro e wg2 ⟨sg, rfl, hres, hap, hb⟩
        have bwg2 : Below wdg.heap.size wdg wg2 := bwg1.trans (hb.mono bwg1.size)
        have hres0 := hres
        have hres := hres.rebase bwg1.size
        go_wp2_with fail
        refine hK.out _ _ (HKg.out _ bwg2) (fun hHeld => ?_)
        clear hK K hb
        refine wpAnyH_take (i := 4) (v := ?_) rfl (by kernel_rfl) (by kernel_rfl) (by kernel_rfl) (fun _ _ _ h => h) (Or.inl ⟨by rfl, ?_⟩) (by assumption) ?_
        rotate_left
        · (intro w hSw; (try dsimp only at hSw); go_simp; try with_reducible rfl)
        simp only [Act.put, List.setIfInBounds_toArray, List.set_cons_zero, List.set_cons_succ, List.getElem_toArray, List.getElem_cons_zero, List.getElem_cons_succ]
        refine wpAnyH_take (i := 5) (v := ?_) rfl (by kernel_rfl) (by kernel_rfl) (by kernel_rfl) (fun _ _ _ h => h) (Or.inl ⟨by rfl, ?_⟩) (by assumption) ?_
        rotate_left
        · (intro w hSw; (try dsimp only at hSw); go_simp; try with_reducible rfl)
        simp only [Act.put, List.setIfInBounds_toArray, List.set_cons_zero, List.set_cons_succ, List.getElem_toArray, List.getElem_cons_zero, List.getElem_cons_succ]
        refine wpAnyH_take (i := 6) (v := ?_) rfl (by kernel_rfl) (by kernel_rfl) (by kernel_rfl) (fun _ _ _ h => h) (Or.inl ⟨by rfl, ?_⟩) (by assumption) ?_
        rotate_left
        · (intro w hSw; (try dsimp only at hSw); go_simp; try with_reducible rfl)
        simp only [Act.put, List.setIfInBounds_toArray, List.set_cons_zero, List.set_cons_succ, List.getElem_toArray, List.getElem_cons_zero, List.getElem_cons_succ]
        refine wpAnyH_ready (rs := [7]) (by kernel_rfl) (by simp) ?_
        refine AllReadyH.cons rfl (fun K hK => ?_) AllReadyH.nil
        go_simp
        have hb : Below wg2.heap.size wg2 (wg2.alloc (.cells #[.slice none 0 0, .slice none 0 0, .slice none 0 0, .slice none 0 0] 36)) := (Below.refl _ _).alloc (Nat.le_refl _) _
        refine hK.out _ _ (HKg.out _ (bwg2.trans (hb.mono bwg2.size))) (fun hHeld => ?_)
        clear hK K
        obtain ⟨wg3, hwg3⟩ : ∃ x, x = wg2.alloc (.cells #[.slice none 0 0, .slice none 0 0, .slice none 0 0, .slice none 0 0] 36) := ⟨_, rfl⟩
        obtain ⟨B, hB⟩ : ∃ x, x = wg2.heap.size := ⟨_, rfl⟩
        have hz : ZB wg3 B := by rw [hwg3, hB]; exact ZB.alloc wg2
        rw [← hwg3] at hb hHeld
        simp only [← hwg3, ← hB]
        have bwg3 : Below wdg.heap.size wdg wg3 := bwg2.trans (hb.mono bwg2.size)
        have hBl : wdg.heap.size ≤ B := by rw [hB]; exact bwg2.size
        have hno : ∀ k, (sg.mv M').owns k → ¬ k = B := fun k hk e => by have h1 := (hres0.own k hk).2; omega
        have hres := hres.below hb
        clear hb hwg3 hB
        exact cont wg3 sg B  ⟨HKg.out _ bwg3, hres, hap, hno, hBl, hz, bwg3⟩
      · skip
        go_simp
        have hb : Below wg1.heap.size wg1 (wg1.alloc (.cells #[.slice none 0 0, .slice none 0 0, .slice none 0 0, .slice none 0 0] 36)) := (Below.refl _ _).alloc (Nat.le_refl _) _
        refine hK.out _ _ (HKg.out _ (bwg1.trans (hb.mono bwg1.size))) (fun hHeld => ?_)
        clear hK K
        obtain ⟨wg4, hwg4⟩ : ∃ x, x = wg1.alloc (.cells #[.slice none 0 0, .slice none 0 0, .slice none 0 0, .slice none 0 0] 36) := ⟨_, rfl⟩
        obtain ⟨B, hB⟩ : ∃ x, x = wg1.heap.size := ⟨_, rfl⟩
        have hz : ZB wg4 B := by rw [hwg4, hB]; exact ZB.alloc wg1
        rw [← hwg4] at hb hHeld
        simp only [← hwg4, ← hB]
        have bwg4 : Below wdg.heap.size wdg wg4 := bwg1.trans (hb.mono bwg1.size)
        have hBl : wdg.heap.size ≤ B := by rw [hB]; exact bwg1.size
        have hrx := hrx.below hb
        clear hb hwg4 hB
        refine wpAnyH_ready (rs := [3]) (by kernel_rfl) (by simp) ?_
        refine AllReadyH.cons rfl (fun K hK => ?_) AllReadyH.nil
        go_simp
        go_at_call 16
        refine (HI.out sx _ _ hrx).mono ?_
        rintro e wg5 ⟨sg, rfl, hres, hap, hb⟩
        have bwg5 : Below wdg.heap.size wdg wg5 := bwg4.trans (hb.mono bwg4.size)
        have hzq := hz
        have hz := hz.below hb
        have hno : ∀ k, (sg.mv M').owns k → ¬ k = B := fun k hk e => by have h1 := (hres.own k hk).1; have h2 := hzq.1; omega
        have hres0 := hres
        have hres := hres.rebase bwg4.size
        go_wp2_with fail
        refine hK.out _ _ (HKg.out _ bwg5) (fun hHeld => ?_)
        clear hK K hb
        refine wpAnyH_take (i := 4) (v := ?_) rfl (by kernel_rfl) (by kernel_rfl) (by kernel_rfl) (fun _ _ _ h => h) (Or.inl ⟨by rfl, ?_⟩) (by assumption) ?_
        rotate_left
        · (intro w hSw; (try dsimp only at hSw); go_simp; try with_reducible rfl)
        simp only [Act.put, List.setIfInBounds_toArray, List.set_cons_zero, List.set_cons_succ, List.getElem_toArray, List.getElem_cons_zero, List.getElem_cons_succ]
        refine wpAnyH_take (i := 5) (v := ?_) rfl (by kernel_rfl) (by kernel_rfl) (by kernel_rfl) (fun _ _ _ h => h) (Or.inl ⟨by rfl, ?_⟩) (by assumption) ?_
        rotate_left
        · (intro w hSw; (try dsimp only at hSw); go_simp; try with_reducible rfl)
        simp only [Act.put, List.setIfInBounds_toArray, List.set_cons_zero, List.set_cons_succ, List.getElem_toArray, List.getElem_cons_zero, List.getElem_cons_succ]
        refine wpAnyH_take (i := 6) (v := ?_) rfl (by kernel_rfl) (by kernel_rfl) (by kernel_rfl) (fun _ _ _ h => h) (Or.inl ⟨by rfl, ?_⟩) (by assumption) ?_
        rotate_left
        · (intro w hSw; (try dsimp only at hSw); go_simp; try with_reducible rfl)
        simp only [Act.put, List.setIfInBounds_toArray, List.set_cons_zero, List.set_cons_succ, List.getElem_toArray, List.getElem_cons_zero, List.getElem_cons_succ]
        exact cont wg5 sg B  ⟨HKg.out _ bwg5, hres, hap, hno, hBl, hz, bwg5⟩
    · skip
      go_simp
      have hb : Below wdg.heap.size wdg (wdg.alloc (.cells #[.slice none 0 0, .slice none 0 0, .slice none 0 0, .slice none 0 0] 36)) := (Below.refl _ _).alloc (Nat.le_refl _) _
      refine hK.out _ _ (HKg.out _ (bwdg.trans (hb.mono bwdg.size))) (fun hHeld => ?_)
      clear hK K
      obtain ⟨wg6, hwg6⟩ : ∃ x, x = wdg.alloc (.cells #[.slice none 0 0, .slice none 0 0, .slice none 0 0, .slice none 0 0] 36) := ⟨_, rfl⟩
      obtain ⟨B, hB⟩ : ∃ x, x = wdg.heap.size := ⟨_, rfl⟩
      have hz : ZB wg6 B := by rw [hwg6, hB]; exact ZB.alloc wdg
      rw [← hwg6] at hb hHeld
      simp only [← hwg6, ← hB]
      have bwg6 : Below wdg.heap.size wdg wg6 := bwdg.trans (hb.mono bwdg.size)
      have hBl : wdg.heap.size ≤ B := by rw [hB]; exact bwdg.size
      have hrx := hrx.below hb
      clear hb hwg6 hB
      refine wpAnyH_ready (rs := [2]) (by kernel_rfl) (by simp) ?_
      refine AllReadyH.cons rfl (fun K hK => ?_) AllReadyH.nil
      go_simp
      go_at_call 15
      refine (hop _).mono ?_
      rintro e wg7 ⟨rfl, hb⟩
      have bwg7 : Below wdg.heap.size wdg wg7 := bwg6.trans (hb.mono bwg6.size)
      have hrx := hrx.below hb
      have hzq := hz
      have hz := hz.below hb
      go_wp2_with fail
      refine hK.out _ _ (HKg.out _ bwg7) (fun hHeld => ?_)
      clear hK K hb
      refine wpAnyH_ready (rs := [3]) (by kernel_rfl) (by simp) ?_
      refine AllReadyH.cons rfl (fun K hK => ?_) AllReadyH.nil
      go_simp
      go_at_call 16
      refine (HI.out sx _ _ hrx).mono ?_
      rintro e wg8 ⟨sg, rfl, hres, hap, hb⟩
      have bwg8 : Below wdg.heap.size wdg wg8 := bwg7.trans (hb.mono bwg7.size)
      have hzq := hz
      have hz := hz.below hb
      have hno : ∀ k, (sg.mv M').owns k → ¬ k = B := fun k hk e => by have h1 := (hres.own k hk).1; have h2 := hzq.1; omega
      have hres0 := hres
      have hres := hres.rebase bwg7.size
      go_wp2_with fail
      refine hK.out _ _ (HKg.out _ bwg8) (fun hHeld => ?_)
      clear hK K hb
      refine wpAnyH_take (i := 4) (v := ?_) rfl (by kernel_rfl) (by kernel_rfl) (by kernel_rfl) (fun _ _ _ h => h) (Or.inl ⟨by rfl, ?_⟩) (by assumption) ?_
      rotate_left
      · (intro w hSw; (try dsimp only at hSw); go_simp; try with_reducible rfl)
      simp only [Act.put, List.setIfInBounds_toArray, List.set_cons_zero, List.set_cons_succ, List.getElem_toArray, List.getElem_cons_zero, List.getElem_cons_succ]
      refine wpAnyH_take (i := 5) (v := ?_) rfl (by kernel_rfl) (by kernel_rfl) (by kernel_rfl) (fun _ _ _ h => h) (Or.inl ⟨by rfl, ?_⟩) (by assumption) ?_
      rotate_left
      · (intro w hSw; (try dsimp only at hSw); go_simp; try with_reducible rfl)
      simp only [Act.put, List.setIfInBounds_toArray, List.set_cons_zero, List.set_cons_succ, List.getElem_toArray, List.getElem_cons_zero, List.getElem_cons_succ]
      refine wpAnyH_take (i := 6) (v := ?_) rfl (by kernel_rfl) (by kernel_rfl) (by kernel_rfl) (fun _ _ _ h => h) (Or.inl ⟨by rfl, ?_⟩) (by assumption) ?_
      rotate_left
      · (intro w hSw; (try dsimp only at hSw); go_simp; try with_reducible rfl)
      simp only [Act.put, List.setIfInBounds_toArray, List.set_cons_zero, List.set_cons_succ, List.getElem_toArray, List.getElem_cons_zero, List.getElem_cons_succ]
      exact cont wg8 sg B  ⟨HKg.out _ bwg8, hres, hap, hno, hBl, hz, bwg8⟩
  rintro w3g sg Bg ⟨hHeld, hpg, hapg, hnog, hBlg, hzg, hbg⟩
  obtain ⟨hBsg, r0, r1, r2, r3, z0, z1, z2, z3⟩ := hzg
  refine wpAnyH_ready (rs := [8]) (by kernel_rfl) (by simp) ?_
  refine AllReadyH.cons rfl (fun K hK => ?_) AllReadyH.nil
  go_simp
  refine hK.out _ _ (HKg.out _ ((((hbg.setCell hBlg _).setCell hBlg _).setCell hBlg _).setCell hBlg _)) (fun hHeld => ?_)
  clear hK K
  refine wpAnyH_take (i := 9) (v := ?_) rfl (by kernel_rfl) (by kernel_rfl) (by kernel_rfl) (fun _ _ _ h => h) (Or.inl ⟨by rfl, ?_⟩) (by assumption) ?_
  rotate_left
  · (intro w hSw; (try dsimp only at hSw); go_simp; try with_reducible rfl)
  simp only [Act.put, List.setIfInBounds_toArray, List.set_cons_zero, List.set_cons_succ, List.getElem_toArray, List.getElem_cons_zero, List.getElem_cons_succ]
  refine wpAnyH_done (by kernel_rfl) ?_ _
  obtain ⟨wG, hwG⟩ : ∃ x, x = ((((w3g.setCell ⟨Bg, 0, none⟩ (.slice sg.a1 M'.mem.length sg.c1)).setCell ⟨Bg, 1, none⟩ (.slice sg.a2 M'.pend.length sg.c2)).setCell ⟨Bg, 2, none⟩ (.slice sg.a3 M'.tlb.length sg.c3)).setCell ⟨Bg, 3, none⟩ (.slice sg.a4 M'.wc.length sg.c4)) := ⟨_, rfl⟩
  rw [← hwG]
  have hzwG : wG.heap.size = w3g.heap.size := by rw [hwG]; simp
  have twG : Touch (fun k => k = Bg) w3g wG := by
    rw [hwG]
    exact Touch.put (Touch.put (Touch.put (Touch.put (Touch.none _) _ _ (by rfl)) _ _ (by rfl)) _ _ (by rfl)) _ _ (by rfl)
  have qwG : wG.cell? ⟨Bg, 0, none⟩ = some (.slice sg.a1 M'.mem.length sg.c1) ∧ wG.cell? ⟨Bg, 1, none⟩ = some (.slice sg.a2 M'.pend.length sg.c2) ∧ wG.cell? ⟨Bg, 2, none⟩ = some (.slice sg.a3 M'.tlb.length sg.c3) ∧ wG.cell? ⟨Bg, 3, none⟩ = some (.slice sg.a4 M'.wc.length sg.c4) := ⟨by rw [hwG]; simp [go_sem, r0], by rw [hwG]; simp [go_sem, r1], by rw [hwG]; simp [go_sem, r2], by rw [hwG]; simp [go_sem, r3]⟩
  have rwG : MRow wG wdg.heap.size (sg.mv M') M' := hpg.touch twG (fun k hk e => hnog k hk e)
  have bwG : Below wdg.heap.size wdg wG := Touch.below hbg twG hbg.size (fun k hk => by omega)
  have ewG := bwG.size
  have ng : Bg < wG.heap.size := by omega
  clear hwG twG r0 r1 r2 r3 z0 z1 z2 z3 hHeld hbg hpg
  have hd1 := HZg.out
  have bXG : Below wX.heap.size wX wG := bXd.trans (bwG.mono (by omega))
  have rG : MRow wG wX.heap.size (sg.mv M') M' := rwG.rebase (by omega)
  have hXB : wX.heap.size ≤ Bg := by omega
  have hzX := HZX.out
  have bSG : Below wS.heap.size wS wG := HBSX.out.trans (bXG.mono (by omega))
  have rSG := HRS.out.below bSG
  have heqG := eqMachine_same (sg.mv M') (sw.mv M') M' _ _ wG hsm' rG rSG
  have eSG : wG.cell? ⟨Bp, 0, none⟩ = some (.slice sw.a1 M'.mem.length sw.c1) ∧ wG.cell? ⟨Bp, 1, none⟩ = some (.slice sw.a2 M'.pend.length sw.c2) ∧ wG.cell? ⟨Bp, 2, none⟩ = some (.slice sw.a3 M'.tlb.length sw.c3) ∧ wG.cell? ⟨Bp, 3, none⟩ = some (.slice sw.a4 M'.wc.length sw.c4) := by
    obtain ⟨a, b, c, d⟩ := HQS.out
    exact ⟨(bSG.cell (by simp; omega)).trans a, (bSG.cell (by simp; omega)).trans b, (bSG.cell (by simp; omega)).trans c, (bSG.cell (by simp; omega)).trans d⟩
  obtain ⟨x1, x2, x3, x4⟩ := eSG
  obtain ⟨y1', y2', y3', y4'⟩ := qwG
  have HRG : Hid (MRow wG wX.heap.size (sg.mv M') M') := rG
  have HAPG : Hid ((sg.mv M').apart) := hapg
  have HOG : Hid (∀ k, (sg.mv M').owns k → wX.heap.size ≤ k ∧ ¬ k = Bg) := fun k hk => ⟨(rG.own k hk).1, hnog k hk⟩
  have HBXG : Hid (Below wX.heap.size wX wG) := bXG
  have HBSG : Hid (Below wS.heap.size wS wG) := bSG
  have HQG : Hid (wG.cell? ⟨Bg, 0, none⟩ = some (.slice sg.a1 M'.mem.length sg.c1) ∧ wG.cell? ⟨Bg, 1, none⟩ = some (.slice sg.a2 M'.pend.length sg.c2) ∧ wG.cell? ⟨Bg, 2, none⟩ = some (.slice sg.a3 M'.tlb.length sg.c3) ∧ wG.cell? ⟨Bg, 3, none⟩ = some (.slice sg.a4 M'.wc.length sg.c4)) := ⟨y1', y2', y3', y4'⟩
  have s5 := HBSX.out.size
  clear rG rwG bXG bSG rSG hapg hnog HKg bwdg bXd hrx hd1 bwG
  go_wp2_with fail
  refine heqG.mono ?_
  rintro e w6 ⟨rfl, hb6⟩
  have s6 := hb6.size
  have b6 : Below (w.heap.size + 2) wb w6 := HBS.out.trans ((HBSG.out.trans (hb6.mono (by omega))).mono (by omega))
  have bX6 : Below wX.heap.size wX w6 := HBXG.out.trans (hb6.mono (by omega))
  have HKP : Hid (∀ wY, Below w6.heap.size w6 wY → (wY.cell? ⟨w.heap.size, 0, none⟩ = some (.slice s.a1 M.mem.length s.c1) ∧ wY.cell? ⟨w.heap.size, 1, none⟩ = some (.slice s.a2 M.pend.length s.c2) ∧ wY.cell? ⟨w.heap.size, 2, none⟩ = some (.slice s.a3 M.tlb.length s.c3) ∧ wY.cell? ⟨w.heap.size, 3, none⟩ = some (.slice s.a4 M.wc.length s.c4)) ∧ (wY.cell? ⟨w4.heap.size, 0, none⟩ = some (.slice sx.a1 M.mem.length sx.c1) ∧ wY.cell? ⟨w4.heap.size, 1, none⟩ = some (.slice sx.a2 M.pend.length sx.c2) ∧ wY.cell? ⟨w4.heap.size, 2, none⟩ = some (.slice sx.a3 M.tlb.length sx.c3) ∧ wY.cell? ⟨w4.heap.size, 3, none⟩ = some (.slice sx.a4 M.wc.length sx.c4))) := fun wY hY => by
    refine ⟨HBOX.out wY (b6.trans (hY.mono (by omega))), ?_⟩
    obtain ⟨a, b, c, d⟩ := HQX.out
    have bY : Below wX.heap.size wX wY := bX6.trans (hY.mono (by omega))
    exact ⟨(bY.cell (by simp; omega)).trans a, (bY.cell (by simp; omega)).trans b, (bY.cell (by simp; omega)).trans c, (bY.cell (by simp; omega)).trans d⟩
  have HRX6 : Hid (∀ wY, Below w6.heap.size w6 wY → MRow wY wS.heap.size (sx.mv M) M) := fun wY hY => HRX.out.below (bX6.trans (hY.mono (by omega)))
  have k6 := HKP.out w6 (Below.refl _ _)
  obtain ⟨⟨p1, p2, p3, p4⟩, p5, p6, p7, p8⟩ := k6
  have HB6 : Hid (Below _ wG w6) := hb6
  have HBB6 : Hid (Below _ wb w6) := b6
  have hty := HTO.out
  clear heqG hb6 b6 bX6 x1 x2 x3 x4 y1' y2' y3' y4'
  go_wp2_with fail
  go_region_held3 (fun w' => (w'.cell? ⟨w.heap.size, 0, none⟩ = some (.slice s.a1 M.mem.length s.c1) ∧ w'.cell? ⟨w.heap.size, 1, none⟩ = some (.slice s.a2 M.pend.length s.c2) ∧ w'.cell? ⟨w.heap.size, 2, none⟩ = some (.slice s.a3 M.tlb.length s.c3) ∧ w'.cell? ⟨w.heap.size, 3, none⟩ = some (.slice s.a4 M.wc.length s.c4)) ∧ (w'.cell? ⟨w4.heap.size, 0, none⟩ = some (.slice sx.a1 M.mem.length sx.c1) ∧ w'.cell? ⟨w4.heap.size, 1, none⟩ = some (.slice sx.a2 M.pend.length sx.c2) ∧ w'.cell? ⟨w4.heap.size, 2, none⟩ = some (.slice sx.a3 M.tlb.length sx.c3) ∧ w'.cell? ⟨w4.heap.size, 3, none⟩ = some (.slice sx.a4 M.wc.length sx.c4)))
    ((refine HKP.out _ ?_; repeat (first | exact Below.refl _ _ | with_reducible refine Below.drew ?_ | refine Below.trans ?_ (hb8.mono (by first | omega | (simp <;> omega))) | refine Below.trans ?_ (hb7.mono (by first | omega | (simp <;> omega))))))
    (first
      | (go_at_call 8; refine (HTO.out _ (by first | exact HBB6.out | exact HBB6.out.drew)).mono ?_; rintro e w7 ⟨sy, rfl, hry, _, hb7⟩; have s7 := hb7.size; simp at s7)
      | (go_at_call 10; refine (eqMachine_same (sx.mv M) (sy.mv M) M _ _ _ hsm (HRX6.out _ ((Below.refl _ _).drew.trans (hb7.mono (by simp)))) hry).mono ?_; rintro e w8 ⟨rfl, hb8⟩))
  have s8 := hb8.size
  have b68 : Below w6.heap.size w6 w8 := (Below.refl _ _).drew.trans ((hb7.mono (by simp)).trans (hb8.mono (by omega)))
  obtain ⟨p1, p2, p3, p4⟩ := (HKP.out w8 b68).2
  have hmx := markMachine_any (sx.mv M) M _ w8 hsm (HRX6.out w8 b68) HAPX.out
  have bG8 : Below wG.heap.size wG w8 := HB6.out.trans (b68.mono (by omega))
  have HRG8 : Hid (MRow w8 wX.heap.size (sg.mv M') M') := HRG.out.below bG8
  have HBG8 : Hid (Below _ wG w8) := bG8
  have HBB8 : Hid (Below _ wb w8) := HBB6.out.trans (b68.mono (by omega))
  have HBS8 : Hid (Below _ wS w8) := HBSG.out.trans (bG8.mono (by omega))
  clear hb7 hb8 b68 bG8 hry
  go_wp2_with fail
  refine hmx.mono ?_
  rintro e w9 ⟨rfl, _, ht9⟩
  have s9 := ht9.size
  have bS9 : Below wS.heap.size wS w9 := Touch.below HBS8.out ht9 (by omega) (fun k hk => (HOX.out k hk).1)
  have bb9 : Below (w.heap.size + 2) wb w9 := Touch.below HBB8.out ht9 (by omega) (fun k hk => by have := HOX.out k hk; omega)
  have rG9 : MRow w9 wX.heap.size (sg.mv M') M' := HRG8.out.touch ht9 (fun k hk hx => by have := HOG.out k hk; have := HOX.out k hx; omega)
  have g9 : w9.cell? ⟨Bg, 0, none⟩ = some (.slice sg.a1 M'.mem.length sg.c1) ∧ w9.cell? ⟨Bg, 1, none⟩ = some (.slice sg.a2 M'.pend.length sg.c2) ∧ w9.cell? ⟨Bg, 2, none⟩ = some (.slice sg.a3 M'.tlb.length sg.c3) ∧ w9.cell? ⟨Bg, 3, none⟩ = some (.slice sg.a4 M'.wc.length sg.c4) := by
    obtain ⟨a, b, c, d⟩ := HQG.out
    have hk : w9.heap[Bg]? = wG.heap[Bg]? := (ht9.block Bg (by omega) (fun hx => by have := HOX.out _ hx; omega)).trans (HBG8.out.block _ (by omega))
    exact ⟨(World.cell?_of_block hk).trans a, (World.cell?_of_block hk).trans b, (World.cell?_of_block hk).trans c, (World.cell?_of_block hk).trans d⟩
  have q9 : w9.cell? ⟨Bp, 0, none⟩ = some (.slice sw.a1 M'.mem.length sw.c1) ∧ w9.cell? ⟨Bp, 1, none⟩ = some (.slice sw.a2 M'.pend.length sw.c2) ∧ w9.cell? ⟨Bp, 2, none⟩ = some (.slice sw.a3 M'.tlb.length sw.c3) ∧ w9.cell? ⟨Bp, 3, none⟩ = some (.slice sw.a4 M'.wc.length sw.c4) := by
    obtain ⟨a, b, c, d⟩ := HQS.out
    exact ⟨(bS9.cell (by simp; omega)).trans a, (bS9.cell (by simp; omega)).trans b, (bS9.cell (by simp; omega)).trans c, (bS9.cell (by simp; omega)).trans d⟩
  have heq9 := eqMachine_same (sg.mv M') (sw.mv M') M' _ _ w9 hsm' rG9 (HRS.out.below bS9)
  obtain ⟨g1, g2, g3, g4⟩ := g9
  obtain ⟨x1, x2, x3, x4⟩ := q9
  have d1 : decide (1 + (M.mem.length : Int) + M.pend.length * 2 + M.tlb.length * 5 + M.wc.length * 4 < 0) = false := by simp; omega
  have HRG9 : Hid (MRow w9 _ _ _) := rG9
  have HBS9 : Hid (Below _ wS w9) := bS9
  have HBB9 : Hid (Below _ wb w9) := bb9
  clear hmx ht9 rG9 bS9 bb9 p1 p2 p3 p4
  go_wp2_with fail
  refine heq9.mono ?_
  rintro e wA ⟨rfl, hbA⟩
  have sA := hbA.size
  have g1A := (hbA.cell (p := ⟨Bg, 0, none⟩) (by simp; omega)).trans g1
  have g2A := (hbA.cell (p := ⟨Bg, 1, none⟩) (by simp; omega)).trans g2
  have g3A := (hbA.cell (p := ⟨Bg, 2, none⟩) (by simp; omega)).trans g3
  have g4A := (hbA.cell (p := ⟨Bg, 3, none⟩) (by simp; omega)).trans g4
  have hmg := markMachine_any (sg.mv M') M' _ wA hsm' (HRG9.out.below hbA) HAPG.out
  have HBSA : Hid (Below _ wS wA) := HBS9.out.trans (hbA.mono (by omega))
  have HBBA : Hid (Below _ wb wA) := HBB9.out.trans (hbA.mono (by omega))
  clear heq9 hbA g1 g2 g3 g4 x1 x2 x3 x4
  go_wp2_with fail
  refine hmg.mono ?_
  rintro e wB ⟨rfl, hasB, htB⟩
  have sB := htB.size
  have hkB : wB.heap[Bg]? = wA.heap[Bg]? := htB.block Bg (by omega) (fun hx => by have := HOG.out _ hx; omega)
  have g1B := (World.cell?_of_block (a := ⟨Bg, 0, none⟩) hkB).trans g1A
  have g2B := (World.cell?_of_block (a := ⟨Bg, 1, none⟩) hkB).trans g2A
  have g3B := (World.cell?_of_block (a := ⟨Bg, 2, none⟩) hkB).trans g3A
  have g4B := (World.cell?_of_block (a := ⟨Bg, 3, none⟩) hkB).trans g4A
  have hhl := heldMachine_any (sg.mv M') M' wB hsm' hasB
  have HBSB : Hid (Below _ wS wB) := Touch.below HBSA.out htB (by omega) (fun k hk => by have := HOG.out k hk; omega)
  have HBBB : Hid (Below _ wb wB) := Touch.below HBBA.out htB (by omega) (fun k hk => by have := HOG.out k hk; omega)
  clear hmg hasB htB hkB g1A g2A g3A g4A
  go_wp2_with fail
  refine hhl.mono ?_
  rintro e wC ⟨rfl, hbC⟩
  have sC := hbC.size
  have bSC : Below wS.heap.size wS wC := HBSB.out.trans (hbC.mono (by omega))
  have bbC : Below (w.heap.size + 2) wb wC := HBBB.out.trans (hbC.mono (by omega))
  obtain ⟨p1, p2, p3, p4⟩ := HBOX.out wC bbC
  have d2 : decide (1 + (M'.mem.length : Int) + M'.pend.length * 2 + M'.tlb.length * 5 + M'.wc.length * 4 < 0) = false := by simp; omega
  have HBBC : Hid (Below _ wb wC) := bbC
  clear hhl hbC g1B g2B g3B g4B p1 p2 p3 p4
  go_wp2_with fail
  refine wp_region_held_drew (S := fun wX => (wX.cell? ⟨w.heap.size, 0, none⟩ = some (.slice s.a1 M.mem.length s.c1) ∧ wX.cell? ⟨w.heap.size, 1, none⟩ = some (.slice s.a2 M.pend.length s.c2) ∧ wX.cell? ⟨w.heap.size, 2, none⟩ = some (.slice s.a3 M.tlb.length s.c3) ∧ wX.cell? ⟨w.heap.size, 3, none⟩ = some (.slice s.a4 M.wc.length s.c4)) ∧ (wX.cell? ⟨w.heap.size + 1, 0, none⟩ = some (.int .i64 o.kind) ∧ wX.cell? ⟨w.heap.size + 1, 1, none⟩ = some (.int .i64 o.a) ∧ wX.cell? ⟨w.heap.size + 1, 2, none⟩ = some (.int .i64 o.b) ∧ wX.cell? ⟨w.heap.size + 1, 3, none⟩ = some (.int .u64 o.word))) (by kernel_rfl) (⟨HBOX.out _ bbC.drew, HOPB.out _ bbC.drew⟩) (fun hHeld => ?_)
  obtain ⟨wdh, hwd⟩ : ∃ x, x = wC.drew := ⟨_, rfl⟩
  have hzd : wdh.heap.size = wC.heap.size := by rw [hwd]; rfl
  have bCd : Below (w.heap.size + 2) wb wdh := by rw [hwd]; exact bbC.drew
  have bSCd : Below wS.heap.size wS wdh := by rw [hwd]; exact bSC.drew
  have sCd := bbC.size
  have sCe := bSC.size
  have HTh : Hid (∀ wX, Below wdh.heap.size wdh wX → Calls Tryz.prog 8 #[.agg #[.slice s.a1 M.mem.length s.c1, .slice s.a2 M.pend.length s.c2, .slice s.a3 M.tlb.length s.c3, .slice s.a4 M.wc.length s.c4]] wX fun e w' => ∃ s' : SV, e = .returned (.agg #[.slice s'.a1 M.mem.length s'.c1, .slice s'.a2 M.pend.length s'.c2, .slice s'.a3 M.tlb.length s'.c3, .slice s'.a4 M.wc.length s'.c4]) ∧ MRow w' wX.heap.size (s'.mv M) M ∧ (s'.mv M).apart ∧ Below wX.heap.size wX w') := fun wX hX => HTO.out wX (bCd.trans (hX.mono (by omega)))
  have HKh : Hid (∀ wX, Below wdh.heap.size wdh wX → (wX.cell? ⟨w.heap.size, 0, none⟩ = some (.slice s.a1 M.mem.length s.c1) ∧ wX.cell? ⟨w.heap.size, 1, none⟩ = some (.slice s.a2 M.pend.length s.c2) ∧ wX.cell? ⟨w.heap.size, 2, none⟩ = some (.slice s.a3 M.tlb.length s.c3) ∧ wX.cell? ⟨w.heap.size, 3, none⟩ = some (.slice s.a4 M.wc.length s.c4)) ∧ (wX.cell? ⟨w.heap.size + 1, 0, none⟩ = some (.int .i64 o.kind) ∧ wX.cell? ⟨w.heap.size + 1, 1, none⟩ = some (.int .i64 o.a) ∧ wX.cell? ⟨w.heap.size + 1, 2, none⟩ = some (.int .i64 o.b) ∧ wX.cell? ⟨w.heap.size + 1, 3, none⟩ = some (.int .u64 o.word))) := fun wX hX => ⟨HBOX.out wX (bCd.trans (hX.mono (by omega))), HOPB.out wX (bCd.trans (hX.mono (by omega)))⟩
  have bwdh : Below wdh.heap.size wdh wdh := Below.refl _ _
  rw [← hwd]
  rw [← hwd] at hHeld
  have HZh : Hid (wdh.heap.size = wC.heap.size) := hzd
  clear hwd hzd
  apply both_ways4 (F := fun (w3 : World) (sh : SV) (B : Nat) (sa : SV) => (((w3.cell? ⟨w.heap.size, 0, none⟩ = some (.slice s.a1 M.mem.length s.c1) ∧ w3.cell? ⟨w.heap.size, 1, none⟩ = some (.slice s.a2 M.pend.length s.c2) ∧ w3.cell? ⟨w.heap.size, 2, none⟩ = some (.slice s.a3 M.tlb.length s.c3) ∧ w3.cell? ⟨w.heap.size, 3, none⟩ = some (.slice s.a4 M.wc.length s.c4)) ∧ (w3.cell? ⟨w.heap.size + 1, 0, none⟩ = some (.int .i64 o.kind) ∧ w3.cell? ⟨w.heap.size + 1, 1, none⟩ = some (.int .i64 o.a) ∧ w3.cell? ⟨w.heap.size + 1, 2, none⟩ = some (.int .i64 o.b) ∧ w3.cell? ⟨w.heap.size + 1, 3, none⟩ = some (.int .u64 o.word))) ∧ MRow w3 wdh.heap.size (sh.mv M') M' ∧ (sh.mv M').apart ∧ (∀ k, (sh.mv M').owns k → ¬ k = B) ∧ wdh.heap.size ≤ B ∧ ZB w3 B ∧ Below wdh.heap.size wdh w3))
  · intro cont
    refine wpAnyH_take (i := 0) (v := ?_) rfl (by kernel_rfl) (by kernel_rfl) (by kernel_rfl) (fun _ _ _ h => h) (Or.inl ⟨by rfl, ?_⟩) (by assumption) ?_
    rotate_left
    · (intro w hSw; (try dsimp only at hSw); go_simp; try with_reducible rfl)
    simp only [Act.put, List.setIfInBounds_toArray, List.set_cons_zero, List.set_cons_succ, List.getElem_toArray, List.getElem_cons_zero]
    refine wpAnyH_take (i := 2) (v := ?_) rfl (by kernel_rfl) (by kernel_rfl) (by kernel_rfl) (fun _ _ _ h => h) (Or.inl ⟨by rfl, ?_⟩) (by assumption) ?_
    rotate_left
    · (intro w hSw; (try dsimp only at hSw); go_simp; try with_reducible rfl)
    simp only [Act.put, List.setIfInBounds_toArray, List.set_cons_zero, List.set_cons_succ, List.getElem_toArray, List.getElem_cons_zero, List.getElem_cons_succ]
    refine wpAnyH_ready (rs := [1, 8]) (by kernel_rfl) (by simp) ?_
    refine AllReadyH.cons rfl (fun K hK => ?_) (AllReadyH.cons rfl (fun K hK => ?_) AllReadyH.nil)
    · skip
      go_simp
      go_at_call 8
      refine (HTh.out _ bwdh).mono ?_
      rintro e wh1 ⟨sa, rfl, hra, _, hb⟩
      have bwh1 : Below wdh.heap.size wdh wh1 := bwdh.trans (hb.mono bwdh.size)
      go_wp2_with fail
      refine hK.out _ _ (HKh.out _ bwh1) (fun hHeld => ?_)
      clear hK K hb
      refine wpAnyH_ready (rs := [3, 8]) (by kernel_rfl) (by simp) ?_
      refine AllReadyH.cons rfl (fun K hK => ?_) (AllReadyH.cons rfl (fun K hK => ?_) AllReadyH.nil)
      · skip
        go_simp
        go_at_call 15
        refine (hop _).mono ?_
        rintro e wh2 ⟨rfl, hb⟩
        have bwh2 : Below wdh.heap.size wdh wh2 := bwh1.trans (hb.mono bwh1.size)
        have hra := hra.below hb
        go_wp2_with fail
        refine hK.out _ _ (HKh.out _ bwh2) (fun hHeld => ?_)
        clear hK K hb
        refine wpAnyH_ready (rs := [4, 8]) (by kernel_rfl) (by simp) ?_
        refine AllReadyH.cons rfl (fun K hK => ?_) (AllReadyH.cons rfl (fun K hK => ?_) AllReadyH.nil)
        · skip
          go_simp
          go_at_call 16
          refine (HI.out sa _ _ hra).mono ?_
          rintro e wh3 ⟨sh, rfl, hres, hap, hb⟩
          have bwh3 : Below wdh.heap.size wdh wh3 := bwh2.trans (hb.mono bwh2.size)
          have hres0 := hres
          have hres := hres.rebase bwh2.size
          go_wp2_with fail
          refine hK.out _ _ (HKh.out _ bwh3) (fun hHeld => ?_)
          clear hK K hb
          refine wpAnyH_take (i := 5) (v := ?_) rfl (by kernel_rfl) (by kernel_rfl) (by kernel_rfl) (fun _ _ _ h => h) (Or.inl ⟨by rfl, ?_⟩) (by assumption) ?_
          rotate_left
          · (intro w hSw; (try dsimp only at hSw); go_simp; try with_reducible rfl)
          simp only [Act.put, List.setIfInBounds_toArray, List.set_cons_zero, List.set_cons_succ, List.getElem_toArray, List.getElem_cons_zero, List.getElem_cons_succ]
          refine wpAnyH_take (i := 6) (v := ?_) rfl (by kernel_rfl) (by kernel_rfl) (by kernel_rfl) (fun _ _ _ h => h) (Or.inl ⟨by rfl, ?_⟩) (by assumption) ?_
          rotate_left
          · (intro w hSw; (try dsimp only at hSw); go_simp; try with_reducible rfl)
          simp only [Act.put, List.setIfInBounds_toArray, List.set_cons_zero, List.set_cons_succ, List.getElem_toArray, List.getElem_cons_zero, List.getElem_cons_succ]
          refine wpAnyH_take (i := 7) (v := ?_) rfl (by kernel_rfl) (by kernel_rfl) (by kernel_rfl) (fun _ _ _ h => h) (Or.inl ⟨by rfl, ?_⟩) (by assumption) ?_
          rotate_left
          · (intro w hSw; (try dsimp only at hSw); go_simp; try with_reducible rfl)
          simp only [Act.put, List.setIfInBounds_toArray, List.set_cons_zero, List.set_cons_succ, List.getElem_toArray, List.getElem_cons_zero, List.getElem_cons_succ]
          refine wpAnyH_ready (rs := [8]) (by kernel_rfl) (by simp) ?_
          refine AllReadyH.cons rfl (fun K hK => ?_) AllReadyH.nil
          go_simp
          have hb : Below wh3.heap.size wh3 (wh3.alloc (.cells #[.slice none 0 0, .slice none 0 0, .slice none 0 0, .slice none 0 0] 36)) := (Below.refl _ _).alloc (Nat.le_refl _) _
          refine hK.out _ _ (HKh.out _ (bwh3.trans (hb.mono bwh3.size))) (fun hHeld => ?_)
          clear hK K
          obtain ⟨wh4, hwh4⟩ : ∃ x, x = wh3.alloc (.cells #[.slice none 0 0, .slice none 0 0, .slice none 0 0, .slice none 0 0] 36) := ⟨_, rfl⟩
          obtain ⟨B, hB⟩ : ∃ x, x = wh3.heap.size := ⟨_, rfl⟩
          have hz : ZB wh4 B := by rw [hwh4, hB]; exact ZB.alloc wh3
          rw [← hwh4] at hb hHeld
          simp only [← hwh4, ← hB]
          have bwh4 : Below wdh.heap.size wdh wh4 := bwh3.trans (hb.mono bwh3.size)
          have hBl : wdh.heap.size ≤ B := by rw [hB]; exact bwh3.size
          have hno : ∀ k, (sh.mv M').owns k → ¬ k = B := fun k hk e => by have h1 := (hres0.own k hk).2; omega
          have hres := hres.below hb
          clear hb hwh4 hB
          exact cont wh4 sh B sa ⟨HKh.out _ bwh4, hres, hap, hno, hBl, hz, bwh4⟩
        · skip
          go_simp
          have hb : Below wh2.heap.size wh2 (wh2.alloc (.cells #[.slice none 0 0, .slice none 0 0, .slice none 0 0, .slice none 0 0] 36)) := (Below.refl _ _).alloc (Nat.le_refl _) _
          refine hK.out _ _ (HKh.out _ (bwh2.trans (hb.mono bwh2.size))) (fun hHeld => ?_)
          clear hK K
          obtain ⟨wh5, hwh5⟩ : ∃ x, x = wh2.alloc (.cells #[.slice none 0 0, .slice none 0 0, .slice none 0 0, .slice none 0 0] 36) := ⟨_, rfl⟩
          obtain ⟨B, hB⟩ : ∃ x, x = wh2.heap.size := ⟨_, rfl⟩
          have hz : ZB wh5 B := by rw [hwh5, hB]; exact ZB.alloc wh2
          rw [← hwh5] at hb hHeld
          simp only [← hwh5, ← hB]
          have bwh5 : Below wdh.heap.size wdh wh5 := bwh2.trans (hb.mono bwh2.size)
          have hBl : wdh.heap.size ≤ B := by rw [hB]; exact bwh2.size
          have hra := hra.below hb
          clear hb hwh5 hB
          refine wpAnyH_ready (rs := [4]) (by kernel_rfl) (by simp) ?_
          refine AllReadyH.cons rfl (fun K hK => ?_) AllReadyH.nil
          go_simp
          go_at_call 16
          refine (HI.out sa _ _ hra).mono ?_
          rintro e wh6 ⟨sh, rfl, hres, hap, hb⟩
          have bwh6 : Below wdh.heap.size wdh wh6 := bwh5.trans (hb.mono bwh5.size)
          have hzq := hz
          have hz := hz.below hb
          have hno : ∀ k, (sh.mv M').owns k → ¬ k = B := fun k hk e => by have h1 := (hres.own k hk).1; have h2 := hzq.1; omega
          have hres0 := hres
          have hres := hres.rebase bwh5.size
          go_wp2_with fail
          refine hK.out _ _ (HKh.out _ bwh6) (fun hHeld => ?_)
          clear hK K hb
          refine wpAnyH_take (i := 5) (v := ?_) rfl (by kernel_rfl) (by kernel_rfl) (by kernel_rfl) (fun _ _ _ h => h) (Or.inl ⟨by rfl, ?_⟩) (by assumption) ?_
          rotate_left
          · (intro w hSw; (try dsimp only at hSw); go_simp; try with_reducible rfl)
          simp only [Act.put, List.setIfInBounds_toArray, List.set_cons_zero, List.set_cons_succ, List.getElem_toArray, List.getElem_cons_zero, List.getElem_cons_succ]
          refine wpAnyH_take (i := 6) (v := ?_) rfl (by kernel_rfl) (by kernel_rfl) (by kernel_rfl) (fun _ _ _ h => h) (Or.inl ⟨by rfl, ?_⟩) (by assumption) ?_
          rotate_left
          · (intro w hSw; (try dsimp only at hSw); go_simp; try with_reducible rfl)
          simp only [Act.put, List.setIfInBounds_toArray, List.set_cons_zero, List.set_cons_succ, List.getElem_toArray, List.getElem_cons_zero, List.getElem_cons_succ]
          refine wpAnyH_take (i := 7) (v := ?_) rfl (by kernel_rfl) (by kernel_rfl) (by kernel_rfl) (fun _ _ _ h => h) (Or.inl ⟨by rfl, ?_⟩) (by assumption) ?_
          rotate_left
          · (intro w hSw; (try dsimp only at hSw); go_simp; try with_reducible rfl)
          simp only [Act.put, List.setIfInBounds_toArray, List.set_cons_zero, List.set_cons_succ, List.getElem_toArray, List.getElem_cons_zero, List.getElem_cons_succ]
          exact cont wh6 sh B sa ⟨HKh.out _ bwh6, hres, hap, hno, hBl, hz, bwh6⟩
      · skip
        go_simp
        have hb : Below wh1.heap.size wh1 (wh1.alloc (.cells #[.slice none 0 0, .slice none 0 0, .slice none 0 0, .slice none 0 0] 36)) := (Below.refl _ _).alloc (Nat.le_refl _) _
        refine hK.out _ _ (HKh.out _ (bwh1.trans (hb.mono bwh1.size))) (fun hHeld => ?_)
        clear hK K
        obtain ⟨wh7, hwh7⟩ : ∃ x, x = wh1.alloc (.cells #[.slice none 0 0, .slice none 0 0, .slice none 0 0, .slice none 0 0] 36) := ⟨_, rfl⟩
        obtain ⟨B, hB⟩ : ∃ x, x = wh1.heap.size := ⟨_, rfl⟩
        have hz : ZB wh7 B := by rw [hwh7, hB]; exact ZB.alloc wh1
        rw [← hwh7] at hb hHeld
        simp only [← hwh7, ← hB]
        have bwh7 : Below wdh.heap.size wdh wh7 := bwh1.trans (hb.mono bwh1.size)
        have hBl : wdh.heap.size ≤ B := by rw [hB]; exact bwh1.size
        have hra := hra.below hb
        clear hb hwh7 hB
        refine wpAnyH_ready (rs := [3]) (by kernel_rfl) (by simp) ?_
        refine AllReadyH.cons rfl (fun K hK => ?_) AllReadyH.nil
        go_simp
        go_at_call 15
        refine (hop _).mono ?_
        rintro e wh8 ⟨rfl, hb⟩
        have bwh8 : Below wdh.heap.size wdh wh8 := bwh7.trans (hb.mono bwh7.size)
        have hra := hra.below hb
        have hzq := hz
        have hz := hz.below hb
        go_wp2_with fail
        refine hK.out _ _ (HKh.out _ bwh8) (fun hHeld => ?_)
        clear hK K hb
        refine wpAnyH_ready (rs := [4]) (by kernel_rfl) (by simp) ?_
        refine AllReadyH.cons rfl (fun K hK => ?_) AllReadyH.nil
        go_simp
        go_at_call 16
        refine (HI.out sa _ _ hra).mono ?_
        rintro e wh9 ⟨sh, rfl, hres, hap, hb⟩
        have bwh9 : Below wdh.heap.size wdh wh9 := bwh8.trans (hb.mono bwh8.size)
        have hzq := hz
        have hz := hz.below hb
        have hno : ∀ k, (sh.mv M').owns k → ¬ k = B := fun k hk e => by have h1 := (hres.own k hk).1; have h2 := hzq.1; omega
        have hres0 := hres
        have hres := hres.rebase bwh8.size
        go_wp2_with fail
        refine hK.out _ _ (HKh.out _ bwh9) (fun hHeld => ?_)
        clear hK K hb
        refine wpAnyH_take (i := 5) (v := ?_) rfl (by kernel_rfl) (by kernel_rfl) (by kernel_rfl) (fun _ _ _ h => h) (Or.inl ⟨by rfl, ?_⟩) (by assumption) ?_
        rotate_left
        · (intro w hSw; (try dsimp only at hSw); go_simp; try with_reducible rfl)
        simp only [Act.put, List.setIfInBounds_toArray, List.set_cons_zero, List.set_cons_succ, List.getElem_toArray, List.getElem_cons_zero, List.getElem_cons_succ]
        refine wpAnyH_take (i := 6) (v := ?_) rfl (by kernel_rfl) (by kernel_rfl) (by kernel_rfl) (fun _ _ _ h => h) (Or.inl ⟨by rfl, ?_⟩) (by assumption) ?_
        rotate_left
        · (intro w hSw; (try dsimp only at hSw); go_simp; try with_reducible rfl)
        simp only [Act.put, List.setIfInBounds_toArray, List.set_cons_zero, List.set_cons_succ, List.getElem_toArray, List.getElem_cons_zero, List.getElem_cons_succ]
        refine wpAnyH_take (i := 7) (v := ?_) rfl (by kernel_rfl) (by kernel_rfl) (by kernel_rfl) (fun _ _ _ h => h) (Or.inl ⟨by rfl, ?_⟩) (by assumption) ?_
        rotate_left
        · (intro w hSw; (try dsimp only at hSw); go_simp; try with_reducible rfl)
        simp only [Act.put, List.setIfInBounds_toArray, List.set_cons_zero, List.set_cons_succ, List.getElem_toArray, List.getElem_cons_zero, List.getElem_cons_succ]
        exact cont wh9 sh B sa ⟨HKh.out _ bwh9, hres, hap, hno, hBl, hz, bwh9⟩
    · skip
      go_simp
      have hb : Below wdh.heap.size wdh (wdh.alloc (.cells #[.slice none 0 0, .slice none 0 0, .slice none 0 0, .slice none 0 0] 36)) := (Below.refl _ _).alloc (Nat.le_refl _) _
      refine hK.out _ _ (HKh.out _ (bwdh.trans (hb.mono bwdh.size))) (fun hHeld => ?_)
      clear hK K
      obtain ⟨wh10, hwh10⟩ : ∃ x, x = wdh.alloc (.cells #[.slice none 0 0, .slice none 0 0, .slice none 0 0, .slice none 0 0] 36) := ⟨_, rfl⟩
      obtain ⟨B, hB⟩ : ∃ x, x = wdh.heap.size := ⟨_, rfl⟩
      have hz : ZB wh10 B := by rw [hwh10, hB]; exact ZB.alloc wdh
      rw [← hwh10] at hb hHeld
      simp only [← hwh10, ← hB]
      have bwh10 : Below wdh.heap.size wdh wh10 := bwdh.trans (hb.mono bwdh.size)
      have hBl : wdh.heap.size ≤ B := by rw [hB]; exact bwdh.size
      clear hb hwh10 hB
      refine wpAnyH_ready (rs := [1]) (by kernel_rfl) (by simp) ?_
      refine AllReadyH.cons rfl (fun K hK => ?_) AllReadyH.nil
      go_simp
      go_at_call 8
      refine (HTh.out _ bwh10).mono ?_
      rintro e wh11 ⟨sa, rfl, hra, _, hb⟩
      have bwh11 : Below wdh.heap.size wdh wh11 := bwh10.trans (hb.mono bwh10.size)
      have hzq := hz
      have hz := hz.below hb
      go_wp2_with fail
      refine hK.out _ _ (HKh.out _ bwh11) (fun hHeld => ?_)
      clear hK K hb
      refine wpAnyH_ready (rs := [3]) (by kernel_rfl) (by simp) ?_
      refine AllReadyH.cons rfl (fun K hK => ?_) AllReadyH.nil
      go_simp
      go_at_call 15
      refine (hop _).mono ?_
      rintro e wh12 ⟨rfl, hb⟩
      have bwh12 : Below wdh.heap.size wdh wh12 := bwh11.trans (hb.mono bwh11.size)
      have hra := hra.below hb
      have hzq := hz
      have hz := hz.below hb
      go_wp2_with fail
      refine hK.out _ _ (HKh.out _ bwh12) (fun hHeld => ?_)
      clear hK K hb
      refine wpAnyH_ready (rs := [4]) (by kernel_rfl) (by simp) ?_
      refine AllReadyH.cons rfl (fun K hK => ?_) AllReadyH.nil
      go_simp
      go_at_call 16
      refine (HI.out sa _ _ hra).mono ?_
      rintro e wh13 ⟨sh, rfl, hres, hap, hb⟩
      have bwh13 : Below wdh.heap.size wdh wh13 := bwh12.trans (hb.mono bwh12.size)
      have hzq := hz
      have hz := hz.below hb
      have hno : ∀ k, (sh.mv M').owns k → ¬ k = B := fun k hk e => by have h1 := (hres.own k hk).1; have h2 := hzq.1; omega
      have hres0 := hres
      have hres := hres.rebase bwh12.size
      go_wp2_with fail
      refine hK.out _ _ (HKh.out _ bwh13) (fun hHeld => ?_)
      clear hK K hb
      refine wpAnyH_take (i := 5) (v := ?_) rfl (by kernel_rfl) (by kernel_rfl) (by kernel_rfl) (fun _ _ _ h => h) (Or.inl ⟨by rfl, ?_⟩) (by assumption) ?_
      rotate_left
      · (intro w hSw; (try dsimp only at hSw); go_simp; try with_reducible rfl)
      simp only [Act.put, List.setIfInBounds_toArray, List.set_cons_zero, List.set_cons_succ, List.getElem_toArray, List.getElem_cons_zero, List.getElem_cons_succ]
      refine wpAnyH_take (i := 6) (v := ?_) rfl (by kernel_rfl) (by kernel_rfl) (by kernel_rfl) (fun _ _ _ h => h) (Or.inl ⟨by rfl, ?_⟩) (by assumption) ?_
      rotate_left
      · (intro w hSw; (try dsimp only at hSw); go_simp; try with_reducible rfl)
      simp only [Act.put, List.setIfInBounds_toArray, List.set_cons_zero, List.set_cons_succ, List.getElem_toArray, List.getElem_cons_zero, List.getElem_cons_succ]
      refine wpAnyH_take (i := 7) (v := ?_) rfl (by kernel_rfl) (by kernel_rfl) (by kernel_rfl) (fun _ _ _ h => h) (Or.inl ⟨by rfl, ?_⟩) (by assumption) ?_
      rotate_left
      · (intro w hSw; (try dsimp only at hSw); go_simp; try with_reducible rfl)
      simp only [Act.put, List.setIfInBounds_toArray, List.set_cons_zero, List.set_cons_succ, List.getElem_toArray, List.getElem_cons_zero, List.getElem_cons_succ]
      exact cont wh13 sh B sa ⟨HKh.out _ bwh13, hres, hap, hno, hBl, hz, bwh13⟩
  rintro w3h sh Bh sah ⟨hHeld, hph, haph, hnoh, hBlh, hzh, hbh⟩
  obtain ⟨hBsh, r0, r1, r2, r3, z0, z1, z2, z3⟩ := hzh
  refine wpAnyH_ready (rs := [9]) (by kernel_rfl) (by simp) ?_
  refine AllReadyH.cons rfl (fun K hK => ?_) AllReadyH.nil
  go_simp
  refine hK.out _ _ (HKh.out _ ((((hbh.setCell hBlh _).setCell hBlh _).setCell hBlh _).setCell hBlh _)) (fun hHeld => ?_)
  clear hK K
  refine wpAnyH_take (i := 10) (v := ?_) rfl (by kernel_rfl) (by kernel_rfl) (by kernel_rfl) (fun _ _ _ h => h) (Or.inl ⟨by rfl, ?_⟩) (by assumption) ?_
  rotate_left
  · (intro w hSw; (try dsimp only at hSw); go_simp; try with_reducible rfl)
  simp only [Act.put, List.setIfInBounds_toArray, List.set_cons_zero, List.set_cons_succ, List.getElem_toArray, List.getElem_cons_zero, List.getElem_cons_succ]
  refine wpAnyH_done (by kernel_rfl) ?_ _
  obtain ⟨wH, hwH⟩ : ∃ x, x = ((((w3h.setCell ⟨Bh, 0, none⟩ (.slice sh.a1 M'.mem.length sh.c1)).setCell ⟨Bh, 1, none⟩ (.slice sh.a2 M'.pend.length sh.c2)).setCell ⟨Bh, 2, none⟩ (.slice sh.a3 M'.tlb.length sh.c3)).setCell ⟨Bh, 3, none⟩ (.slice sh.a4 M'.wc.length sh.c4)) := ⟨_, rfl⟩
  rw [← hwH]
  have hzwH : wH.heap.size = w3h.heap.size := by rw [hwH]; simp
  have twH : Touch (fun k => k = Bh) w3h wH := by
    rw [hwH]
    exact Touch.put (Touch.put (Touch.put (Touch.put (Touch.none _) _ _ (by rfl)) _ _ (by rfl)) _ _ (by rfl)) _ _ (by rfl)
  have qwH : wH.cell? ⟨Bh, 0, none⟩ = some (.slice sh.a1 M'.mem.length sh.c1) ∧ wH.cell? ⟨Bh, 1, none⟩ = some (.slice sh.a2 M'.pend.length sh.c2) ∧ wH.cell? ⟨Bh, 2, none⟩ = some (.slice sh.a3 M'.tlb.length sh.c3) ∧ wH.cell? ⟨Bh, 3, none⟩ = some (.slice sh.a4 M'.wc.length sh.c4) := ⟨by rw [hwH]; simp [go_sem, r0], by rw [hwH]; simp [go_sem, r1], by rw [hwH]; simp [go_sem, r2], by rw [hwH]; simp [go_sem, r3]⟩
  have rwH : MRow wH wdh.heap.size (sh.mv M') M' := hph.touch twH (fun k hk e => hnoh k hk e)
  have bwH : Below wdh.heap.size wdh wH := Touch.below hbh twH hbh.size (fun k hk => by omega)
  have ewH := bwH.size
  have nh : Bh < wH.heap.size := by omega
  clear hwH twH r0 r1 r2 r3 z0 z1 z2 z3 hHeld hbh hph
  have hd2 := HZh.out
  have bSH : Below wS.heap.size wS wH := bSCd.trans (bwH.mono (by omega))
  have bbH : Below (w.heap.size + 2) wb wH := bCd.trans (bwH.mono (by omega))
  have heqH := eqMachine_same (sh.mv M') (sw.mv M') M' _ _ wH hsm' rwH (HRS.out.below bSH)
  have qH : wH.cell? ⟨Bp, 0, none⟩ = some (.slice sw.a1 M'.mem.length sw.c1) ∧ wH.cell? ⟨Bp, 1, none⟩ = some (.slice sw.a2 M'.pend.length sw.c2) ∧ wH.cell? ⟨Bp, 2, none⟩ = some (.slice sw.a3 M'.tlb.length sw.c3) ∧ wH.cell? ⟨Bp, 3, none⟩ = some (.slice sw.a4 M'.wc.length sw.c4) := by
    obtain ⟨a, b, c, d⟩ := HQS.out
    exact ⟨(bSH.cell (by simp; omega)).trans a, (bSH.cell (by simp; omega)).trans b, (bSH.cell (by simp; omega)).trans c, (bSH.cell (by simp; omega)).trans d⟩
  obtain ⟨x1, x2, x3, x4⟩ := qH
  obtain ⟨y1', y2', y3', y4'⟩ := qwH
  have HBBH : Hid (Below (w.heap.size + 2) wb wH) := bbH
  clear bSH bbH rwH hnoh haph HKh HTh bwdh bCd bSCd hd2
  go_wp2_with fail
  refine heqH.mono ?_
  rintro e wF ⟨rfl, hbF⟩
  clear heqH x1 x2 x3 x4 y1' y2' y3' y4'
  go_wp2_with fail
  go_ret
  exact ⟨rfl, HBB.out.trans ((HBBH.out.trans (hbF.mono (by have := HBBH.out.size; omega))).mono (by omega))⟩
end Go.Proofs.YtiiejckfcnmhoabGreat
