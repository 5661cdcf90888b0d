import Derived.Test.YtnmhkgmmpkjjeaaG26
namespace Go.Proofs.Ytnmhkgmmpkjjeaa
open Go.ChangeShapes Go.WideShapes Go.ChangeAt Go.RowKit
set_option linter.unusedVariables false
set_option linter.unusedSimpArgs false
set_option maxRecDepth 100000
attribute [local go_sem ↓] Go.wp_at_zero Go.wp_at_succ

/-- How a part of the reading ends: with the code's panic, or with R. -/
def Ends (code : Int) (at_ : Nat) (e : Ending) (R : Prop) : Prop := (code = 0 → e = .returned (.tuple #[]) ∧ R) ∧ (code ≠ 0 → e = .panicked [{ v := diagV code (at_ : Int), recovered := false }])
theorem Ends.yes {at_ : Nat} {R : Prop} {c : Int} (hc : c = 0) (h : R) : Ends c at_ (.returned (.tuple #[])) R := ⟨fun _ => ⟨rfl, h⟩, fun h => absurd hc h⟩
theorem Ends.no {c d : Int} {at_ : Nat} {R : Prop} (hc : c = d) (h : d ≠ 0) : Ends c at_ (.panicked [{ v := diagV d (at_ : Int), recovered := false }]) R := ⟨fun e => absurd (hc.symm.trans e) h, fun _ => by rw [hc]⟩
def tkCode (r : RunE) (pg : List RunE) : Int := if fitsB r 4096 = true then (if pg.any (meetR r) = true then 8 else 0) else 7
set_option maxHeartbeats 2000000 in
theorem takePages_any (r : RunE) (b mb B at_ : Nat) (v : PV) (x : PA) (w : World) (hr : RnB r) (h : PI w b mb B at_ v x) (hpg : ∀ i, i < x.pg.length → RnB (eAt eRunR x.pg i)) (hl : x.pg.length ≤ 1000) :
    Calls Try.prog 201 #[.pointer (some ⟨b, 0, none⟩), .agg #[.int .i64 r.f, .int .i64 r.c]] w fun e w' => Touch (fun k => k = b ∨ oP v.pa = some k) w w' ∧ Ends (tkCode r x.pg) at_ e (∃ v', (v'.ra = v.ra ∧ v'.fa = v.fa ∧ ∀ k, oP v'.pa = some k → oP v.pa = some k ∨ w.heap.size ≤ k) ∧ PI w' b mb B at_ v' ⟨x.g, x.fr, x.pg ++ [r], x.rg⟩) := by
  obtain ⟨iR, hiR, hz0, hz1, hz2⟩ := info_parts infoRunR
  obtain ⟨F, C⟩ := r
  obtain ⟨w0, hw0⟩ : ∃ w0, w0 = w.alloc (.cells #[.int .i64 F, .int .i64 C] 255) := ⟨_, rfl⟩
  have hb0 : Below w.heap.size w w0 := by rw [hw0]; exact bal
  have hz : w.heap.size < w0.heap.size := by rw [hw0]; simp
  have HP0 : Hid (PI w0 b mb B at_ v x) := hidP (h.below hb0)
  have HR0 : Hid (w0.cell? ⟨w.heap.size, 0, none⟩ = some (.int .i64 F) ∧ w0.cell? ⟨w.heap.size, 1, none⟩ = some (.int .i64 C)) := hidP (by rw [hw0]; refine ⟨?_, ?_⟩ <;> simp [go_sem])
  have HB0 : Hid (Below w.heap.size w w0) := hb0
  have HF : Hid (Calls Try.prog 198 #[.agg #[.int .i64 F, .int .i64 C], .int .i64 4096] w0 fun e w' => e = .returned (.bool (fitsB ⟨F, C⟩ 4096)) ∧ Below w0.heap.size w0 w') := hidP (fits_any ⟨F, C⟩ 4096 w0 hr)
  have HW0 : Hid (w0 = _) := hw0
  have hbw := h.blt
  have hBw := h.bd
  have HBB : Hid (b < B) := h.bB
  have HOW : Hid (∀ k, oP v.pa = some k → k < w.heap.size) := hidP (fun k hk => (h.of.2.1 k hk).2)
  have HRB : Hid (RnB ⟨F, C⟩) := hr
  have HPG : Hid (∀ i, i < x.pg.length → RnB (eAt eRunR x.pg i)) := hpg
  clear hb0 hr h hw0 hpg
  go_enter Try.func201, Try.ntmps201
  go_wp2_with fail
  rw [← HW0.out]
  refine HF.out.mono ?_
  rintro e w1 ⟨rfl, hb1⟩
  have HP1 : Hid (PI w1 b mb B at_ v x) := hidP (HP0.out.below hb1)
  have HT1 : Hid (Touch (fun k => k = b ∨ oP v.pa = some k) w w1) := hidP ((Touch.of_below HB0.out).trans (Touch.of_below hb1))
  have HR1 : Hid (w1.cell? ⟨w.heap.size, 0, none⟩ = some (.int .i64 F) ∧ w1.cell? ⟨w.heap.size, 1, none⟩ = some (.int .i64 C)) := hidP ⟨(hb1.cell (p := ⟨w.heap.size, 0, none⟩) hz).trans HR0.out.1, (hb1.cell (p := ⟨w.heap.size, 1, none⟩) hz).trans HR0.out.2⟩
  have hzw : w.heap.size < w1.heap.size := Nat.lt_of_lt_of_le hz hb1.size
  clear hb1 HF
  by_cases hfit : fitsB ⟨F, C⟩ 4096 = true
  · rw [hfit]
    have t2 : Hid (Calls Try.prog 175 #[.pointer (some ⟨b, 0, none⟩), .bool false, .int .i64 7] w1 fun e w' => e = .returned (.tuple #[]) ∧ w' = w1) := hidP (refuse_no b 7 w1)
    go_wp2_with fail
    refine t2.out.mono ?_
    rintro e w2 ⟨rfl, ew⟩
    obtain rfl : w1 = w2 := ew.symm
    clear t2
    have HM : Hid (∀ wX, Below w1.heap.size w1 wX → Calls Try.prog 199 #[.agg #[.int .i64 F, .int .i64 C], .slice v.pa x.pg.length v.pc] wX fun e w' => e = .returned (.bool (x.pg.any (meetR ⟨F, C⟩))) ∧ Below wX.heap.size wX w') := hidP (fun wX hX => meets_any ⟨F, C⟩ v.pa v.pc B x.pg wX HRB.out HPG.out (by omega) (HP1.out.rp.below hX))
    have HS : Hid (∀ wX, Below w1.heap.size w1 wX → wX.cell? ⟨w.heap.size, 0, none⟩ = some (.int .i64 F) ∧ wX.cell? ⟨w.heap.size, 1, none⟩ = some (.int .i64 C) ∧ wX.cell? ⟨b, 2, none⟩ = some (.slice v.pa x.pg.length v.pc)) := hidP (fun wX hX => ⟨(hX.cell (p := ⟨w.heap.size, 0, none⟩) hzw).trans HR1.out.1, (hX.cell (p := ⟨w.heap.size, 1, none⟩) hzw).trans HR1.out.2, (hX.cell (p := ⟨b, 2, none⟩) HP1.out.blt).trans HP1.out.c2⟩)
    go_wp2_with fail
    refine wp_region_held_drew (S := fun wX => wX.cell? ⟨w.heap.size, 0, none⟩ = some (.int .i64 F) ∧ wX.cell? ⟨w.heap.size, 1, none⟩ = some (.int .i64 C) ∧ wX.cell? ⟨b, 2, none⟩ = some (.slice v.pa x.pg.length v.pc)) (by kernel_rfl) (HS.out _ (Below.refl _ _).drew) (fun hHeld => ?_)
    refine tk 0 ?_
    refine tk 1 ?_
    refine tk 2 ?_
    refine tk 3 ?_
    refine tk 4 ?_
    refine tk 5 ?_
    refine wpAnyH_ready (rs := [6]) (by kernel_rfl) (by simp) ?_
    refine AllReadyH.cons rfl (fun K hK => ?_) AllReadyH.nil
    go_simp
    refine (HM.out _ (Below.refl _ _).drew).mono ?_
    rintro e w3 ⟨rfl, hb3⟩
    have hb13 : Below w1.heap.size w1 w3 := (Below.refl _ _).drew.trans hb3
    refine hK.out _ _ (HS.out _ hb13) (fun hHeld2 => ?_)
    clear hK K hb3
    have HP3 : Hid (PI w3 b mb B at_ v x) := hidP (HP1.out.below hb13)
    have HT3 : Hid (Touch (fun k => k = b ∨ oP v.pa = some k) w w3) := hidP (HT1.out.trans (Touch.of_below hb13))
    have HR3 : Hid (∀ wX, Below w3.heap.size w3 wX → wX.cell? ⟨w.heap.size, 0, none⟩ = some (.int .i64 F) ∧ wX.cell? ⟨w.heap.size, 1, none⟩ = some (.int .i64 C)) := hidP (fun wX hX => ⟨(HS.out wX (hb13.trans (hX.mono hb13.size))).1, (HS.out wX (hb13.trans (hX.mono hb13.size))).2.1⟩)
    have hz3 : w.heap.size < w3.heap.size := Nat.lt_of_lt_of_le hzw hb13.size
    clear hHeld hHeld2
    by_cases hmt : x.pg.any (meetR ⟨F, C⟩) = true
    · rw [hmt]
      have t4 : Hid (Calls Try.prog 175 #[.pointer (some ⟨b, 0, none⟩), .bool true, .int .i64 8] w3 fun e w' => e = .panicked [{ v := diagV 8 (at_ : Int), recovered := false }] ∧ w' = w3) := hidP (refuse_yes b 8 at_ w3 HP3.out.c4)
      have HC : Hid (tkCode ⟨F, C⟩ x.pg = 8) := hidP (by unfold tkCode; rw [if_pos hfit, if_pos hmt])
      refine wpAnyH_ready (rs := [7]) (by kernel_rfl) (by simp) ?_
      refine AllReadyH.cons rfl (fun K hK => ?_) AllReadyH.nil
      go_simp
      refine t4.out.mono ?_
      rintro e w4 ⟨rfl, ew⟩
      obtain rfl : w3 = w4 := ew.symm
      exact ⟨rfl, HT3.out, Ends.no HC.out (by decide)⟩
    · have hmf : x.pg.any (meetR ⟨F, C⟩) = false := by simpa using hmt
      rw [hmf]
      have t4 : Hid (Calls Try.prog 175 #[.pointer (some ⟨b, 0, none⟩), .bool false, .int .i64 8] w3 fun e w' => e = .returned (.tuple #[]) ∧ w' = w3) := hidP (refuse_no b 8 w3)
      have HC : Hid (tkCode ⟨F, C⟩ x.pg = 0) := hidP (by unfold tkCode; rw [if_pos hfit, if_neg hmt])
      refine wpAnyH_ready (rs := [7]) (by kernel_rfl) (by simp) ?_
      refine AllReadyH.cons rfl (fun K hK => ?_) AllReadyH.nil
      go_simp
      refine t4.out.mono ?_
      rintro e w4 ⟨rfl, ew⟩
      obtain rfl : w3 = w4 := ew.symm
      refine hK.out _ _ (HS.out _ hb13) (fun hHeld3 => ?_)
      clear hK K t4 hHeld3
      refine wpAnyH_done (by kernel_rfl) ?_ _
      have q2 := HP3.out.c2
      have f2 := HP3.out.fz 2
      have HOWN : Hid ((w3.drew.alloc (.cells #[.int .i64 F, .int .i64 C] 255)).ownsRow B 255 2 (.slice v.pa x.pg.length v.pc) x.pg.length (ecells eRunR x.pg)) := hidP (HP3.out.rp.below ((Below.refl _ _).drew.alloc (by simp) _))
      have HNEWS : Hid (∀ j u, ([.int .i64 F, .int .i64 C] : List Value)[j]? = some u → (w3.drew.alloc (.cells #[.int .i64 F, .int .i64 C] 255)).cell? ((⟨w3.heap.size, 0, none⟩ : Addr).add j) = some u) := hidP (World.news_of_block (cs := #[.int .i64 F, .int .i64 C]) (heap_alloc_new w3.drew _))
      have hb3 : B ≤ w3.heap.size := HP3.out.bd
      have hbl3 : b < w3.heap.size := HP3.out.blt
      have HNE : Hid (∀ wn, (w3.drew.alloc (.cells #[.int .i64 F, .int .i64 C] 255)).grownBy wn (oP v.pa) → (∀ k, k < w3.heap.size → oP v.pa ≠ some k → wn.heap[k]? = w3.heap[k]?)) := hidP (fun wn hg k hk hn => (hg.block k (by simp; omega) (fun e => hn e.symm)).trans (Below.heap_alloc _ _ _ hk))
      have nb : oP v.pa ≠ some b := fun e => by have := (HP3.out.of.2.1 b e).1; have := HBB.out; omega
      have nr : oP v.pa ≠ some w.heap.size := fun e => by have := HOW.out _ e; omega
      have HEND : Hid (∀ g1 cap1 wn, wn.ownsRow B 255 2 (.slice (some ⟨g1, 0, none⟩) (x.pg.length + 1) cap1) (x.pg.length + 1) (ecells eRunR x.pg ++ [.int .i64 F, .int .i64 C]) → (w3.drew.alloc (.cells #[.int .i64 F, .int .i64 C] 255)).grownBy wn (oP v.pa) → (oP v.pa = some g1 ∨ g1 = w3.heap.size + 1) → Touch (fun k => k = b ∨ oP v.pa = some k) w (wn.setCell ⟨b, 2, none⟩ (.slice (some ⟨g1, 0, none⟩) (x.pg.length + 1) cap1)) ∧ ∃ v', (v'.ra = v.ra ∧ v'.fa = v.fa ∧ ∀ k, oP v'.pa = some k → oP v.pa = some k ∨ w.heap.size ≤ k) ∧ PI (wn.setCell ⟨b, 2, none⟩ (.slice (some ⟨g1, 0, none⟩) (x.pg.length + 1) cap1)) b mb B at_ v' ⟨x.g, x.fr, x.pg ++ [⟨F, C⟩], x.rg⟩) := hidP (fun g1 cap1 wn hown hgrow hat => by
        have ht : Touch (fun k => oP v.pa = some k) w3 wn := (Touch.of_below ((Below.refl _ _).drew.alloc (by simp) (.cells #[.int .i64 F, .int .i64 C] 255))).trans (Touch.of_grown hgrow (fun k e => e))
        refine ⟨HT3.out.trans ((show Touch (fun k => k = b ∨ oP v.pa = some k) w3 wn from ⟨ht.os, ht.tape, ht.output, ht.size, fun k hk hn => ht.block k hk (fun e => hn (.inr e))⟩).trans ?_), ⟨v.fa, v.fc, some ⟨g1, 0, none⟩, cap1, v.ra, v.rc⟩, ⟨rfl, rfl, fun k hk => ?_⟩, HP3.out.addP ht (erow_push (E := eRunR) (x := ⟨F, C⟩) rfl hown) ?_⟩
        · exact ⟨rfl, rfl, rfl, by simp [World.setCell], fun k hk hn => Below.heap_setCell _ _ _ _ (fun e => hn (.inl e))⟩
        · rw [oP_some] at hk
          injection hk with hk
          subst hk
          rcases hat with e | e
          · exact .inl e
          · exact .inr (by omega)
        · rcases hat with e | e
          · exact .inl e
          · exact .inr (by omega))
      clear hmt hmf hfit
      go_wp2_with fail
      refine wp_region_held_drew (S := fun wX => wX.cell? ⟨w.heap.size, 0, none⟩ = some (.int .i64 F) ∧ wX.cell? ⟨w.heap.size, 1, none⟩ = some (.int .i64 C)) (by kernel_rfl) (HR3.out _ (Below.refl _ _).drew) (fun hHeld => ?_)
      refine tk 0 ?_
      refine tk 1 ?_
      refine tk 2 ?_
      refine tk 3 ?_
      refine tk 5 ?_
      refine wpAnyH_ready (rs := [4, 6]) (by kernel_rfl) (by simp) ?_
      refine AllReadyH.cons rfl (fun K hK => ?_) (AllReadyH.cons rfl (fun K hK => ?_) AllReadyH.nil)
      · go_simp
        refine hK.out _ _ (HR3.out _ ((Below.refl _ _).drew)) (fun hHeld2 => ?_)
        clear hK K
        refine wpAnyH_ready (rs := [6]) (by kernel_rfl) (by simp) ?_
        refine AllReadyH.cons rfl (fun K hK => ?_) AllReadyH.nil
        go_simp
        refine hK.out _ _ (HR3.out _ ((Below.refl _ _).drew.alloc (by simp) _)) (fun hHeld3 => ?_)
        clear hK K
        refine wpAnyH_ready (rs := [7]) (by kernel_rfl) (by simp) ?_
        refine AllReadyH.cons rfl (fun K hK => ?_) AllReadyH.nil
        refine step_append_lies _ (by rfl) (.tmp 21) (.tmp 23) 118 (by rfl) B 255 iR _ 2 16 Try.underlying118 hiR hz0 hz1 hz2 rfl (by omega) _ _ _ (by rfl) HOWN.out ⟨w3.heap.size, 0, none⟩ 1 1 [.int .i64 F, .int .i64 C] (by rfl) rfl HNEWS.out (by intro v hv; simp at hv; rcases hv with rfl | rfl <;> rfl) (by omega) (by unfold maxLen; omega) (by omega) (by simp; omega) (w3.heap.size + 1) (by simp) ?_
        intro g1 cap1 wn hown hgrow hat hlt3
        rw [oP_slice] at hgrow hat
        have HE := hidP (HEND.out g1 cap1 wn hown hgrow hat)
        have cq2 := (World.cell?_of_block (a := ⟨b, 2, none⟩) (HNE.out wn hgrow b hbl3 nb)).trans q2
        have cf2 := (World.frozen?_of_block (a := ⟨b, 2, none⟩) (HNE.out wn hgrow b hbl3 nb)).trans f2
        have hS : ∀ u : Value, (wn.setCell ⟨b, 2, none⟩ u).cell? ⟨w.heap.size, 0, none⟩ = some (.int .i64 F) ∧ (wn.setCell ⟨b, 2, none⟩ u).cell? ⟨w.heap.size, 1, none⟩ = some (.int .i64 C) := fun u => by
          have e : (wn.setCell ⟨b, 2, none⟩ u).heap[w.heap.size]? = w3.heap[w.heap.size]? := (Below.heap_setCell _ _ _ _ (by show w.heap.size ≠ b; omega)).trans (HNE.out wn hgrow _ hz3 nr)
          exact ⟨(World.cell?_of_block e).trans (HR3.out w3 (Below.refl _ _)).1, (World.cell?_of_block e).trans (HR3.out w3 (Below.refl _ _)).2⟩
        have HS2 := hidP hS
        refine hK.out _ _ ⟨(World.cell?_of_block (HNE.out wn hgrow _ hz3 nr)).trans (HR3.out w3 (Below.refl _ _)).1, (World.cell?_of_block (HNE.out wn hgrow _ hz3 nr)).trans (HR3.out w3 (Below.refl _ _)).2⟩ (fun hHeld4 => ?_)
        clear hK K hgrow hown hat hS
        refine tk 8 ?_
        refine tk 9 ?_
        refine wpAnyH_ready (rs := [10]) (by kernel_rfl) (by simp) ?_
        refine AllReadyH.cons rfl (fun K hK => ?_) AllReadyH.nil
        go_simp
        refine hK.out _ _ (HS2.out _) (fun hHeld5 => ?_)
        clear hK K
        refine wpAnyH_done (by kernel_rfl) ?_ _
        go_wp2_with fail
        exact bodyPost_end (v := .tuple #[]) (by simp [results, Try.results201, go_sem]) rfl ⟨HE.out.1, Ends.yes HC.out HE.out.2⟩
      · go_simp
        refine hK.out _ _ (HR3.out _ ((Below.refl _ _).drew.alloc (by simp) _)) (fun hHeld2 => ?_)
        clear hK K
        refine wpAnyH_ready (rs := [4]) (by kernel_rfl) (by simp) ?_
        refine AllReadyH.cons rfl (fun K hK => ?_) AllReadyH.nil
        go_simp
        refine hK.out _ _ (HR3.out _ ((Below.refl _ _).drew.alloc (by simp) _)) (fun hHeld3 => ?_)
        clear hK K
        refine wpAnyH_ready (rs := [7]) (by kernel_rfl) (by simp) ?_
        refine AllReadyH.cons rfl (fun K hK => ?_) AllReadyH.nil
        refine step_append_lies _ (by rfl) (.tmp 21) (.tmp 23) 118 (by rfl) B 255 iR _ 2 16 Try.underlying118 hiR hz0 hz1 hz2 rfl (by omega) _ _ _ (by rfl) HOWN.out ⟨w3.heap.size, 0, none⟩ 1 1 [.int .i64 F, .int .i64 C] (by rfl) rfl HNEWS.out (by intro v hv; simp at hv; rcases hv with rfl | rfl <;> rfl) (by omega) (by unfold maxLen; omega) (by omega) (by simp; omega) (w3.heap.size + 1) (by simp) ?_
        intro g1 cap1 wn hown hgrow hat hlt3
        rw [oP_slice] at hgrow hat
        have HE := hidP (HEND.out g1 cap1 wn hown hgrow hat)
        have cq2 := (World.cell?_of_block (a := ⟨b, 2, none⟩) (HNE.out wn hgrow b hbl3 nb)).trans q2
        have cf2 := (World.frozen?_of_block (a := ⟨b, 2, none⟩) (HNE.out wn hgrow b hbl3 nb)).trans f2
        have hS : ∀ u : Value, (wn.setCell ⟨b, 2, none⟩ u).cell? ⟨w.heap.size, 0, none⟩ = some (.int .i64 F) ∧ (wn.setCell ⟨b, 2, none⟩ u).cell? ⟨w.heap.size, 1, none⟩ = some (.int .i64 C) := fun u => by
          have e : (wn.setCell ⟨b, 2, none⟩ u).heap[w.heap.size]? = w3.heap[w.heap.size]? := (Below.heap_setCell _ _ _ _ (by show w.heap.size ≠ b; omega)).trans (HNE.out wn hgrow _ hz3 nr)
          exact ⟨(World.cell?_of_block e).trans (HR3.out w3 (Below.refl _ _)).1, (World.cell?_of_block e).trans (HR3.out w3 (Below.refl _ _)).2⟩
        have HS2 := hidP hS
        refine hK.out _ _ ⟨(World.cell?_of_block (HNE.out wn hgrow _ hz3 nr)).trans (HR3.out w3 (Below.refl _ _)).1, (World.cell?_of_block (HNE.out wn hgrow _ hz3 nr)).trans (HR3.out w3 (Below.refl _ _)).2⟩ (fun hHeld4 => ?_)
        clear hK K hgrow hown hat hS
        refine tk 8 ?_
        refine tk 9 ?_
        refine wpAnyH_ready (rs := [10]) (by kernel_rfl) (by simp) ?_
        refine AllReadyH.cons rfl (fun K hK => ?_) AllReadyH.nil
        go_simp
        refine hK.out _ _ (HS2.out _) (fun hHeld5 => ?_)
        clear hK K
        refine wpAnyH_done (by kernel_rfl) ?_ _
        go_wp2_with fail
        exact bodyPost_end (v := .tuple #[]) (by simp [results, Try.results201, go_sem]) rfl ⟨HE.out.1, Ends.yes HC.out HE.out.2⟩
  · have hff : fitsB ⟨F, C⟩ 4096 = false := by simpa using hfit
    rw [hff]
    have t2 : Hid (Calls Try.prog 175 #[.pointer (some ⟨b, 0, none⟩), .bool true, .int .i64 7] w1 fun e w' => e = .panicked [{ v := diagV 7 (at_ : Int), recovered := false }] ∧ w' = w1) := hidP (refuse_yes b 7 at_ w1 HP1.out.c4)
    have HC : Hid (tkCode ⟨F, C⟩ x.pg = 7) := hidP (by unfold tkCode; rw [if_neg hfit])
    go_wp2_with fail
    refine t2.out.mono ?_
    rintro e w2 ⟨rfl, ew⟩
    obtain rfl : w1 = w2 := ew.symm
    exact ⟨rfl, HT1.out, Ends.no HC.out (by decide)⟩
end Go.Proofs.Ytnmhkgmmpkjjeaa
