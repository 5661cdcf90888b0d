import Derived.Test.YtnmhkgmmpkjjeaaG30
namespace Go.Proofs.Ytnmhkgmmpkjjeaa
open Go.ChangeShapes Go.WideShapes Go.ChangeAt Go.RowKit
set_option linter.unusedVariables false
set_option linter.unusedSimpArgs false
set_option maxRecDepth 100000
attribute [local go_sem ↓] Go.wp_at_zero Go.wp_at_succ
attribute [local go_sem] bs_size bs_cAt bs_app bs_mk bs_cut bs_list

/-! readObject: an object. -/
theorem Touch.up {S S' : Nat → Prop} {a b : World} (h : Touch S a b) (hS : ∀ k, S k → S' k) : Touch S' a b := ⟨h.os, h.tape, h.output, h.size, fun k hk hn => h.block k hk (fun h' => hn (hS k h'))⟩
theorem PS.took' {w w' : World} {b mb B at_ : Nat} {v : PV} {x : PA} {ws ws' : List Txt} (h : PS w b mb B at_ v x ws) (ht : TookW w b at_ ws' w') : PS w' b mb B at_ v x ws' ∧ Touch (fun k => k = b) w w' := by
  obtain ⟨s', rfl, hp⟩ := ht
  exact ⟨⟨h.i.set5 _, s', hp⟩, pset (a := ⟨b, 5, none⟩)⟩
theorem opt_any (b mb B at_ : Nat) (v : PV) (x : PA) (word : Txt) (sh : Bool) (w : World) (h : PS w b mb B at_ v x (if sh = true then [word] else [])) :
    Calls Try.prog 196 #[.pointer (some ⟨b, 0, none⟩), .string (bs word)] w fun e w' => e = .returned (.bool sh) ∧ PS w' b mb B at_ v x [] ∧ Touch (fun k => k = b) w w' := by
  cases sh with
  | false =>
    obtain ⟨s, hs⟩ := h.p
    refine (option_none b at_ s word w hs).mono ?_
    rintro e w1 ⟨rfl, rfl⟩
    exact ⟨rfl, h, Touch.of_below (Below.refl _ _)⟩
  | true =>
    obtain ⟨s, hs⟩ := h.p
    refine (option_yes b at_ s word [] w hs).mono ?_
    rintro e w1 ⟨rfl, tb⟩
    exact ⟨rfl, h.took' tb⟩
set_option maxHeartbeats 4000000 in
theorem readObj_ok (b mb B at_ : Nat) (v : PV) (all : List St) (n c f : Txt) (sh : Bool) (w0 : World) (hg : Good all) (hl : all.length ≤ 999) (hn : nameL n = true) (hc : numOk c = true) (hf : numOk f = true) (hw : ∀ x ∈ n :: c :: kAtR :: f :: (if sh = true then [kSha] else []), 0 < x.length ∧ x.length ≤ 20000) (h : PS w0 b mb B at_ v (paOf all) (n :: c :: kAtR :: f :: (if sh = true then [kSha] else []))) :
    Calls Try.prog 172 #[.pointer (some ⟨b, 0, none⟩)] w0 fun e w' => Touch (PT b mb B) w0 w' ∧ Ends (codeL all (⟨1, n, valL c, valL f, 0, sh⟩ : St)) at_ e (∃ v', PI w' b mb B at_ v' (paOf (all ++ [(⟨1, n, valL c, valL f, 0, sh⟩ : St)]))) := by
  obtain ⟨iR, hiR, hz0, hz1, hz2⟩ := info_parts infoRunR
  have HW : Hid (∀ x ∈ n :: c :: kAtR :: f :: (if sh = true then [kSha] else []), 0 < x.length ∧ x.length ≤ 20000) := hw
  have hC := valL_bd hc
  have hF := valL_bd hf
  have HCO : Hid (codeL all (⟨1, n, valL c, valL f, 0, sh⟩ : St) = if (seeAll all n).isSome = true then 5 else if fitsB ⟨valL f, valL c⟩ 65536 = true then (if (framesOf all).any (meetR ⟨valL f, valL c⟩) = true then 8 else 0) else 7) := hidP (code_obj all (⟨1, n, valL c, valL f, 0, sh⟩ : St) rfl ⟨hC.1, hC.2, hF.1, hF.2, by show (0 : Int) ≤ 0; omega, by show (0 : Int) ≤ 7; omega⟩)
  have HPA : Hid (seeAll all n = none → paOf (all ++ [(⟨1, n, valL c, valL f, 0, sh⟩ : St)]) = ⟨setG (seeAll all) n ⟨valL f, valL c, sh, 0⟩, framesOf all ++ [⟨valL f, valL c⟩], pagesOf all, regsOf all⟩) := hidP (fun hh => pa_obj hg (⟨1, n, valL c, valL f, 0, sh⟩ : St) rfl hh)
  have HFR : Hid (∀ i, i < (framesOf all).length → RnB (eAt eRunR (framesOf all) i)) := hidP (frames_rn hg)
  have hfl : (framesOf all).length ≤ 999 := Nat.le_trans (lens_le all).2.1 hl
  have HP0 : Hid (PS w0 b mb B at_ v (paOf all) (n :: c :: kAtR :: f :: (if sh = true then [kSha] else []))) := h
  have HT0 : Hid (Touch (PT b mb B) w0 w0) := hidP (Touch.of_below (Below.refl _ _))
  have HBB : Hid (b < B) := h.i.bB
  have HMB : Hid (mb < B) := h.i.mB
  have HOW : Hid (∀ k, oP v.fa = some k → k < w0.heap.size) := hidP (fun k hk => (h.i.of.1 k hk).2)
  have hB0 := h.i.bd
  have hbm := h.i.bm
  clear h hw
  go_enter Try.func172, Try.ntmps172
  obtain ⟨sx, hx⟩ := HP0.out.p
  have t1 := hidP (name_yes b at_ sx n (c :: kAtR :: f :: (if sh = true then [kSha] else [])) w0 hx (HW.out n (by simp)).1 (HW.out n (by simp)).2 hn)
  clear hx
  go_wp2_with fail
  refine t1.out.mono ?_
  rintro e w1 ⟨rfl, tb⟩
  have HP1 := hidP (HP0.out.took tb).1
  have HT1 := hidP (HT0.out.trans (HP0.out.took tb).2)
  clear tb t1 sx
  obtain ⟨sx, hx⟩ := HP1.out.p
  have t1 := hidP (number_yes b at_ sx c (kAtR :: f :: (if sh = true then [kSha] else [])) w1 hx (HW.out c (by simp)).2 hc)
  clear hx
  go_wp2_with fail
  refine t1.out.mono ?_
  rintro e w2 ⟨rfl, tb⟩
  have HP2 := hidP (HP1.out.tookB tb).1
  have HT2 := hidP (HT1.out.trans (HP1.out.tookB tb).2)
  clear tb t1 sx
  obtain ⟨sx, hx⟩ := HP2.out.p
  have t1 := hidP (next_yes b at_ sx kAtR (f :: (if sh = true then [kSha] else [])) w2 hx)
  clear hx
  go_wp2_with fail
  refine t1.out.mono ?_
  rintro e w3 ⟨rfl, tb⟩
  have HP3 := hidP (HP2.out.took tb).1
  have HT3 := hidP (HT2.out.trans (HP2.out.took tb).2)
  clear tb t1 sx
  have hab : (kAtR == [97, 116]) = true := rfl
  have t1 := hidP (refuse_no b 4 w3)
  go_wp2_with fail
  refine t1.out.mono ?_
  rintro e wz ⟨rfl, ew⟩
  obtain rfl : w3 = wz := ew.symm
  clear t1
  obtain ⟨sx, hx⟩ := HP3.out.p
  have t1 := hidP (number_yes b at_ sx f (if sh = true then [kSha] else []) w3 hx (HW.out f (by simp)).2 hf)
  clear hx
  go_wp2_with fail
  refine t1.out.mono ?_
  rintro e w4 ⟨rfl, tb⟩
  have HP4 := hidP (HP3.out.tookB tb).1
  have HT4 := hidP (HT3.out.trans (HP3.out.tookB tb).2)
  clear tb t1 sx
  have hB4 : B ≤ w4.heap.size := HP4.out.i.bd
  have h04 : w0.heap.size ≤ w4.heap.size := HT4.out.size
  have HRB : Hid (RnB ⟨valL f, valL c⟩) := hidP ⟨by dsimp only; omega, by dsimp only; omega⟩
  obtain ⟨w5, hw5⟩ : ∃ w5, w5 = w4.alloc (.cells #[.int .i64 (valL f : Int), .int .i64 (valL c : Int)] 255) := ⟨_, rfl⟩
  have HW5 : Hid (w5 = _) := hw5
  have HP5 := hidP (HP4.out.below (w' := w5) (by rw [hw5]; exact bal))
  have HT5 := hidP (HT4.out.trans (Touch.of_below (b := w5) (by rw [hw5]; exact bal)))
  have HR5 : Hid ((w5.cell? ⟨w4.heap.size, 0, none⟩ = some (.int .i64 (valL f : Int)) ∧ w5.cell? ⟨w4.heap.size, 1, none⟩ = some (.int .i64 (valL c : Int))) ∧ w4.heap.size < w5.heap.size) := hidP (by rw [hw5]; refine ⟨⟨?_, ?_⟩, ?_⟩ <;> simp [go_sem])
  clear hw5
  have t1 := hidP (opt_any b mb B at_ v (paOf all) kSha sh w5 HP5.out)
  go_wp2_with fail
  rw [← HW5.out]
  refine t1.out.mono ?_
  rintro e w6 ⟨rfl, hp6, ht6⟩
  have HP6 := hidP hp6
  have HT6 := hidP (HT5.out.trans (ht6.up (S' := PT b mb B) (fun k hk => .inl hk)))
  have hb6 : w6.heap[w4.heap.size]? = w5.heap[w4.heap.size]? := ht6.block _ HR5.out.2 (by have := HBB.out; omega)
  have HR6 : Hid (w6.cell? ⟨w4.heap.size, 0, none⟩ = some (.int .i64 (valL f : Int)) ∧ w6.cell? ⟨w4.heap.size, 1, none⟩ = some (.int .i64 (valL c : Int))) := hidP ⟨(World.cell?_of_block hb6).trans HR5.out.1.1, (World.cell?_of_block hb6).trans HR5.out.1.2⟩
  have hz46 : w4.heap.size < w6.heap.size := Nat.lt_of_lt_of_le HR5.out.2 ht6.size
  clear hp6 ht6 hb6 t1
  obtain ⟨sx, hx⟩ := HP6.out.p
  have t1 := hidP (end_yes b at_ sx w6 hx)
  clear hx
  go_wp2_with fail
  refine t1.out.mono ?_
  rintro e wz ⟨rfl, ew⟩
  obtain rfl : w6 = wz := ew.symm
  clear t1 sx
  have q0 := HP6.out.i.c0
  have hlk := run_lookO mb (seeAll all) n w6 HP6.out.i.mp
  have HSE : Hid ((seeAll all n).isSome = true ∨ seeAll all n = none) := hidP (by cases seeAll all n <;> simp)
  obtain ⟨ov, hov⟩ : ∃ ov, seeO (seeAll all) n = ov := ⟨_, rfl⟩
  rw [hov] at hlk
  obtain ⟨OF, OC, OS, OP⟩ := ov
  dsimp only [oV] at hlk
  obtain ⟨w7, hw7⟩ : ∃ w7, w7 = w6.alloc (.cells #[.int .i64 OF, .int .i64 OC, .bool OS, .int .i64 OP] 257) := ⟨_, rfl⟩
  have hb7 : Below w6.heap.size w6 w7 := by rw [hw7]; exact bal
  have HW7 : Hid (w7 = _) := hw7
  have HP7 := hidP (HP6.out.below hb7)
  have HT7 := hidP (HT6.out.trans (Touch.of_below hb7))
  have HR7 : Hid (w7.cell? ⟨w4.heap.size, 0, none⟩ = some (.int .i64 (valL f : Int)) ∧ w7.cell? ⟨w4.heap.size, 1, none⟩ = some (.int .i64 (valL c : Int))) := hidP ⟨(hb7.cell (p := ⟨w4.heap.size, 0, none⟩) hz46).trans HR6.out.1, (hb7.cell (p := ⟨w4.heap.size, 1, none⟩) hz46).trans HR6.out.2⟩
  have hz47 : w4.heap.size < w7.heap.size := Nat.lt_of_lt_of_le hz46 hb7.size
  clear hov hw7 hb7
  rcases HSE.out with hsee | hsee
  · rw [hsee] at hlk
    have HNO : Hid (codeL all (⟨1, n, valL c, valL f, 0, sh⟩ : St) = 5) := hidP (by rw [HCO.out, if_pos hsee])
    have t1 := hidP (refuse_yes b 5 at_ w7 HP7.out.i.c4)
    go_wp2_with fail
    rw [← HW7.out]
    refine t1.out.mono ?_
    rintro e wz ⟨rfl, ew⟩
    obtain rfl : w7 = wz := ew.symm
    exact ⟨rfl, HT7.out, Ends.no HNO.out (by decide)⟩
  have his : (seeAll all n).isSome = false := by rw [hsee]; rfl
  rw [his] at hlk
  have HSN : Hid (seeAll all n = none) := hsee
  have HC1 : Hid (codeL all (⟨1, n, valL c, valL f, 0, sh⟩ : St) = if fitsB ⟨valL f, valL c⟩ 65536 = true then (if (framesOf all).any (meetR ⟨valL f, valL c⟩) = true then 8 else 0) else 7) := hidP (by rw [HCO.out, if_neg (by rw [his]; decide)])
  have HMP7 : Hid (∀ wX, Below w7.heap.size w7 wX → MapO wX mb (seeAll all)) := hidP (fun wX hX => (HP7.out.below hX).i.mp)
  clear hsee his
  have t1 := hidP (refuse_no b 5 w7)
  go_wp2_with fail
  rw [← HW7.out]
  refine t1.out.mono ?_
  rintro e wz ⟨rfl, ew⟩
  obtain rfl : w7 = wz := ew.symm
  clear t1 hlk q0 HW7
  obtain ⟨r0, r1⟩ := HR7.out
  have t1 := hidP (fits_any ⟨valL f, valL c⟩ 65536 w7 HRB.out)
  go_wp2_with fail
  refine t1.out.mono ?_
  rintro e w8 ⟨rfl, hb8⟩
  have HP8 := hidP (HP7.out.below hb8)
  have HT8 := hidP (HT7.out.trans (Touch.of_below hb8))
  have HR8 : Hid (w8.cell? ⟨w4.heap.size, 0, none⟩ = some (.int .i64 (valL f : Int)) ∧ w8.cell? ⟨w4.heap.size, 1, none⟩ = some (.int .i64 (valL c : Int))) := hidP ⟨(hb8.cell (p := ⟨w4.heap.size, 0, none⟩) hz47).trans r0, (hb8.cell (p := ⟨w4.heap.size, 1, none⟩) hz47).trans r1⟩
  have hz48 : w4.heap.size < w8.heap.size := Nat.lt_of_lt_of_le hz47 hb8.size
  clear t1 r0 r1 hb8
  cases hfit : fitsB ⟨valL f, valL c⟩ 65536 with
  | false =>
    have HNO : Hid (codeL all (⟨1, n, valL c, valL f, 0, sh⟩ : St) = 7) := hidP (by rw [HC1.out, hfit]; rfl)
    have t1 := hidP (refuse_yes b 7 at_ w8 HP8.out.i.c4)
    go_wp2_with fail
    refine t1.out.mono ?_
    rintro e wz ⟨rfl, ew⟩
    obtain rfl : w8 = wz := ew.symm
    exact ⟨rfl, HT8.out, Ends.no HNO.out (by decide)⟩
  | true =>
    have t1 := hidP (refuse_no b 7 w8)
    go_wp2_with fail
    refine t1.out.mono ?_
    rintro e wz ⟨rfl, ew⟩
    obtain rfl : w8 = wz := ew.symm
    clear t1
    have HC2 : Hid (codeL all (⟨1, n, valL c, valL f, 0, sh⟩ : St) = if (framesOf all).any (meetR ⟨valL f, valL c⟩) = true then 8 else 0) := hidP (by rw [HC1.out, hfit]; rfl)
    clear hfit
    have HM : Hid (∀ wX, Below w8.heap.size w8 wX → Calls Try.prog 199 #[.agg #[.int .i64 (valL f : Int), .int .i64 (valL c : Int)], .slice v.fa (framesOf all).length v.fc] wX fun e w' => e = .returned (.bool ((framesOf all).any (meetR ⟨valL f, valL c⟩))) ∧ Below wX.heap.size wX w') := hidP (fun wX hX => meets_any ⟨valL f, valL c⟩ v.fa v.fc B (framesOf all) wX HRB.out HFR.out (by omega) (HP8.out.i.rf.below hX))
    have HS : Hid (∀ wX, Below w8.heap.size w8 wX → wX.cell? ⟨w4.heap.size, 0, none⟩ = some (.int .i64 (valL f : Int)) ∧ wX.cell? ⟨w4.heap.size, 1, none⟩ = some (.int .i64 (valL c : Int)) ∧ wX.cell? ⟨b, 1, none⟩ = some (.slice v.fa (framesOf all).length v.fc)) := hidP (fun wX hX => ⟨(hX.cell (p := ⟨w4.heap.size, 0, none⟩) hz48).trans HR8.out.1, (hX.cell (p := ⟨w4.heap.size, 1, none⟩) hz48).trans HR8.out.2, (hX.cell (p := ⟨b, 1, none⟩) HP8.out.i.blt).trans HP8.out.i.c1⟩)
    go_wp2_with fail
    refine wp_region_held_drew (S := fun wX => wX.cell? ⟨w4.heap.size, 0, none⟩ = some (.int .i64 (valL f : Int)) ∧ wX.cell? ⟨w4.heap.size, 1, none⟩ = some (.int .i64 (valL c : Int)) ∧ wX.cell? ⟨b, 1, none⟩ = some (.slice v.fa (framesOf all).length v.fc)) (by kernel_rfl) (HS.out _ (Below.refl _ _).drew) (fun hHeld => ?_)
    refine tk 0 ?_
    refine tk 1 ?_
    refine tk 2 ?_
    refine tk 3 ?_
    refine tk 4 ?_
    refine tk 5 ?_
    refine wpAnyH_ready (rs := [6]) (by kernel_rfl) (by simp) ?_
    refine AllReadyH.cons rfl (fun K hK => ?_) AllReadyH.nil
    go_simp
    refine (HM.out _ (Below.refl _ _).drew).mono ?_
    rintro e w9 ⟨rfl, hb9⟩
    have hb89 : Below w8.heap.size w8 w9 := (Below.refl _ _).drew.trans hb9
    refine hK.out _ _ (HS.out _ hb89) (fun hHeld2 => ?_)
    clear hK K hb9
    have HP9 := hidP (HP8.out.below hb89)
    have HT9 := hidP (HT8.out.trans (Touch.of_below hb89))
    have HR9 : Hid (w9.cell? ⟨w4.heap.size, 0, none⟩ = some (.int .i64 (valL f : Int)) ∧ w9.cell? ⟨w4.heap.size, 1, none⟩ = some (.int .i64 (valL c : Int))) := hidP ⟨(HS.out w9 hb89).1, (HS.out w9 hb89).2.1⟩
    have hz49 : w4.heap.size < w9.heap.size := Nat.lt_of_lt_of_le hz48 hb89.size
    have HS9 := hidP (HS.out w9 hb89)
    clear hHeld hHeld2 hb89 HM HS
    cases hmt : (framesOf all).any (meetR ⟨valL f, valL c⟩) with
    | true =>
      have HNO : Hid (codeL all (⟨1, n, valL c, valL f, 0, sh⟩ : St) = 8) := hidP (by rw [HC2.out, hmt]; rfl)
      have t4 := hidP (refuse_yes b 8 at_ w9 HP9.out.i.c4)
      refine wpAnyH_ready (rs := [7]) (by kernel_rfl) (by simp) ?_
      refine AllReadyH.cons rfl (fun K hK => ?_) AllReadyH.nil
      go_simp
      refine t4.out.mono ?_
      rintro e wz ⟨rfl, ew⟩
      obtain rfl : w9 = wz := ew.symm
      exact ⟨rfl, HT9.out, Ends.no HNO.out (by decide)⟩
    | false =>
      have HC : Hid (codeL all (⟨1, n, valL c, valL f, 0, sh⟩ : St) = 0) := hidP (by rw [HC2.out, hmt]; rfl)
      have t4 := hidP (refuse_no b 8 w9)
      refine wpAnyH_ready (rs := [7]) (by kernel_rfl) (by simp) ?_
      refine AllReadyH.cons rfl (fun K hK => ?_) AllReadyH.nil
      go_simp
      refine t4.out.mono ?_
      rintro e wz ⟨rfl, ew⟩
      obtain rfl : w9 = wz := ew.symm
      refine hK.out _ _ HS9.out (fun hHeld3 => ?_)
      clear hK K t4 hHeld3 HS9 hmt
      refine wpAnyH_done (by kernel_rfl) ?_ _
      obtain ⟨wP, hput, hmP, hgP, hzP⟩ := run_putO mb (seeAll all) n ⟨valL f, valL c, sh, 0⟩ w9.drew (HP9.out.i.below (Below.refl _ _).drew).mp
      dsimp only [oV] at hput
      have HPP : Hid (PI wP b mb B at_ v ⟨setG (seeAll all) n ⟨valL f, valL c, sh, 0⟩, framesOf all, pagesOf all, regsOf all⟩) := hidP ((HP9.out.i.below (Below.refl _ _).drew).putO hgP hmP)
      have tP : Touch (fun k => k = mb) w9 wP := ⟨hgP.os, hgP.tape, hgP.output, hgP.size, fun k hk hn => hgP.block k hk (fun e => hn (by injection e))⟩
      have HTP := hidP (HT9.out.trans (tP.up (S' := PT b mb B) (fun k hk => .inr (.inl hk))))
      have eP : wP.heap[w4.heap.size]? = w9.heap[w4.heap.size]? := tP.block _ hz49 (by have := HMB.out; omega)
      have HRP : Hid (∀ wX, Below wP.heap.size wP wX → wX.cell? ⟨w4.heap.size, 0, none⟩ = some (.int .i64 (valL f : Int)) ∧ wX.cell? ⟨w4.heap.size, 1, none⟩ = some (.int .i64 (valL c : Int))) := hidP (fun wX hX => ⟨(hX.cell (p := ⟨w4.heap.size, 0, none⟩) (Nat.lt_of_lt_of_le hz49 tP.size)).trans ((World.cell?_of_block eP).trans HR9.out.1), (hX.cell (p := ⟨w4.heap.size, 1, none⟩) (Nat.lt_of_lt_of_le hz49 tP.size)).trans ((World.cell?_of_block eP).trans HR9.out.2)⟩)
      have HSM : Hid ((∀ wX, Below w9.heap.size w9 wX → wX.cell? ⟨b, 0, none⟩ = some (.map (some mb)) ∧ wX.cell? ⟨w4.heap.size, 0, none⟩ = some (.int .i64 (valL f : Int)) ∧ wX.cell? ⟨w4.heap.size, 1, none⟩ = some (.int .i64 (valL c : Int))) ∧ (wP.cell? ⟨b, 0, none⟩ = some (.map (some mb)) ∧ wP.cell? ⟨w4.heap.size, 0, none⟩ = some (.int .i64 (valL f : Int)) ∧ wP.cell? ⟨w4.heap.size, 1, none⟩ = some (.int .i64 (valL c : Int)))) := hidP ⟨fun wX hX => ⟨(hX.cell (p := ⟨b, 0, none⟩) HP9.out.i.blt).trans HP9.out.i.c0, (hX.cell (p := ⟨w4.heap.size, 0, none⟩) hz49).trans HR9.out.1, (hX.cell (p := ⟨w4.heap.size, 1, none⟩) hz49).trans HR9.out.2⟩, HPP.out.c0, HRP.out wP (Below.refl _ _)⟩
      have hz4P : w4.heap.size < wP.heap.size := Nat.lt_of_lt_of_le hz49 tP.size
      clear hmP hgP hzP tP eP
      go_wp2_with fail
      refine wp_region_held_drew (S := fun wX => wX.cell? ⟨b, 0, none⟩ = some (.map (some mb)) ∧ wX.cell? ⟨w4.heap.size, 0, none⟩ = some (.int .i64 (valL f : Int)) ∧ wX.cell? ⟨w4.heap.size, 1, none⟩ = some (.int .i64 (valL c : Int))) (by kernel_rfl) (HSM.out.1 _ (Below.refl _ _).drew) (fun hHeld => ?_)
      refine tk 0 ?_
      refine tk 1 ?_
      refine tk 2 ?_
      refine tk 3 ?_
      refine tk 4 ?_
      refine tk 5 ?_
      refine tk 6 ?_
      refine tk 7 ?_
      refine wpAnyH_ready (rs := [8]) (by kernel_rfl) (by simp) ?_
      refine AllReadyH.cons rfl (fun K hK => ?_) AllReadyH.nil
      go_simp
      refine hK.out _ _ HSM.out.2 (fun hHeld2 => ?_)
      clear hK K hHeld hHeld2 hput HSM
      refine wpAnyH_done (by kernel_rfl) ?_ _
      have nr : oP v.fa ≠ some w4.heap.size := fun e => by have := HOW.out _ e; omega
      have HFIN : Hid (paOf (all ++ [(⟨1, n, valL c, valL f, 0, sh⟩ : St)]) = ⟨setG (seeAll all) n ⟨valL f, valL c, sh, 0⟩, framesOf all ++ [⟨valL f, valL c⟩], pagesOf all, regsOf all⟩) := hidP (HPA.out HSN.out)
      have q2 := HPP.out.c1
      have f2 := HPP.out.fz 1
      have HOWN : Hid ((wP.drew.alloc (.cells #[.int .i64 (valL f : Int), .int .i64 (valL c : Int)] 255)).ownsRow B 255 2 (.slice v.fa (framesOf all).length v.fc) (framesOf all).length (ecells eRunR (framesOf all))) := hidP (HPP.out.rf.below ((Below.refl _ _).drew.alloc (by simp) _))
      have HNEWS : Hid (∀ j u, ([.int .i64 (valL f : Int), .int .i64 (valL c : Int)] : List Value)[j]? = some u → (wP.drew.alloc (.cells #[.int .i64 (valL f : Int), .int .i64 (valL c : Int)] 255)).cell? ((⟨wP.heap.size, 0, none⟩ : Addr).add j) = some u) := hidP (World.news_of_block (cs := #[.int .i64 (valL f : Int), .int .i64 (valL c : Int)]) (heap_alloc_new wP.drew _))
      have hb3 : B ≤ wP.heap.size := HPP.out.bd
      have hbl3 : b < wP.heap.size := HPP.out.blt
      have HNE : Hid (∀ wn, (wP.drew.alloc (.cells #[.int .i64 (valL f : Int), .int .i64 (valL c : Int)] 255)).grownBy wn (oP v.fa) → (∀ k, k < wP.heap.size → oP v.fa ≠ some k → wn.heap[k]? = wP.heap[k]?)) := hidP (fun wn hg k hk hn => (hg.block k (by simp; omega) (fun e => hn e.symm)).trans (Below.heap_alloc _ _ _ hk))
      have nb : oP v.fa ≠ some b := fun e => by have := (HPP.out.of.1 b e).1; have := HBB.out; omega
      have HEND : Hid (∀ g1 cap1 wn, wn.ownsRow B 255 2 (.slice (some ⟨g1, 0, none⟩) ((framesOf all).length + 1) cap1) ((framesOf all).length + 1) (ecells eRunR (framesOf all) ++ [.int .i64 (valL f : Int), .int .i64 (valL c : Int)]) → (wP.drew.alloc (.cells #[.int .i64 (valL f : Int), .int .i64 (valL c : Int)] 255)).grownBy wn (oP v.fa) → (oP v.fa = some g1 ∨ g1 = wP.heap.size + 1) → Touch (PT b mb B) w0 (wn.setCell ⟨b, 1, none⟩ (.slice (some ⟨g1, 0, none⟩) ((framesOf all).length + 1) cap1)) ∧ ∃ v' x', paOf (all ++ [(⟨1, n, valL c, valL f, 0, sh⟩ : St)]) = x' ∧ PI (wn.setCell ⟨b, 1, none⟩ (.slice (some ⟨g1, 0, none⟩) ((framesOf all).length + 1) cap1)) b mb B at_ v' x') := hidP (fun g1 cap1 wn hown hgrow hat => by
        have ht : Touch (fun k => oP v.fa = some k) wP wn := (Touch.of_below ((Below.refl _ _).drew.alloc (by simp) (.cells #[.int .i64 (valL f : Int), .int .i64 (valL c : Int)] 255))).trans (Touch.of_grown hgrow (fun k e => e))
        refine ⟨HTP.out.trans ((show Touch (PT b mb B) wP wn from ⟨ht.os, ht.tape, ht.output, ht.size, fun k hk hn => ht.block k hk (fun e => hn (.inr (.inr (HPP.out.of.1 k e).1)))⟩).trans ?_), _, _, HFIN.out, HPP.out.addF ht (erow_push (E := eRunR) rfl hown) ?_⟩
        · exact ⟨rfl, rfl, rfl, by simp [World.setCell], fun k hk hn => Below.heap_setCell _ _ _ _ (fun e => hn (.inl e))⟩
        · rcases hat with e | e
          · exact .inl e
          · exact .inr (by omega))
      go_wp2_with fail
      refine wp_region_held_drew (S := fun wX => wX.cell? ⟨w4.heap.size, 0, none⟩ = some (.int .i64 (valL f : Int)) ∧ wX.cell? ⟨w4.heap.size, 1, none⟩ = some (.int .i64 (valL c : Int))) (by kernel_rfl) (HRP.out _ (Below.refl _ _).drew) (fun hHeld => ?_)
      refine tk 0 ?_
      refine tk 1 ?_
      refine tk 2 ?_
      refine tk 3 ?_
      refine tk 5 ?_
      refine wpAnyH_ready (rs := [4, 6]) (by kernel_rfl) (by simp) ?_
      refine AllReadyH.cons rfl (fun K hK => ?_) (AllReadyH.cons rfl (fun K hK => ?_) AllReadyH.nil)
      · go_simp
        refine hK.out _ _ (HRP.out _ ((Below.refl _ _).drew)) (fun hHeld2 => ?_)
        clear hK K
        refine wpAnyH_ready (rs := [6]) (by kernel_rfl) (by simp) ?_
        refine AllReadyH.cons rfl (fun K hK => ?_) AllReadyH.nil
        go_simp
        refine hK.out _ _ (HRP.out _ ((Below.refl _ _).drew.alloc (by simp) _)) (fun hHeld3 => ?_)
        clear hK K
        refine wpAnyH_ready (rs := [7]) (by kernel_rfl) (by simp) ?_
        refine AllReadyH.cons rfl (fun K hK => ?_) AllReadyH.nil
        refine step_append_lies _ (by rfl) (.tmp 62) (.tmp 64) 118 (by rfl) B 255 iR _ 2 16 Try.underlying118 hiR hz0 hz1 hz2 rfl (by omega) (.slice v.fa (framesOf all).length v.fc) (framesOf all).length (ecells eRunR (framesOf all)) (by rfl) HOWN.out ⟨wP.heap.size, 0, none⟩ 1 1 [.int .i64 (valL f : Int), .int .i64 (valL c : Int)] (by rfl) rfl HNEWS.out (by intro v hv; simp at hv; rcases hv with rfl | rfl <;> rfl) (by omega) (by unfold maxLen; omega) (by omega) (by simp; omega) (wP.heap.size + 1) (by simp) ?_
        intro g1 cap1 wn hown hgrow hat hlt3
        rw [oP_slice] at hgrow hat
        have HE := hidP (HEND.out g1 cap1 wn hown hgrow hat)
        have cq2 := (World.cell?_of_block (a := ⟨b, 1, none⟩) (HNE.out wn hgrow b hbl3 nb)).trans q2
        have cf2 := (World.frozen?_of_block (a := ⟨b, 1, none⟩) (HNE.out wn hgrow b hbl3 nb)).trans f2
        have HS2 : Hid (∀ u : Value, (wn.setCell ⟨b, 1, none⟩ u).cell? ⟨w4.heap.size, 0, none⟩ = some (.int .i64 (valL f : Int)) ∧ (wn.setCell ⟨b, 1, none⟩ u).cell? ⟨w4.heap.size, 1, none⟩ = some (.int .i64 (valL c : Int))) := hidP (fun u => ⟨(World.cell?_of_block ((Below.heap_setCell _ _ _ _ (by show w4.heap.size ≠ b; have := HBB.out; omega)).trans (HNE.out wn hgrow _ hz4P nr))).trans (HRP.out wP (Below.refl _ _)).1, (World.cell?_of_block ((Below.heap_setCell _ _ _ _ (by show w4.heap.size ≠ b; have := HBB.out; omega)).trans (HNE.out wn hgrow _ hz4P nr))).trans (HRP.out wP (Below.refl _ _)).2⟩)
        refine hK.out _ _ ⟨(World.cell?_of_block (HNE.out wn hgrow _ hz4P nr)).trans (HRP.out wP (Below.refl _ _)).1, (World.cell?_of_block (HNE.out wn hgrow _ hz4P nr)).trans (HRP.out wP (Below.refl _ _)).2⟩ (fun hHeld4 => ?_)
        clear hK K hgrow hown hat
        refine tk 8 ?_
        refine tk 9 ?_
        refine wpAnyH_ready (rs := [10]) (by kernel_rfl) (by simp) ?_
        refine AllReadyH.cons rfl (fun K hK => ?_) AllReadyH.nil
        go_simp
        refine hK.out _ _ (HS2.out _) (fun hHeld5 => ?_)
        clear hK K
        refine wpAnyH_done (by kernel_rfl) ?_ _
        go_wp2_with fail
        obtain ⟨hq1, v', x', hq2, hq3⟩ := HE.out
        exact bodyPost_end (v := .tuple #[]) (by simp [results, Try.results172, go_sem]) rfl ⟨hq1, Ends.yes HC.out ⟨v', by rw [hq2]; exact hq3⟩⟩
      · go_simp
        refine hK.out _ _ (HRP.out _ ((Below.refl _ _).drew.alloc (by simp) _)) (fun hHeld2 => ?_)
        clear hK K
        refine wpAnyH_ready (rs := [4]) (by kernel_rfl) (by simp) ?_
        refine AllReadyH.cons rfl (fun K hK => ?_) AllReadyH.nil
        go_simp
        refine hK.out _ _ (HRP.out _ ((Below.refl _ _).drew.alloc (by simp) _)) (fun hHeld3 => ?_)
        clear hK K
        refine wpAnyH_ready (rs := [7]) (by kernel_rfl) (by simp) ?_
        refine AllReadyH.cons rfl (fun K hK => ?_) AllReadyH.nil
        refine step_append_lies _ (by rfl) (.tmp 62) (.tmp 64) 118 (by rfl) B 255 iR _ 2 16 Try.underlying118 hiR hz0 hz1 hz2 rfl (by omega) (.slice v.fa (framesOf all).length v.fc) (framesOf all).length (ecells eRunR (framesOf all)) (by rfl) HOWN.out ⟨wP.heap.size, 0, none⟩ 1 1 [.int .i64 (valL f : Int), .int .i64 (valL c : Int)] (by rfl) rfl HNEWS.out (by intro v hv; simp at hv; rcases hv with rfl | rfl <;> rfl) (by omega) (by unfold maxLen; omega) (by omega) (by simp; omega) (wP.heap.size + 1) (by simp) ?_
        intro g1 cap1 wn hown hgrow hat hlt3
        rw [oP_slice] at hgrow hat
        have HE := hidP (HEND.out g1 cap1 wn hown hgrow hat)
        have cq2 := (World.cell?_of_block (a := ⟨b, 1, none⟩) (HNE.out wn hgrow b hbl3 nb)).trans q2
        have cf2 := (World.frozen?_of_block (a := ⟨b, 1, none⟩) (HNE.out wn hgrow b hbl3 nb)).trans f2
        have HS2 : Hid (∀ u : Value, (wn.setCell ⟨b, 1, none⟩ u).cell? ⟨w4.heap.size, 0, none⟩ = some (.int .i64 (valL f : Int)) ∧ (wn.setCell ⟨b, 1, none⟩ u).cell? ⟨w4.heap.size, 1, none⟩ = some (.int .i64 (valL c : Int))) := hidP (fun u => ⟨(World.cell?_of_block ((Below.heap_setCell _ _ _ _ (by show w4.heap.size ≠ b; have := HBB.out; omega)).trans (HNE.out wn hgrow _ hz4P nr))).trans (HRP.out wP (Below.refl _ _)).1, (World.cell?_of_block ((Below.heap_setCell _ _ _ _ (by show w4.heap.size ≠ b; have := HBB.out; omega)).trans (HNE.out wn hgrow _ hz4P nr))).trans (HRP.out wP (Below.refl _ _)).2⟩)
        refine hK.out _ _ ⟨(World.cell?_of_block (HNE.out wn hgrow _ hz4P nr)).trans (HRP.out wP (Below.refl _ _)).1, (World.cell?_of_block (HNE.out wn hgrow _ hz4P nr)).trans (HRP.out wP (Below.refl _ _)).2⟩ (fun hHeld4 => ?_)
        clear hK K hgrow hown hat
        refine tk 8 ?_
        refine tk 9 ?_
        refine wpAnyH_ready (rs := [10]) (by kernel_rfl) (by simp) ?_
        refine AllReadyH.cons rfl (fun K hK => ?_) AllReadyH.nil
        go_simp
        refine hK.out _ _ (HS2.out _) (fun hHeld5 => ?_)
        clear hK K
        refine wpAnyH_done (by kernel_rfl) ?_ _
        go_wp2_with fail
        obtain ⟨hq1, v', x', hq2, hq3⟩ := HE.out
        exact bodyPost_end (v := .tuple #[]) (by simp [results, Try.results172, go_sem]) rfl ⟨hq1, Ends.yes HC.out ⟨v', by rw [hq2]; exact hq3⟩⟩
end Go.Proofs.Ytnmhkgmmpkjjeaa
