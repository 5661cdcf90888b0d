import Derived.Test.YtnmhkgmmpkjjeaaG32
namespace Go.Proofs.Ytnmhkgmmpkjjeaa
open Go.ChangeShapes Go.WideShapes Go.ChangeAt Go.RowKit
set_option linter.unusedVariables false
set_option linter.unusedSimpArgs false
set_option maxRecDepth 100000
attribute [local go_sem ↓] Go.wp_at_zero Go.wp_at_succ
attribute [local go_sem] bs_size bs_cAt bs_app bs_mk bs_cut bs_list

/-! readRegion: a region. -/
theorem bits_or7 {a c : Int} (ha : 0 ≤ a ∧ a ≤ 7) (hc : 0 ≤ c ∧ c ≤ 7) : bits BinOp.or IntKind.i64 a c = pOr a c := by
  have e1 : a = (a.toNat : Int) := by omega
  have e2 : c = (c.toNat : Int) := by omega
  have := pOr_all (fun a c => bits BinOp.or IntKind.i64 (a : Int) (c : Int) = pOr (a : Int) (c : Int)) (by intro a b; revert a b; decide) ha hc
  rw [← e1, ← e2] at this
  exact this
theorem bits_and7 {a : Int} (ha : 0 ≤ a ∧ a ≤ 7) (k : Int) (hk : k = 2 ∨ k = 4) : (bits BinOp.and IntKind.i64 a k != 0) = alw a k := by
  have e1 : a = (a.toNat : Int) := by omega
  have := pOr_all (fun a _ => ∀ k : Int, k = 2 ∨ k = 4 → (bits BinOp.and IntKind.i64 (a : Int) k != 0) = alw (a : Int) k) (by intro a b k hk; rcases hk with rfl | rfl <;> revert a b <;> decide) ha ha k hk
  rw [← e1] at this
  exact this
set_option maxHeartbeats 4000000 in
theorem readReg_ok (b mb B at_ : Nat) (v : PV) (all : List St) (p n q : Txt) (sh : Bool) (w0 : World) (hg : Good all) (hl : all.length ≤ 999) (hp : numOk p = true) (hn : nameL n = true) (hq : ¬ permL q = 0) (hw : ∀ x ∈ p :: n :: q :: (if sh = true then [kHug] else []), 0 < x.length ∧ x.length ≤ 20000) (h : PS w0 b mb B at_ v (paOf all) (p :: n :: q :: (if sh = true then [kHug] else []))) :
    Calls Try.prog 173 #[.pointer (some ⟨b, 0, none⟩)] w0 fun e w' => Touch (PT b mb B) w0 w' ∧ Ends (codeL all (⟨2, n, valL p, 0, permL q, sh⟩ : St)) at_ e (∃ v', PI w' b mb B at_ v' (paOf (all ++ [(⟨2, n, valL p, 0, permL q, sh⟩ : St)]))) := by
  obtain ⟨iR, hiR, hz0, hz1, hz2⟩ := info_parts infoSpan
  have HW : Hid (∀ x ∈ p :: n :: q :: (if sh = true then [kHug] else []), 0 < x.length ∧ x.length ≤ 20000) := hw
  have hP := valL_bd hp
  have hQ := permL_ok q
  have HCO : Hid (codeL all (⟨2, n, valL p, 0, permL q, sh⟩ : St) = match seeAll all n with
      | none => 6
      | some o => regCode o (⟨2, n, valL p, 0, permL q, sh⟩ : St) (pagesOf all)) := hidP (code_reg hg (⟨2, n, valL p, 0, permL q, sh⟩ : St) rfl ⟨hP.1, hP.2, by show (0 : Int) ≤ 0; omega, by show (0 : Int) < 1000000; omega, hQ.1, hQ.2⟩)
  have HPA : Hid (∀ o, seeAll all n = some o → paOf (all ++ [(⟨2, n, valL p, 0, permL q, sh⟩ : St)]) = ⟨setG (seeAll all) n ⟨o.f, o.c, o.sh, pOr o.pm (permL q)⟩, framesOf all, pagesOf all ++ [⟨valL p, o.c⟩], regsOf all ++ [⟨valL p, o.c, o.f, permL q, sh⟩]⟩) := hidP (fun o hh => pa_reg hg (⟨2, n, valL p, 0, permL q, sh⟩ : St) o rfl hh)
  have HPG : Hid (∀ i, i < (pagesOf all).length → RnB (eAt eRunR (pagesOf all) i)) := hidP (pages_rn hg)
  have hpl : (pagesOf all).length ≤ 999 := Nat.le_trans (lens_le all).1 hl
  have hrl : (regsOf all).length ≤ 999 := Nat.le_trans (lens_le all).2.2 hl
  have HOB : Hid (∀ o, seeAll all n = some o → (0 ≤ o.c ∧ o.c ≤ 1000000) ∧ (0 ≤ o.pm ∧ o.pm ≤ 7)) := hidP (fun o ho => by
    unfold seeAll at ho
    split at ho
    · injection ho with ho
      subst ho
      have := objOf_ok hg.s n
      have a0 := this.a0; have a1 := this.a1
      exact ⟨⟨by dsimp only; omega, by dsimp only; omega⟩, orAll_bd _ (fun e he => by have := hg.same_perm n e he; omega)⟩
    · cases ho)
  have HP0 : Hid (PS w0 b mb B at_ v (paOf all) (p :: n :: q :: (if sh = true then [kHug] else []))) := h
  have HT0 : Hid (Touch (PT b mb B) w0 w0) := hidP (Touch.of_below (Below.refl _ _))
  have HBB : Hid (b < B) := h.i.bB
  have HMB : Hid (mb < B) := h.i.mB
  have HOW : Hid ((∀ k, oP v.pa = some k → B ≤ k ∧ k < w0.heap.size) ∧ (∀ k, oP v.ra = some k → k < w0.heap.size) ∧ ∀ k, oP v.fa = some k → k < w0.heap.size) := hidP ⟨fun k hk => h.i.of.2.1 k hk, fun k hk => (h.i.of.2.2 k hk).2, fun k hk => (h.i.of.1 k hk).2⟩
  have hB0 := h.i.bd
  have hbm := h.i.bm
  have hqb : (permL q == 0) = false := by simpa using hq
  clear h hw hq
  go_enter Try.func173, Try.ntmps173
  obtain ⟨sx, hx⟩ := HP0.out.p
  have t1 := hidP (number_yes b at_ sx p (n :: q :: (if sh = true then [kHug] else [])) w0 hx (HW.out p (by simp)).2 hp)
  clear hx
  go_wp2_with fail
  refine t1.out.mono ?_
  rintro e w1 ⟨rfl, tb⟩
  have HP1 := hidP (HP0.out.tookB tb).1
  have HT1 := hidP (HT0.out.trans (HP0.out.tookB tb).2)
  clear tb t1 sx
  obtain ⟨sx, hx⟩ := HP1.out.p
  have t1 := hidP (name_yes b at_ sx n (q :: (if sh = true then [kHug] else [])) w1 hx (HW.out n (by simp)).1 (HW.out n (by simp)).2 hn)
  clear hx
  go_wp2_with fail
  refine t1.out.mono ?_
  rintro e w2 ⟨rfl, tb⟩
  have HP2 := hidP (HP1.out.took tb).1
  have HT2 := hidP (HT1.out.trans (HP1.out.took tb).2)
  clear tb t1 sx
  obtain ⟨sx, hx⟩ := HP2.out.p
  have t1 := hidP (next_yes b at_ sx q (if sh = true then [kHug] else []) w2 hx)
  clear hx
  go_wp2_with fail
  refine t1.out.mono ?_
  rintro e w3 ⟨rfl, tb⟩
  have HP3 := hidP (HP2.out.took tb).1
  have HT3 := hidP (HT2.out.trans (HP2.out.took tb).2)
  clear tb t1 sx
  have t1 := hidP (permW_any q w3)
  go_wp2_with fail
  refine t1.out.mono ?_
  rintro e wz ⟨rfl, ew⟩
  obtain rfl : w3 = wz := ew.symm
  clear t1
  have t1 := hidP (refuse_no b 4 w3)
  go_wp2_with fail
  refine t1.out.mono ?_
  rintro e wz ⟨rfl, ew⟩
  obtain rfl : w3 = wz := ew.symm
  clear t1
  have t1 := hidP (opt_any b mb B at_ v (paOf all) kHug sh w3 HP3.out)
  go_wp2_with fail
  refine t1.out.mono ?_
  rintro e w4 ⟨rfl, hp4, ht4⟩
  have HP4 := hidP hp4
  have HT4 := hidP (HT3.out.trans (ht4.up (S' := PT b mb B) (fun k hk => .inl hk)))
  clear hp4 ht4 t1
  obtain ⟨sx, hx⟩ := HP4.out.p
  have t1 := hidP (end_yes b at_ sx w4 hx)
  clear hx
  go_wp2_with fail
  refine t1.out.mono ?_
  rintro e wz ⟨rfl, ew⟩
  obtain rfl : w4 = wz := ew.symm
  clear t1 sx
  have hB4 : B ≤ w4.heap.size := HP4.out.i.bd
  have h04 : w0.heap.size ≤ w4.heap.size := HT4.out.size
  have q0 := HP4.out.i.c0
  have hlk := run_lookO mb (seeAll all) n w4 HP4.out.i.mp
  obtain ⟨ov, hov⟩ : ∃ ov, seeO (seeAll all) n = ov := ⟨_, rfl⟩
  rw [hov] at hlk
  obtain ⟨OF, OC, OS, OP⟩ := ov
  dsimp only [oV] at hlk
  have HSE : Hid (seeAll all n = none ∨ seeAll all n = some ⟨OF, OC, OS, OP⟩) := hidP (by
    unfold seeO at hov
    cases hs : seeAll all n with
    | none => exact .inl rfl
    | some o => rw [hs] at hov; exact .inr (congrArg some hov))
  obtain ⟨w5, hw5⟩ : ∃ w5, w5 = w4.alloc (.cells #[.int .i64 OF, .int .i64 OC, .bool OS, .int .i64 OP] 257) := ⟨_, rfl⟩
  have hb5 : Below w4.heap.size w4 w5 := by rw [hw5]; exact bal
  have HW5 : Hid (w5 = _) := hw5
  have HP5 := hidP (HP4.out.below hb5)
  have HT5 := hidP (HT4.out.trans (Touch.of_below hb5))
  have HR5 : Hid ((w5.cell? ⟨w4.heap.size, 0, none⟩ = some (.int .i64 OF) ∧ w5.cell? ⟨w4.heap.size, 1, none⟩ = some (.int .i64 OC) ∧ w5.cell? ⟨w4.heap.size, 2, none⟩ = some (.bool OS) ∧ w5.cell? ⟨w4.heap.size, 3, none⟩ = some (.int .i64 OP)) ∧ (∀ i, w5.frozen? ⟨w4.heap.size, i, none⟩ = false) ∧ w4.heap.size < w5.heap.size) := hidP (by rw [hw5]; refine ⟨⟨?_, ?_, ?_, ?_⟩, ?_, ?_⟩ <;> simp [go_sem])
  clear hov hw5 hb5
  rcases HSE.out with hsee | hsee
  · have his : (seeAll all n).isSome = false := by rw [hsee]; rfl
    rw [his] at hlk
    have HNO : Hid (codeL all (⟨2, n, valL p, 0, permL q, sh⟩ : St) = 6) := hidP (by rw [HCO.out, hsee])
    have t1 := hidP (refuse_yes b 6 at_ w5 HP5.out.i.c4)
    go_wp2_with fail
    rw [← HW5.out]
    refine t1.out.mono ?_
    rintro e wz ⟨rfl, ew⟩
    obtain rfl : w5 = wz := ew.symm
    exact ⟨rfl, HT5.out, Ends.no HNO.out (by decide)⟩
  have his : (seeAll all n).isSome = true := by rw [hsee]; rfl
  rw [his] at hlk
  obtain ⟨bOC, bOP⟩ := HOB.out _ hsee
  dsimp only at bOC bOP
  have HC1 : Hid (codeL all (⟨2, n, valL p, 0, permL q, sh⟩ : St) = regCode ⟨OF, OC, OS, OP⟩ (⟨2, n, valL p, 0, permL q, sh⟩ : St) (pagesOf all)) := hidP (by rw [HCO.out, hsee])
  have HFN : Hid (paOf (all ++ [(⟨2, n, valL p, 0, permL q, sh⟩ : St)]) = ⟨setG (seeAll all) n ⟨OF, OC, OS, pOr OP (permL q)⟩, framesOf all, pagesOf all ++ [⟨valL p, OC⟩], regsOf all ++ [⟨valL p, OC, OF, permL q, sh⟩]⟩) := hidP (HPA.out _ hsee)
  clear hsee his
  have t1 := hidP (refuse_no b 6 w5)
  go_wp2_with fail
  rw [← HW5.out]
  refine t1.out.mono ?_
  rintro e wz ⟨rfl, ew⟩
  obtain rfl : w5 = wz := ew.symm
  clear t1 hlk q0 HW5
  obtain ⟨⟨r0, r1, r2, r3⟩, -, hz5⟩ := HR5.out
  have t1 := hidP (takePages_any ⟨valL p, OC⟩ b mb B at_ v (paOf all) w5 ⟨by dsimp only; omega, bOC⟩ HP5.out.i HPG.out (by show (pagesOf all).length ≤ 1000; omega))
  go_wp2_with fail
  refine t1.out.mono ?_
  rintro e w6 ⟨ht6, he6⟩
  have HT6 := hidP (HT5.out.trans (ht6.up (S' := PT b mb B) (fun k hk => hk.elim .inl (fun e => .inr (.inr (HOW.out.1 k e).1)))))
  have e6 : w6.heap[w4.heap.size]? = w5.heap[w4.heap.size]? := ht6.block _ hz5 (fun hh => hh.elim (fun e => by have := HBB.out; omega) (fun e => by have := (HOW.out.1 _ e).2; omega))
  have HR6 : Hid ((w6.cell? ⟨w4.heap.size, 0, none⟩ = some (.int .i64 OF) ∧ w6.cell? ⟨w4.heap.size, 1, none⟩ = some (.int .i64 OC) ∧ w6.cell? ⟨w4.heap.size, 2, none⟩ = some (.bool OS) ∧ w6.cell? ⟨w4.heap.size, 3, none⟩ = some (.int .i64 OP)) ∧ (∀ i, w6.frozen? ⟨w4.heap.size, i, none⟩ = false) ∧ w4.heap.size < w6.heap.size) := hidP ⟨⟨(World.cell?_of_block e6).trans r0, (World.cell?_of_block e6).trans r1, (World.cell?_of_block e6).trans r2, (World.cell?_of_block e6).trans r3⟩, fun i => (World.frozen?_of_block (a := ⟨w4.heap.size, i, none⟩) e6).trans (HR5.out.2.1 i), Nat.lt_of_lt_of_le hz5 ht6.size⟩
  clear t1 ht6 e6 r0 r1 r2 r3
  by_cases htk : tkCode ⟨valL p, OC⟩ (pagesOf all) = 0
  case neg =>
    have HNO : Hid (codeL all (⟨2, n, valL p, 0, permL q, sh⟩ : St) = tkCode ⟨valL p, OC⟩ (pagesOf all)) := hidP (by rw [HC1.out]; unfold regCode; rw [if_pos htk])
    obtain rfl := he6.2 htk
    exact ⟨rfl, HT6.out, Ends.no HNO.out htk⟩
  obtain ⟨rfl, v6, ⟨hra, hfa, hpa⟩, hp6⟩ := he6.1 htk
  have HP6 : Hid (PI w6 b mb B at_ v6 ⟨seeAll all, framesOf all, pagesOf all ++ [⟨valL p, OC⟩], regsOf all⟩) := hidP hp6
  have HNX : Hid ((∀ k, oP v6.fa = some k → k ≠ w4.heap.size) ∧ (∀ k, oP v6.pa = some k → k ≠ w4.heap.size) ∧ ∀ k, oP v6.ra = some k → k ≠ w4.heap.size) := hidP ⟨fun k hk => by rw [hfa] at hk; have := HOW.out.2.2 k hk; omega, fun k hk => (hpa k hk).elim (fun e => by have := (HOW.out.1 k e).2; omega) (fun e => by omega), fun k hk => by rw [hra] at hk; have := HOW.out.2.1 k hk; omega⟩
  have HC2 : Hid (codeL all (⟨2, n, valL p, 0, permL q, sh⟩ : St) = if OS = false ∧ OP ≠ 0 then 9 else if OS = true ∧ alw (pOr OP (permL q)) 2 = true ∧ alw (pOr OP (permL q)) 4 = true then 10 else 0) := hidP (by rw [HC1.out]; unfold regCode; rw [if_neg (fun hh => hh htk)])
  clear hp6 hra hfa hpa he6 htk
  obtain ⟨⟨r0, r1, r2, r3⟩, fz, hz6⟩ := HR6.out
  have HOR := bits_or7 bOP hQ
  have HNB := pOr_bd bOP hQ
  obtain ⟨NP, hNP⟩ : ∃ NP, pOr OP (permL q) = NP := ⟨_, rfl⟩
  rw [hNP] at HOR HC2 HFN HNB
  have HA2 := bits_and7 HNB 2 (.inl rfl)
  have HA4 := bits_and7 HNB 4 (.inr rfl)
  clear hNP
  have t9 := hidP (refuse_no b 9 w6)
  have t9y := hidP (refuse_yes b 9 at_ w6 HP6.out.c4)
  have HC3 : Hid (¬ (OS = false ∧ OP ≠ 0) → codeL all (⟨2, n, valL p, 0, permL q, sh⟩ : St) = if OS = true ∧ alw NP 2 = true ∧ alw NP 4 = true then 10 else 0) := hidP (fun h9 => by rw [HC2.out, if_neg h9])
  go_upto_region 9 with fail
  refine wp_mid 99 [(0, .pointer (some ⟨b, 0, none⟩)), (2, .int .i64 (valL p : Int)), (3, .string (bs n)), (4, .int .i64 (permL q)), (5, .bool sh), (6, .pointer (some ⟨w4.heap.size, 0, none⟩))] (fun wz => wz = w6 ∧ Hid (¬ (OS = false ∧ OP ≠ 0))) ?_ ?_
  · intro J K hJ hK
    cases hOS : OS with
    | true =>
      subst hOS
      go_wp2_with fail
      refine t9.out.mono ?_
      rintro e wz ⟨rfl, ew⟩
      obtain rfl : w6 = wz := ew.symm
      go_wp2_with fail
      refine Met.intro (hJ _ _ (by simp) (by simp only [Fs]; and_intros <;> simp) ⟨rfl, hidP (fun hh => by cases hh.1)⟩)
    | false =>
      subst hOS
      by_cases h0 : OP = 0
      · have h0b : (OP != 0) = false := by simpa using h0
        have HH0 : Hid (OP = 0) := h0
        clear h0
        go_wp2_with fail
        refine t9.out.mono ?_
        rintro e wz ⟨rfl, ew⟩
        obtain rfl : w6 = wz := ew.symm
        go_wp2_with fail
        refine Met.intro (hJ _ _ (by simp) (by simp only [Fs]; and_intros <;> simp) ⟨rfl, hidP (fun hh => hh.2 HH0.out)⟩)
      · have h0b : (OP != 0) = true := by simpa using h0
        have HNO : Hid (codeL all (⟨2, n, valL p, 0, permL q, sh⟩ : St) = 9) := hidP (by rw [HC2.out, if_pos ⟨rfl, h0⟩])
        clear h0
        go_wp2_with fail
        refine t9y.out.mono ?_
        rintro e wz ⟨rfl, ew⟩
        obtain rfl : w6 = wz := ew.symm
        exact ⟨rfl, HT6.out, Ends.no HNO.out (by decide)⟩
  intro tm wz hsz hs hwz
  obtain ⟨hwz, h9⟩ := hwz
  obtain rfl : w6 = wz := hwz.symm
  simp only [Fs] at hs
  obtain ⟨s0, s2, s3, s4, s5, s6, -⟩ := hs
  have HC4 := hidP (HC3.out h9.out)
  clear HC3 HC2 h9 t9 t9y
  have f3 := fz 3
  obtain ⟨w7, hw7⟩ : ∃ w7, w7 = w6.setCell ⟨w4.heap.size, 3, none⟩ (.int .i64 NP) := ⟨_, rfl⟩
  have u7 : Touch (fun k => k = w4.heap.size) w6 w7 := by rw [hw7]; exact pset (a := ⟨w4.heap.size, 3, none⟩)
  have HW7 : Hid (w7 = _) := hw7
  have HP7 := hidP (HP6.out.touch u7 (by have := HBB.out; omega) (by have := HMB.out; omega) (fun k hk => HNX.out.1 k hk) (fun k hk => HNX.out.2.1 k hk) (fun k hk => HNX.out.2.2 k hk))
  have HT7 := hidP (HT6.out.trans (u7.up (S' := PT b mb B) (fun k hk => .inr (.inr (by omega)))))
  have HR7 : Hid (w7.cell? ⟨w4.heap.size, 0, none⟩ = some (.int .i64 OF) ∧ w7.cell? ⟨w4.heap.size, 1, none⟩ = some (.int .i64 OC) ∧ w7.cell? ⟨w4.heap.size, 2, none⟩ = some (.bool OS) ∧ w7.cell? ⟨w4.heap.size, 3, none⟩ = some (.int .i64 NP)) := hidP (by
    rw [hw7]
    refine ⟨?_, ?_, ?_, ?_⟩
    · exact (pcell (by omega)).trans r0
    · exact (pcell (by omega)).trans r1
    · exact (pcell (by omega)).trans r2
    · exact World.cell?_setCell_same _ _ _ r3)
  have hz7 : w4.heap.size < w7.heap.size := Nat.lt_of_lt_of_le hz6 u7.size
  clear hw7 u7 fz
  go_upto_region 11 with fail
  rw [← HW7.out]
  clear r0 r1 r2 r3 f3 HW7
  obtain ⟨-, -, r2, r3⟩ := HR7.out
  have t10 := hidP (refuse_no b 10 w7)
  have t10y := hidP (refuse_yes b 10 at_ w7 HP7.out.c4)
  refine wp_mid 99 [(0, .pointer (some ⟨b, 0, none⟩)), (2, .int .i64 (valL p : Int)), (3, .string (bs n)), (4, .int .i64 (permL q)), (5, .bool sh), (6, .pointer (some ⟨w4.heap.size, 0, none⟩))] (fun wz => wz = w7 ∧ Hid (codeL all (⟨2, n, valL p, 0, permL q, sh⟩ : St) = 0)) ?_ ?_
  · intro J K hJ hK
    cases hOS : OS with
    | false =>
      subst hOS
      have HZ : Hid (codeL all (⟨2, n, valL p, 0, permL q, sh⟩ : St) = 0) := hidP (by rw [HC4.out]; simp)
      go_wp2_with fail
      refine t10.out.mono ?_
      rintro e wz ⟨rfl, ew⟩
      obtain rfl : w7 = wz := ew.symm
      go_wp2_with fail
      refine Met.intro (hJ _ _ (by simp [hsz]) (by simp only [Fs]; and_intros <;> simp [hsz, s0, s2, s3, s4, s5, s6]) ⟨rfl, HZ⟩)
    | true =>
      subst hOS
      cases h2 : alw NP 2 with
      | false =>
        have HZ : Hid (codeL all (⟨2, n, valL p, 0, permL q, sh⟩ : St) = 0) := hidP (by rw [HC4.out, h2]; simp)
        rw [h2] at HA2
        clear h2
        go_wp2_with fail
        refine t10.out.mono ?_
        rintro e wz ⟨rfl, ew⟩
        obtain rfl : w7 = wz := ew.symm
        go_wp2_with fail
        refine Met.intro (hJ _ _ (by simp [hsz]) (by simp only [Fs]; and_intros <;> simp [hsz, s0, s2, s3, s4, s5, s6]) ⟨rfl, HZ⟩)
      | true =>
        cases h4 : alw NP 4 with
        | false =>
          have HZ : Hid (codeL all (⟨2, n, valL p, 0, permL q, sh⟩ : St) = 0) := hidP (by rw [HC4.out, h4]; simp)
          rw [h2] at HA2
          rw [h4] at HA4
          clear h2 h4
          go_wp2_with fail
          refine t10.out.mono ?_
          rintro e wz ⟨rfl, ew⟩
          obtain rfl : w7 = wz := ew.symm
          go_wp2_with fail
          refine Met.intro (hJ _ _ (by simp [hsz]) (by simp only [Fs]; and_intros <;> simp [hsz, s0, s2, s3, s4, s5, s6]) ⟨rfl, HZ⟩)
        | true =>
          have HNO : Hid (codeL all (⟨2, n, valL p, 0, permL q, sh⟩ : St) = 10) := hidP (by rw [HC4.out, h2, h4]; simp)
          rw [h2] at HA2
          rw [h4] at HA4
          clear h2 h4
          go_wp2_with fail
          refine t10y.out.mono ?_
          rintro e wz ⟨rfl, ew⟩
          obtain rfl : w7 = wz := ew.symm
          exact ⟨rfl, HT7.out, Ends.no HNO.out (by decide)⟩
  clear s0 s2 s3 s4 s5 s6 hsz
  clear tm r2 r3
  intro tm wz hsz hs hwz
  obtain ⟨hwz, HC⟩ := hwz
  obtain rfl : w7 = wz := hwz.symm
  simp only [Fs] at hs
  obtain ⟨s0, s2, s3, s4, s5, s6, -⟩ := hs
  clear HC4 t10 t10y HA2 HA4 HOR
  obtain ⟨wP, hput, hmP, hgP, hzP⟩ := run_putO mb (seeAll all) n ⟨OF, OC, OS, NP⟩ w7.drew (HP7.out.below (Below.refl _ _).drew).mp
  dsimp only [oV] at hput
  have HPP : Hid (PI wP b mb B at_ v6 ⟨setG (seeAll all) n ⟨OF, OC, OS, NP⟩, framesOf all, pagesOf all ++ [⟨valL p, OC⟩], regsOf all⟩) := hidP ((HP7.out.below (Below.refl _ _).drew).putO hgP hmP)
  have tP : Touch (fun k => k = mb) w7 wP := ⟨hgP.os, hgP.tape, hgP.output, hgP.size, fun k hk hn => hgP.block k hk (fun e => hn (by injection e))⟩
  have HTP := hidP (HT7.out.trans (tP.up (S' := PT b mb B) (fun k hk => .inr (.inl hk))))
  have eP : wP.heap[w4.heap.size]? = w7.heap[w4.heap.size]? := tP.block _ hz7 (by have := HMB.out; omega)
  have hz4P : w4.heap.size < wP.heap.size := Nat.lt_of_lt_of_le hz7 tP.size
  have HRP : Hid (∀ wX, Below wP.heap.size wP wX → wX.cell? ⟨w4.heap.size, 0, none⟩ = some (.int .i64 OF) ∧ wX.cell? ⟨w4.heap.size, 1, none⟩ = some (.int .i64 OC)) := hidP (fun wX hX => ⟨(hX.cell (p := ⟨w4.heap.size, 0, none⟩) hz4P).trans ((World.cell?_of_block eP).trans HR7.out.1), (hX.cell (p := ⟨w4.heap.size, 1, none⟩) hz4P).trans ((World.cell?_of_block eP).trans HR7.out.2.1)⟩)
  have HSM : Hid ((∀ wX, Below w7.heap.size w7 wX → wX.cell? ⟨b, 0, none⟩ = some (.map (some mb)) ∧ wX.cell? ⟨w4.heap.size, 0, none⟩ = some (.int .i64 OF) ∧ wX.cell? ⟨w4.heap.size, 1, none⟩ = some (.int .i64 OC) ∧ wX.cell? ⟨w4.heap.size, 2, none⟩ = some (.bool OS) ∧ wX.cell? ⟨w4.heap.size, 3, none⟩ = some (.int .i64 NP)) ∧ (wP.cell? ⟨b, 0, none⟩ = some (.map (some mb)) ∧ wP.cell? ⟨w4.heap.size, 0, none⟩ = some (.int .i64 OF) ∧ wP.cell? ⟨w4.heap.size, 1, none⟩ = some (.int .i64 OC) ∧ wP.cell? ⟨w4.heap.size, 2, none⟩ = some (.bool OS) ∧ wP.cell? ⟨w4.heap.size, 3, none⟩ = some (.int .i64 NP))) := hidP ⟨fun wX hX => ⟨(hX.cell (p := ⟨b, 0, none⟩) HP7.out.blt).trans HP7.out.c0, (hX.cell (p := ⟨w4.heap.size, 0, none⟩) hz7).trans HR7.out.1, (hX.cell (p := ⟨w4.heap.size, 1, none⟩) hz7).trans HR7.out.2.1, (hX.cell (p := ⟨w4.heap.size, 2, none⟩) hz7).trans HR7.out.2.2.1, (hX.cell (p := ⟨w4.heap.size, 3, none⟩) hz7).trans HR7.out.2.2.2⟩, HPP.out.c0, (World.cell?_of_block eP).trans HR7.out.1, (World.cell?_of_block eP).trans HR7.out.2.1, (World.cell?_of_block eP).trans HR7.out.2.2.1, (World.cell?_of_block eP).trans HR7.out.2.2.2⟩
  clear hmP hgP hzP tP eP
  go_wp2_with fail
  refine wp_region_held_drew (S := fun wX => wX.cell? ⟨b, 0, none⟩ = some (.map (some mb)) ∧ wX.cell? ⟨w4.heap.size, 0, none⟩ = some (.int .i64 OF) ∧ wX.cell? ⟨w4.heap.size, 1, none⟩ = some (.int .i64 OC) ∧ wX.cell? ⟨w4.heap.size, 2, none⟩ = some (.bool OS) ∧ wX.cell? ⟨w4.heap.size, 3, none⟩ = some (.int .i64 NP)) (by kernel_rfl) (HSM.out.1 _ (Below.refl _ _).drew) (fun hHeld => ?_)
  refine tk 0 ?_
  refine tk 1 ?_
  refine tk 2 ?_
  refine tk 3 ?_
  refine tk 4 ?_
  refine tk 5 ?_
  refine wpAnyH_ready (rs := [6]) (by kernel_rfl) (by simp) ?_
  refine AllReadyH.cons rfl (fun K hK => ?_) AllReadyH.nil
  go_simp
  refine hK.out _ _ HSM.out.2 (fun hHeld2 => ?_)
  clear hK K hHeld hHeld2 hput HSM
  refine wpAnyH_done (by kernel_rfl) ?_ _
  have nr : oP v6.ra ≠ some w4.heap.size := fun e => HNX.out.2.2 _ e rfl
  have q2 := HPP.out.c3
  have f2 := HPP.out.fz 3
  have HOWN : Hid ((wP.drew.alloc (.cells #[.int .i64 (valL p : Int), .int .i64 OC, .int .i64 OF, .int .i64 (permL q), .bool sh] 125)).ownsRow B 125 5 (.slice v6.ra (regsOf all).length v6.rc) (regsOf all).length (ecells eSpan (regsOf all))) := hidP (HPP.out.rr.below ((Below.refl _ _).drew.alloc (by simp) _))
  have HNEWS : Hid (∀ j u, ([.int .i64 (valL p : Int), .int .i64 OC, .int .i64 OF, .int .i64 (permL q), .bool sh] : List Value)[j]? = some u → (wP.drew.alloc (.cells #[.int .i64 (valL p : Int), .int .i64 OC, .int .i64 OF, .int .i64 (permL q), .bool sh] 125)).cell? ((⟨wP.heap.size, 0, none⟩ : Addr).add j) = some u) := hidP (World.news_of_block (cs := #[.int .i64 (valL p : Int), .int .i64 OC, .int .i64 OF, .int .i64 (permL q), .bool sh]) (heap_alloc_new wP.drew _))
  have hb3 : B ≤ wP.heap.size := HPP.out.bd
  have hbl3 : b < wP.heap.size := HPP.out.blt
  have HNE : Hid (∀ wn, (wP.drew.alloc (.cells #[.int .i64 (valL p : Int), .int .i64 OC, .int .i64 OF, .int .i64 (permL q), .bool sh] 125)).grownBy wn (oP v6.ra) → (∀ k, k < wP.heap.size → oP v6.ra ≠ some k → wn.heap[k]? = wP.heap[k]?)) := hidP (fun wn hg k hk hn => (hg.block k (by simp; omega) (fun e => hn e.symm)).trans (Below.heap_alloc _ _ _ hk))
  have nb : oP v6.ra ≠ some b := fun e => by have := (HPP.out.of.2.2 b e).1; have := HBB.out; omega
  have HEND : Hid (∀ g1 cap1 wn, wn.ownsRow B 125 5 (.slice (some ⟨g1, 0, none⟩) ((regsOf all).length + 1) cap1) ((regsOf all).length + 1) (ecells eSpan (regsOf all) ++ [.int .i64 (valL p : Int), .int .i64 OC, .int .i64 OF, .int .i64 (permL q), .bool sh]) → (wP.drew.alloc (.cells #[.int .i64 (valL p : Int), .int .i64 OC, .int .i64 OF, .int .i64 (permL q), .bool sh] 125)).grownBy wn (oP v6.ra) → (oP v6.ra = some g1 ∨ g1 = wP.heap.size + 1) → Touch (PT b mb B) w0 (wn.setCell ⟨b, 3, none⟩ (.slice (some ⟨g1, 0, none⟩) ((regsOf all).length + 1) cap1)) ∧ ∃ v' x', paOf (all ++ [(⟨2, n, valL p, 0, permL q, sh⟩ : St)]) = x' ∧ PI (wn.setCell ⟨b, 3, none⟩ (.slice (some ⟨g1, 0, none⟩) ((regsOf all).length + 1) cap1)) b mb B at_ v' x') := hidP (fun g1 cap1 wn hown hgrow hat => by
    have ht : Touch (fun k => oP v6.ra = some k) wP wn := (Touch.of_below ((Below.refl _ _).drew.alloc (by simp) (.cells #[.int .i64 (valL p : Int), .int .i64 OC, .int .i64 OF, .int .i64 (permL q), .bool sh] 125))).trans (Touch.of_grown hgrow (fun k e => e))
    refine ⟨HTP.out.trans ((show Touch (PT b mb B) wP wn from ⟨ht.os, ht.tape, ht.output, ht.size, fun k hk hn => ht.block k hk (fun e => hn (.inr (.inr (HPP.out.of.2.2 k e).1)))⟩).trans ?_), _, _, HFN.out, HPP.out.addR ht (erow_push (E := eSpan) rfl hown) ?_⟩
    · exact ⟨rfl, rfl, rfl, by simp [World.setCell], fun k hk hn => Below.heap_setCell _ _ _ _ (fun e => hn (.inl e))⟩
    · rcases hat with e | e
      · exact .inl e
      · exact .inr (by omega))
  go_wp2_with fail
  refine wp_region_held_drew (S := fun wX => wX.cell? ⟨w4.heap.size, 0, none⟩ = some (.int .i64 OF) ∧ wX.cell? ⟨w4.heap.size, 1, none⟩ = some (.int .i64 OC)) (by kernel_rfl) (HRP.out _ (Below.refl _ _).drew) (fun hHeld => ?_)
  refine tk 0 ?_
  refine tk 1 ?_
  refine tk 2 ?_
  refine tk 3 ?_
  refine tk 5 ?_
  refine tk 6 ?_
  refine tk 7 ?_
  refine tk 8 ?_
  refine tk 9 ?_
  refine tk 10 ?_
  refine tk 11 ?_
  refine tk 12 ?_
  refine tk 13 ?_
  refine tk 14 ?_
  refine wpAnyH_ready (rs := [4, 15]) (by kernel_rfl) (by simp) ?_
  refine AllReadyH.cons rfl (fun K hK => ?_) (AllReadyH.cons rfl (fun K hK => ?_) AllReadyH.nil)
  · go_simp
    refine hK.out _ _ (HRP.out _ ((Below.refl _ _).drew)) (fun hHeld2 => ?_)
    clear hK K
    refine wpAnyH_ready (rs := [15]) (by kernel_rfl) (by simp) ?_
    refine AllReadyH.cons rfl (fun K hK => ?_) AllReadyH.nil
    go_simp
    refine hK.out _ _ (HRP.out _ ((Below.refl _ _).drew.alloc (by simp) _)) (fun hHeld3 => ?_)
    clear hK K
    refine wpAnyH_ready (rs := [16]) (by kernel_rfl) (by simp) ?_
    refine AllReadyH.cons rfl (fun K hK => ?_) AllReadyH.nil
    refine step_append_lies _ (by rfl) (.tmp 84) (.tmp 95) 47 (by rfl) B 125 iR _ 5 40 Try.underlying47 hiR hz0 hz1 hz2 rfl (by omega) (.slice v6.ra (regsOf all).length v6.rc) (regsOf all).length (ecells eSpan (regsOf all)) (by go_simp) HOWN.out ⟨wP.heap.size, 0, none⟩ 1 1 [.int .i64 (valL p : Int), .int .i64 OC, .int .i64 OF, .int .i64 (permL q), .bool sh] (by go_simp) rfl HNEWS.out (by intro v hv; simp at hv; rcases hv with rfl | rfl | rfl | rfl | rfl <;> rfl) (by omega) (by unfold maxLen; omega) (by omega) (by simp; omega) (wP.heap.size + 1) (by simp) ?_
    intro g1 cap1 wn hown hgrow hat hlt3
    rw [oP_slice] at hgrow hat
    have HE := hidP (HEND.out g1 cap1 wn hown hgrow hat)
    have cq2 := (World.cell?_of_block (a := ⟨b, 3, none⟩) (HNE.out wn hgrow b hbl3 nb)).trans q2
    have cf2 := (World.frozen?_of_block (a := ⟨b, 3, none⟩) (HNE.out wn hgrow b hbl3 nb)).trans f2
    have HS2 : Hid (∀ u : Value, (wn.setCell ⟨b, 3, none⟩ u).cell? ⟨w4.heap.size, 0, none⟩ = some (.int .i64 OF) ∧ (wn.setCell ⟨b, 3, none⟩ u).cell? ⟨w4.heap.size, 1, none⟩ = some (.int .i64 OC)) := hidP (fun u => ⟨(World.cell?_of_block ((Below.heap_setCell _ _ _ _ (by show w4.heap.size ≠ b; have := HBB.out; omega)).trans (HNE.out wn hgrow _ hz4P nr))).trans (HRP.out wP (Below.refl _ _)).1, (World.cell?_of_block ((Below.heap_setCell _ _ _ _ (by show w4.heap.size ≠ b; have := HBB.out; omega)).trans (HNE.out wn hgrow _ hz4P nr))).trans (HRP.out wP (Below.refl _ _)).2⟩)
    refine hK.out _ _ ⟨(World.cell?_of_block (HNE.out wn hgrow _ hz4P nr)).trans (HRP.out wP (Below.refl _ _)).1, (World.cell?_of_block (HNE.out wn hgrow _ hz4P nr)).trans (HRP.out wP (Below.refl _ _)).2⟩ (fun hHeld4 => ?_)
    clear hK K hgrow hown hat
    refine tk 17 ?_
    refine tk 18 ?_
    refine wpAnyH_ready (rs := [19]) (by kernel_rfl) (by simp) ?_
    refine AllReadyH.cons rfl (fun K hK => ?_) AllReadyH.nil
    go_simp
    refine hK.out _ _ (HS2.out _) (fun hHeld5 => ?_)
    clear hK K
    refine wpAnyH_done (by kernel_rfl) ?_ _
    go_wp2_with fail
    obtain ⟨hq1, v', x', hq2, hq3⟩ := HE.out
    exact bodyPost_end (v := .tuple #[]) (by simp [results, Try.results173, go_sem, hsz]) rfl ⟨hq1, Ends.yes HC.out ⟨v', by rw [hq2]; exact hq3⟩⟩
  · go_simp
    refine hK.out _ _ (HRP.out _ ((Below.refl _ _).drew.alloc (by simp) _)) (fun hHeld2 => ?_)
    clear hK K
    refine wpAnyH_ready (rs := [4]) (by kernel_rfl) (by simp) ?_
    refine AllReadyH.cons rfl (fun K hK => ?_) AllReadyH.nil
    go_simp
    refine hK.out _ _ (HRP.out _ ((Below.refl _ _).drew.alloc (by simp) _)) (fun hHeld3 => ?_)
    clear hK K
    refine wpAnyH_ready (rs := [16]) (by kernel_rfl) (by simp) ?_
    refine AllReadyH.cons rfl (fun K hK => ?_) AllReadyH.nil
    refine step_append_lies _ (by rfl) (.tmp 84) (.tmp 95) 47 (by rfl) B 125 iR _ 5 40 Try.underlying47 hiR hz0 hz1 hz2 rfl (by omega) (.slice v6.ra (regsOf all).length v6.rc) (regsOf all).length (ecells eSpan (regsOf all)) (by go_simp) HOWN.out ⟨wP.heap.size, 0, none⟩ 1 1 [.int .i64 (valL p : Int), .int .i64 OC, .int .i64 OF, .int .i64 (permL q), .bool sh] (by go_simp) rfl HNEWS.out (by intro v hv; simp at hv; rcases hv with rfl | rfl | rfl | rfl | rfl <;> rfl) (by omega) (by unfold maxLen; omega) (by omega) (by simp; omega) (wP.heap.size + 1) (by simp) ?_
    intro g1 cap1 wn hown hgrow hat hlt3
    rw [oP_slice] at hgrow hat
    have HE := hidP (HEND.out g1 cap1 wn hown hgrow hat)
    have cq2 := (World.cell?_of_block (a := ⟨b, 3, none⟩) (HNE.out wn hgrow b hbl3 nb)).trans q2
    have cf2 := (World.frozen?_of_block (a := ⟨b, 3, none⟩) (HNE.out wn hgrow b hbl3 nb)).trans f2
    have HS2 : Hid (∀ u : Value, (wn.setCell ⟨b, 3, none⟩ u).cell? ⟨w4.heap.size, 0, none⟩ = some (.int .i64 OF) ∧ (wn.setCell ⟨b, 3, none⟩ u).cell? ⟨w4.heap.size, 1, none⟩ = some (.int .i64 OC)) := hidP (fun u => ⟨(World.cell?_of_block ((Below.heap_setCell _ _ _ _ (by show w4.heap.size ≠ b; have := HBB.out; omega)).trans (HNE.out wn hgrow _ hz4P nr))).trans (HRP.out wP (Below.refl _ _)).1, (World.cell?_of_block ((Below.heap_setCell _ _ _ _ (by show w4.heap.size ≠ b; have := HBB.out; omega)).trans (HNE.out wn hgrow _ hz4P nr))).trans (HRP.out wP (Below.refl _ _)).2⟩)
    refine hK.out _ _ ⟨(World.cell?_of_block (HNE.out wn hgrow _ hz4P nr)).trans (HRP.out wP (Below.refl _ _)).1, (World.cell?_of_block (HNE.out wn hgrow _ hz4P nr)).trans (HRP.out wP (Below.refl _ _)).2⟩ (fun hHeld4 => ?_)
    clear hK K hgrow hown hat
    refine tk 17 ?_
    refine tk 18 ?_
    refine wpAnyH_ready (rs := [19]) (by kernel_rfl) (by simp) ?_
    refine AllReadyH.cons rfl (fun K hK => ?_) AllReadyH.nil
    go_simp
    refine hK.out _ _ (HS2.out _) (fun hHeld5 => ?_)
    clear hK K
    refine wpAnyH_done (by kernel_rfl) ?_ _
    go_wp2_with fail
    obtain ⟨hq1, v', x', hq2, hq3⟩ := HE.out
    exact bodyPost_end (v := .tuple #[]) (by simp [results, Try.results173, go_sem, hsz]) rfl ⟨hq1, Ends.yes HC.out ⟨v', by rw [hq2]; exact hq3⟩⟩
end Go.Proofs.Ytnmhkgmmpkjjeaa
