import Derived.Test.YtnmhkgmmpkjjeabIPlc
namespace Go.Proofs.Ytnmhkgmmpkjjeab
open Go.ChangeShapes Go.WideShapes Go.ChangeAt Go.RowKit
set_option linter.unusedVariables false
attribute [local go_sem ↓] Go.wp_at_zero Go.wp_at_succ

theorem run_index_tab (T : Array Value) (k : Nat) (hk : k < 16) (x : Int) (hT : T[k]? = some (.int .u64 x)) (w : World) :
    (Instr.index 216 (.agg T) (.int .i64 (k : Int))).run Try.prog w = .ok (.int .u64 x) w := by
  obtain ⟨i, hi, h1, h2, h3⟩ := info_parts info_u64
  simp [Instr.index, run_underlying Try.underlying216, sizeOf, typeInfo, hi, h2, part, hT, asIntOf, hk]

/-- What a call of addPlaces leaves: the list grown, no other old block turned. -/
def Grew (w : World) (B : Nat) (v : Value) (L : List P3) (e : Ending) (w' : World) : Prop :=
  ∃ g' c', e = .returned (.slice (some ⟨g', 0, none⟩) L.length c') ∧ PRow w' B (.slice (some ⟨g', 0, none⟩) L.length c') L ∧ w.grownBy w' v.ownBlock ∧ (v.ownBlock = some g' ∨ w.heap.size ≤ g')

theorem grown_alloc {w w' : World} {row : Option Nat} (h : w.grownBy w' row) (o : Obj) : w.grownBy (w'.alloc o) row :=
  ⟨h.os, h.tape, h.output, by have := h.size; simp; omega, fun k hk hne => (Below.heap_alloc _ _ _ (Nat.lt_of_lt_of_le hk h.size)).trans (h.block k hk hne)⟩
theorem grown_below {w w' w'' : World} {row : Option Nat} (h : w.grownBy w' row) (hb : Below w'.heap.size w' w'') : w.grownBy w'' row :=
  ⟨hb.os.trans h.os, hb.tape.trans h.tape, hb.output.trans h.output, Nat.le_trans h.size hb.size, fun k hk hne => (hb.block k (Nat.lt_of_lt_of_le hk h.size)).trans (h.block k hk hne)⟩

set_option maxHeartbeats 2000000 in
theorem add_last (g : Nat) (zs : List Int) (c : Nat) (p : P3) (hl : p.lv = 3)
    (B : Nat) (hgB : g < B) (Q : Nat) (hQ : Q ≤ 100000)
    (v : Value) (qs : List P3) (hqs : qs.length ≤ Q) (w : World) (hg : CRow w g zs) (hBw : B ≤ w.heap.size) (hv : PRow w B v qs) :
    Calls Try.prog 117 #[v, .agg #[.slice (some ⟨g, 0, none⟩) zs.length c], .agg #[.int .i64 p.fr, .int .i64 p.lv, .int .i64 p.pg]] w fun e w' => Grew w B v (qs ++ [p]) e w' := by
  obtain ⟨i0, hi, hz0, hz1, hz2⟩ := info_parts info_place
  have hvl : ∀ q, v.ownBlock = some q → B ≤ q ∧ q < w.heap.size := World.ownsRow.lt hv
  have HV : Hid (PRow w B v qs) := hv
  have HVL : Hid _ := hvl
  have HG : Hid (CRow w g zs) := hg
  have HL : Hid (p.lv = 3) := hl
  clear hv hvl hg hl
  go_enter Try.func117, Try.ntmps117
  go_wp2_with (at_builtin; refine wpList_append_lies _ rfl (.tmp 11) (.tmp 13) 26 rfl B 80 i0 _ 3 24 Try.underlying26 hi hz0 hz1 hz2 rfl (by omega) _ _ _ rfl (World.ownsRow.alloc (World.ownsRow.alloc (World.ownsRow.alloc HV.out _) _) _) ⟨w.heap.size + 1 + 1, 0, none⟩ 1 1 [.int .i64 p.fr, .int .i64 p.lv, .int .i64 p.pg] rfl rfl ?c1 ?c2 (by omega) ?c3 ?c4 ?c5 (w.heap.size + 3) ?c6 ?_)
  case c1 =>
    have := World.news_of_block (heap_alloc_new ((w.alloc (.cells #[.slice (some ⟨g, 0, none⟩) zs.length c] 29)).alloc (.cells #[.int .i64 p.fr, .int .i64 p.lv, .int .i64 p.pg] 80)) (.cells #[.int .i64 p.fr, .int .i64 p.lv, .int .i64 p.pg] 80))
    simpa using this
  case c2 => intro u hu; simp at hu; rcases hu with rfl | rfl | rfl <;> rfl
  case c3 => unfold maxLen; omega
  case c4 => omega
  case c5 => simp; omega
  case c6 => simp
  intro g1 cap1 wn hown hgrow hat hlt3
  have hsn := hgrow.size
  simp at hsn
  have hnew : PRow wn B (.slice (some ⟨g1, 0, none⟩) (qs.length + 1) cap1) (qs ++ [p]) := by
    unfold PRow
    rw [List.length_append, pcells_append]
    exact hown
  have hvne : ∀ k, w.heap.size ≤ k → some k ≠ v.ownBlock := fun k hk h => by have := HVL.out k h.symm; omega
  have hgw : w.grownBy wn v.ownBlock := by
    refine ⟨hgrow.os, hgrow.tape, hgrow.output, by omega, fun k hk hne => ?_⟩
    rw [hgrow.block k (by simp; omega) hne, Below.heap_alloc _ _ _ (by simp; omega), Below.heap_alloc _ _ _ (by simp; omega), Below.heap_alloc _ _ _ hk]
  have b0 : wn.cell? ⟨w.heap.size, 0, none⟩ = some (.slice (some ⟨g, 0, none⟩) zs.length c) := by
    rw [World.cell?_of_block (hgrow.block w.heap.size (by simp; omega) (hvne _ (Nat.le_refl _)))]; simp [go_sem]
  have b1 : wn.cell? ⟨w.heap.size + 1, 0, none⟩ = some (.int .i64 p.fr) := by
    rw [World.cell?_of_block (hgrow.block (w.heap.size + 1) (by simp) (hvne _ (by omega)))]; simp [go_sem]
  have b2 : wn.cell? ⟨w.heap.size + 1, 1, none⟩ = some (.int .i64 p.lv) := by
    rw [World.cell?_of_block (hgrow.block (w.heap.size + 1) (by simp) (hvne _ (by omega)))]; simp [go_sem]
  have b3 : wn.cell? ⟨w.heap.size + 1, 2, none⟩ = some (.int .i64 p.pg) := by
    rw [World.cell?_of_block (hgrow.block (w.heap.size + 1) (by simp) (hvne _ (by omega)))]; simp [go_sem]
  have hgv : some g ≠ v.ownBlock := fun h => by have := HVL.out g h.symm; omega
  have hgn : CRow wn g zs := CRow.of_block HG.out (hgw.block g HG.out.lt hgv)
  have hat' : v.ownBlock = some g1 ∨ w.heap.size + 2 ≤ g1 := hat.elim .inl (fun h => .inr (by omega))
  have h3 : (p.lv == 3) = true := by simp [HL.out]
  have HNEW : Hid (PRow _ _ _ _) := hnew
  have HGW : Hid (w.grownBy wn _) := hgw
  have HAT : Hid (_ ∨ _) := hat'
  clear hown hgrow hat hnew hgw hat' hgn hvne hgv
  go_wp2_with fail
  go_ret
  exact ⟨g1, cap1, by rw [List.length_append]; rfl, by rw [List.length_append]; exact HNEW.out, HGW.out, HAT.out.elim .inl (fun h => .inr (by omega))⟩

set_option maxHeartbeats 2000000 in
theorem add_step (g : Nat) (zs : List Int) (c : Nat) (p : P3) (F : Nat) (hF : p.fr = F) (hF2 : F * 16 + 16 ≤ zs.length) (hlen : zs.length ≤ 8192) (hcc : zs.length ≤ c) (hl1 : 1 ≤ p.lv) (hl2 : p.lv < 3) (hp0 : 0 ≤ p.pg) (hp1 : p.pg ≤ 4096 * p.lv) (rec : P3 → List P3) (hB : ∀ q, (rec q).length ≤ 300) (n : Int) (hn : n * 16 = zs.length)
    (hd : ∀ i, i < 16 → ∀ w, Calls Try.prog 121 #[.int .i64 p.lv, .int .u64 (wordAt zs p.fr i)] w fun e w' => e = .returned (.agg #[.int .i64 (dKind p.lv (wordAt zs p.fr i)), .int .i64 (dOut p.lv (wordAt zs p.fr i)), .int .i64 (dPerm p.lv (wordAt zs p.fr i))]) ∧ Below w.heap.size w w')
    (B : Nat) (hgB : g < B) (Q : Nat) (hQ : Q ≤ 100000)
    (ih : ∀ i w v qs, i < 16 → leads zs n p i = true → CRow w g zs → B ≤ w.heap.size → qs.length ≤ Q + 5000 → PRow w B v qs → Calls Try.prog 117 #[v, .agg #[.slice (some ⟨g, 0, none⟩) zs.length c], .agg #[.int .i64 (under zs p i).fr, .int .i64 (under zs p i).lv, .int .i64 (under zs p i).pg]] w fun e w' => Grew w B v (qs ++ rec (under zs p i)) e w')
    (v : Value) (qs : List P3) (hqs : qs.length ≤ Q) (w : World) (hg : CRow w g zs) (hBw : B ≤ w.heap.size) (hv : PRow w B v qs) :
    Calls Try.prog 117 #[v, .agg #[.slice (some ⟨g, 0, none⟩) zs.length c], .agg #[.int .i64 p.fr, .int .i64 p.lv, .int .i64 p.pg]] w fun e w' => Grew w B v (qs ++ downs zs n rec p 16) e w' := by
  obtain ⟨i0, hi, hz0, hz1, hz2⟩ := info_parts info_place
  have hvl : ∀ q, v.ownBlock = some q → B ≤ q ∧ q < w.heap.size := World.ownsRow.lt hv
  have HV : Hid (PRow w B v qs) := hv
  have HVL : Hid _ := hvl
  have HIH : Hid _ := ih
  have HD : Hid _ := hd
  have HF : Hid (p.fr = F) := hF
  have HG : Hid (CRow w g zs) := hg
  clear hv hvl ih hd hF hg
  go_enter Try.func117, Try.ntmps117
  go_wp2_with (at_builtin; refine wpList_append_lies _ rfl (.tmp 11) (.tmp 13) 26 rfl B 80 i0 _ 3 24 Try.underlying26 hi hz0 hz1 hz2 rfl (by omega) _ _ _ rfl (World.ownsRow.alloc (World.ownsRow.alloc (World.ownsRow.alloc HV.out _) _) _) ⟨w.heap.size + 1 + 1, 0, none⟩ 1 1 [.int .i64 p.fr, .int .i64 p.lv, .int .i64 p.pg] rfl rfl ?c1 ?c2 (by omega) ?c3 ?c4 ?c5 (w.heap.size + 3) ?c6 ?_)
  case c1 =>
    have := World.news_of_block (heap_alloc_new ((w.alloc (.cells #[.slice (some ⟨g, 0, none⟩) zs.length c] 29)).alloc (.cells #[.int .i64 p.fr, .int .i64 p.lv, .int .i64 p.pg] 80)) (.cells #[.int .i64 p.fr, .int .i64 p.lv, .int .i64 p.pg] 80))
    simpa using this
  case c2 => intro u hu; simp at hu; rcases hu with rfl | rfl | rfl <;> rfl
  case c3 => unfold maxLen; omega
  case c4 => omega
  case c5 => simp; omega
  case c6 => simp
  intro g1 cap1 wn hown hgrow hat hlt3
  have hsn := hgrow.size
  simp at hsn
  have hnew : PRow wn B (.slice (some ⟨g1, 0, none⟩) (qs.length + 1) cap1) (qs ++ downs zs n rec p 0) := by
    unfold PRow
    rw [downs_zero, List.length_append, pcells_append]
    exact hown
  have hvne : ∀ k, w.heap.size ≤ k → some k ≠ v.ownBlock := fun k hk h => by have := HVL.out k h.symm; omega
  have hgw : w.grownBy wn v.ownBlock := by
    refine ⟨hgrow.os, hgrow.tape, hgrow.output, by omega, fun k hk hne => ?_⟩
    rw [hgrow.block k (by simp; omega) hne, Below.heap_alloc _ _ _ (by simp; omega), Below.heap_alloc _ _ _ (by simp; omega), Below.heap_alloc _ _ _ hk]
  have b0 : wn.cell? ⟨w.heap.size, 0, none⟩ = some (.slice (some ⟨g, 0, none⟩) zs.length c) := by
    rw [World.cell?_of_block (hgrow.block w.heap.size (by simp; omega) (hvne _ (Nat.le_refl _)))]; simp [go_sem]
  have b1 : wn.cell? ⟨w.heap.size + 1, 0, none⟩ = some (.int .i64 p.fr) := by
    rw [World.cell?_of_block (hgrow.block (w.heap.size + 1) (by simp) (hvne _ (by omega)))]; simp [go_sem]
  have b2 : wn.cell? ⟨w.heap.size + 1, 1, none⟩ = some (.int .i64 p.lv) := by
    rw [World.cell?_of_block (hgrow.block (w.heap.size + 1) (by simp) (hvne _ (by omega)))]; simp [go_sem]
  have b3 : wn.cell? ⟨w.heap.size + 1, 2, none⟩ = some (.int .i64 p.pg) := by
    rw [World.cell?_of_block (hgrow.block (w.heap.size + 1) (by simp) (hvne _ (by omega)))]; simp [go_sem]
  have hgv : some g ≠ v.ownBlock := fun h => by have := HVL.out g h.symm; omega
  have hgn : CRow wn g zs := CRow.of_block HG.out (hgw.block g HG.out.lt hgv)
  have hat' : v.ownBlock = some g1 ∨ w.heap.size + 2 ≤ g1 := hat.elim .inl (fun h => .inr (by omega))
  rw [HF.out] at b1
  have HNEW : Hid (PRow _ _ _ _) := hnew
  have HGW : Hid (w.grownBy wn _) := hgw
  have HAT : Hid (_ ∨ _) := hat'
  have HGN : Hid (CRow wn g zs) := hgn
  have HVNE : Hid _ := hvne
  have HGV : Hid _ := hgv
  have htab := tableAt_any g zs c F hF2 hlen hcc wn hgn
  have hne3 : (p.lv == 3) = false := by simp; omega
  clear hown hgrow hat hnew hgw hat' hgn hvne hgv
  go_wp2_with fail
  refine htab.mono ?_
  rintro e wt ⟨⟨T, rfl, hTs, hT⟩, hbt⟩
  have hst := hbt.size
  have t0 := (hbt.cell (p := ⟨w.heap.size, 0, none⟩) (by simp; omega)).trans b0
  have t1 := (hbt.cell (p := ⟨w.heap.size + 1, 0, none⟩) (by simp; omega)).trans b1
  have t2 := (hbt.cell (p := ⟨w.heap.size + 1, 1, none⟩) (by simp; omega)).trans b2
  have t3 := (hbt.cell (p := ⟨w.heap.size + 1, 2, none⟩) (by simp; omega)).trans b3
  have HST : Hid (PRow wt B (.slice (some ⟨g1, 0, none⟩) (qs.length + 1) cap1) (qs ++ downs zs n rec p 0) ∧ w.grownBy wt v.ownBlock ∧ w.heap.size + 2 ≤ wt.heap.size ∧ wt.cell? ⟨w.heap.size, 0, none⟩ = some (.slice (some ⟨g, 0, none⟩) zs.length c) ∧ wt.cell? ⟨w.heap.size + 1, 0, none⟩ = some (.int .i64 F) ∧ wt.cell? ⟨w.heap.size + 1, 1, none⟩ = some (.int .i64 p.lv) ∧ wt.cell? ⟨w.heap.size + 1, 2, none⟩ = some (.int .i64 p.pg)) :=
    ⟨HNEW.out.below hbt, grown_below HGW.out hbt, by omega, t0, t1, t2, t3⟩
  have HT : Hid _ := hT
  clear htab hbt t0 t1 t2 t3 b0 b1 b2 b3 hT hst
  go_wp2_with fail
  go_loopw [0, 23] (fun v0 iv wr => ∃ k gv cv : Nat, k ≤ 16 ∧ iv = .int .i64 k ∧ v0 = .slice (some ⟨gv, 0, none⟩) (qs ++ downs zs n rec p k).length cv ∧ PRow wr B (.slice (some ⟨gv, 0, none⟩) (qs ++ downs zs n rec p k).length cv) (qs ++ downs zs n rec p k) ∧ (v.ownBlock = some gv ∨ w.heap.size + 2 ≤ gv) ∧ w.grownBy wr v.ownBlock ∧ w.heap.size + 2 ≤ wr.heap.size ∧ wr.cell? ⟨w.heap.size, 0, none⟩ = some (.slice (some ⟨g, 0, none⟩) zs.length c) ∧ wr.cell? ⟨w.heap.size + 1, 0, none⟩ = some (.int .i64 F) ∧ wr.cell? ⟨w.heap.size + 1, 1, none⟩ = some (.int .i64 p.lv) ∧ wr.cell? ⟨w.heap.size + 1, 2, none⟩ = some (.int .i64 p.pg)) (fun _ iv _ => 16 - (intOf iv).toNat)
  case atStart =>
    obtain ⟨s1, s2, s3, s4, s5, s6, s7⟩ := HST.out
    have el : (qs ++ downs zs n rec p 0).length = qs.length + 1 := by rw [downs_zero, List.length_append]; rfl
    exact ⟨0, g1, cap1, by omega, rfl, by rw [el], by rw [el]; exact s1, HAT.out, s2, s3, s4, s5, s6, s7⟩
  case round =>
    obtain ⟨k, gv, cv, hk, rfl, rfl, hrow, hat, hgr, hsz, c0, c1, c2, c3⟩ := hrel
    have hBL := downs_length zs n rec p 300 hB k
    by_cases hlt : k < 16
    · have hgn : CRow wr g zs := CRow.of_block HG.out (hgr.block g HG.out.lt HGV.out)
      have hTk := HT.out k hlt
      have ew : zs.getD (F * 16 + k) 0 = wordAt zs p.fr k := by simp [wordAt, HF.out]; congr 1
      rw [ew] at hTk
      have hdk := HD.out k hlt
      have dO := dOut_lo p.lv (wordAt zs p.fr k)
      have hdd := downs_succ zs n rec p k
      have hih := HIH.out k
      unfold under at hih hdd
      unfold leads at hih hdd
      have HDD : Hid _ := hdd
      have HIK : Hid _ := hih
      have HRW : Hid (PRow _ _ _ _) := hrow
      have HGR : Hid (w.grownBy wr _) := hgr
      have HGN2 : Hid (CRow _ _ _) := hgn
      have HATk : Hid (_ ∨ _) := hat
      clear ew hdd hih hrow hgr hgn hat
      generalize wordAt zs p.fr k = X at *
      generalize dKind p.lv X = K at *
      generalize dOut p.lv X = O at *
      generalize dPerm p.lv X = M at *
      have L1 : (0 : Int) ≤ (k : Int) := by omega
      have L2 : (k : Int) < 16 := by omega
      have hix := run_index_tab T k hlt X hTk
      have hfr := hasFrame_any (some ⟨g, 0, none⟩) zs.length c O n hn dO.1 hlen
      clear hTk hTs
      go_wp2_with fail
      refine (hdk wr).mono ?_
      rintro e w1 ⟨rfl, hb1⟩
      have hs1 := hb1.size
      have e0 := (hb1.cell (p := ⟨w.heap.size, 0, none⟩) (by simp; omega)).trans c0
      have e1 := (hb1.cell (p := ⟨w.heap.size + 1, 0, none⟩) (by simp; omega)).trans c1
      have e2 := (hb1.cell (p := ⟨w.heap.size + 1, 1, none⟩) (by simp; omega)).trans c2
      have e3 := (hb1.cell (p := ⟨w.heap.size + 1, 2, none⟩) (by simp; omega)).trans c3
      have N1 : w.heap.size < w1.heap.size := by omega
      have N2 : w.heap.size + 1 < w1.heap.size := by omega
      have HB1 : Hid (Below _ _ _) := hb1
      clear c0 c1 c2 c3 hdk hix hb1
      by_cases hK : K = 1
      · subst hK
        by_cases hO : O < n
        · have hO' : decide (O < n) = true := by simpa using hO
          rw [hO'] at hfr
          have hcov := entryPages_any p.lv
          have hC0 := cov_bd p.lv
          have hrec := HIK.out
          simp only [hO', decide_true, Bool.and_true] at hrec
          have hx : downs zs n rec p (k + 1) = downs zs n rec p k ++ rec ⟨O, p.lv + 1, p.pg + k * cov p.lv⟩ := by
            have h := HDD.out
            rw [hO'] at h
            simpa using h
          have hRB := hB ⟨O, p.lv + 1, p.pg + k * cov p.lv⟩
          have HX : Hid _ := hx
          generalize cov p.lv = C at *
          have y0 : 0 ≤ (k : Int) * C := Int.mul_nonneg (by omega) hC0.1
          have y1 : (k : Int) * C ≤ 15 * 256 := Int.mul_le_mul (by omega) hC0.2 hC0.1 (by omega)
          have Wy : IntKind.i64.wrap ((k : Int) * C) = (k : Int) * C := by rw [IntKind.wrap_i64]; omega
          have Wz : IntKind.i64.wrap (p.pg + (k : Int) * C) = p.pg + (k : Int) * C := by rw [IntKind.wrap_i64]; omega
          have Wl : IntKind.i64.wrap (p.lv + 1) = p.lv + 1 := by rw [IntKind.wrap_i64]; omega
          have HREC : Hid _ := hrec
          clear hx hrec HDD HIK HIH HD
          go_upto_region 9 with (go_at_call 125; refine (hfr _).mono ?_; rintro e w4 ⟨rfl, hb4⟩)
          have hs4 := hb4.size
          simp at hs4
          have hb14 : Below wr.heap.size wr w4 := (HB1.out.alloc hs1 _).trans (hb4.mono (by simp; omega))
          have d1 : w4.cell? ⟨w1.heap.size, 1, none⟩ = some (.int .i64 O) := by rw [hb4.cell (by simp)]; simp [go_sem]
          have e0' : w4.cell? ⟨w.heap.size, 0, none⟩ = some (.slice (some ⟨g, 0, none⟩) zs.length c) := by rw [hb4.cell (by simp; omega)]; simp [go_sem, e0, N1]
          have e1' : w4.cell? ⟨w.heap.size + 1, 0, none⟩ = some (.int .i64 F) := by rw [hb4.cell (by simp; omega)]; simp [go_sem, e1, N2]
          have e2' : w4.cell? ⟨w.heap.size + 1, 1, none⟩ = some (.int .i64 p.lv) := by rw [hb4.cell (by simp; omega)]; simp [go_sem, e2, N2]
          have e3' : w4.cell? ⟨w.heap.size + 1, 2, none⟩ = some (.int .i64 p.pg) := by rw [hb4.cell (by simp; omega)]; simp [go_sem, e3, N2]
          have HB14 : Hid (Below _ _ _) := hb14
          clear e0 e1 e2 e3 hfr hb4 hb14
          go_cut [10] (fun d10 wx => ∃ E, d10 = .pointer (some ⟨E, 0, none⟩) ∧ wx.cell? ⟨E, 0, none⟩ = some (.int .i64 O) ∧ wx.cell? ⟨E, 1, none⟩ = some (.int .i64 (p.lv + 1)) ∧ wx.cell? ⟨E, 2, none⟩ = some (.int .i64 (p.pg + (k : Int) * C)) ∧ E < wx.heap.size ∧ Below w4.heap.size w4 wx)
          case first =>
            have HK : Hid (∀ wX, Below w4.heap.size w4 wX → wX.cell? ⟨w1.heap.size, 1, none⟩ = some (.int .i64 O) ∧ wX.cell? ⟨w.heap.size + 1, 1, none⟩ = some (.int .i64 p.lv) ∧ wX.cell? ⟨w.heap.size + 1, 2, none⟩ = some (.int .i64 p.pg)) :=
              fun wX h => ⟨(h.cell (by first | omega | (simp <;> omega))).trans d1, (h.cell (by first | omega | (simp <;> omega))).trans e2', (h.cell (by first | omega | (simp <;> omega))).trans e3'⟩
            go_region_held3 (fun w' => w'.cell? ⟨w1.heap.size, 1, none⟩ = some (.int .i64 O) ∧ w'.cell? ⟨w.heap.size + 1, 1, none⟩ = some (.int .i64 p.lv) ∧ w'.cell? ⟨w.heap.size + 1, 2, none⟩ = some (.int .i64 p.pg))
              ((refine HK.out _ ?_; repeat (first | exact Below.refl _ _ | with_reducible refine Below.drew ?_ | with_reducible refine Below.setCell ?_ (by first | omega | (simp <;> omega)) _ | with_reducible refine Below.alloc ?_ (by first | omega | (simp <;> omega)) _)))
              (first | (go_at_call 173; refine (hcov _).mono ?_; rintro e w3 ⟨rfl, rfl⟩))
            all_goals
              go_wp2_with fail
              go_meet
              case rel =>
                refine ⟨_, rfl, ?_, ?_, ?_, ?_, ?_⟩
                · simp [go_sem]
                · simp [go_sem]
                · simp [go_sem]
                · first | omega | (simp <;> omega)
                · repeat (first | exact Below.refl _ _ | with_reducible refine Below.drew ?_ | with_reducible refine Below.setCell ?_ (by first | omega | (simp <;> omega)) _ | with_reducible refine Below.alloc ?_ (by first | omega | (simp <;> omega)) _)
          case rest =>
            obtain ⟨E, rfl, f0, f1, f2, hE, hbE⟩ := hcut
            have g0 := (hbE.cell (p := ⟨w.heap.size, 0, none⟩) (by simp; omega)).trans e0'
            have g1' := (hbE.cell (p := ⟨w.heap.size + 1, 0, none⟩) (by simp; omega)).trans e1'
            have g2 := (hbE.cell (p := ⟨w.heap.size + 1, 1, none⟩) (by simp; omega)).trans e2'
            have g3 := (hbE.cell (p := ⟨w.heap.size + 1, 2, none⟩) (by simp; omega)).trans e3'
            have hbc : Below wr.heap.size wr wc := HB14.out.trans (hbE.mono (by omega))
            have hsc := hbc.size
            have hrw : PRow wc B (.slice (some ⟨gv, 0, none⟩) (qs.length + (downs zs n rec p k).length) cv) (qs ++ downs zs n rec p k) := by
              have := HRW.out.below hbc
              rwa [List.length_append] at this
            have hgc : CRow wc g zs := HGN2.out.below hbc HGN2.out.lt
            have hrec := HREC.out wc (.slice (some ⟨gv, 0, none⟩) (qs.length + (downs zs n rec p k).length) cv) (qs ++ downs zs n rec p k) hlt trivial hgc (by omega) (by rw [List.length_append]; omega) hrw
            have HBC : Hid (Below _ _ _) := hbc
            have Hbox : Hid (wc.cell? ⟨w.heap.size, 0, none⟩ = some (.slice (some ⟨g, 0, none⟩) zs.length c) ∧ wc.cell? ⟨w.heap.size + 1, 0, none⟩ = some (.int .i64 F) ∧ wc.cell? ⟨w.heap.size + 1, 1, none⟩ = some (.int .i64 p.lv) ∧ wc.cell? ⟨w.heap.size + 1, 2, none⟩ = some (.int .i64 p.pg)) := ⟨g0, g1', g2, g3⟩
            clear e0' e1' e2' e3' d1 hbE hcov Wy Wz Wl hrw hgc hbc HREC
            go_wp2_with fail
            refine hrec.mono ?_
            rintro e w5 ⟨g5, c5, rfl, hp5, hgr5, hat5⟩
            have hgr5' : wc.grownBy w5 (some gv) := hgr5
            have hat5' : gv = g5 ∨ wc.heap.size ≤ g5 := by
              rcases hat5 with h | h
              · exact .inl (by simpa [Value.ownBlock] using h)
              · exact .inr h
            have hgvl : ∀ q, v.ownBlock = some q → q < w.heap.size := fun q hq => (HVL.out q hq).2
            have hgv0 : gv ≠ w.heap.size ∧ gv ≠ w.heap.size + 1 := by
              rcases HATk.out with h | h
              · have := hgvl gv h; omega
              · omega
            have hs5 := hgr5'.size
            obtain ⟨g0, g1', g2, g3⟩ := Hbox.out
            have k0 : w5.cell? ⟨w.heap.size, 0, none⟩ = some (.slice (some ⟨g, 0, none⟩) zs.length c) := by
              rw [World.cell?_of_block (hgr5'.block w.heap.size (by omega) (by simp only [ne_eq, Option.some.injEq]; omega))]; exact g0
            have k1 : w5.cell? ⟨w.heap.size + 1, 0, none⟩ = some (.int .i64 F) := by
              rw [World.cell?_of_block (hgr5'.block (w.heap.size + 1) (by omega) (by simp only [ne_eq, Option.some.injEq]; omega))]; exact g1'
            have k2 : w5.cell? ⟨w.heap.size + 1, 1, none⟩ = some (.int .i64 p.lv) := by
              rw [World.cell?_of_block (hgr5'.block (w.heap.size + 1) (by omega) (by simp only [ne_eq, Option.some.injEq]; omega))]; exact g2
            have k3 : w5.cell? ⟨w.heap.size + 1, 2, none⟩ = some (.int .i64 p.pg) := by
              rw [World.cell?_of_block (hgr5'.block (w.heap.size + 1) (by omega) (by simp only [ne_eq, Option.some.injEq]; omega))]; exact g3
            have hgw5 : w.grownBy w5 v.ownBlock := by
              have h1 := grown_below HGR.out HBC.out
              refine ⟨hgr5'.os.trans h1.os, hgr5'.tape.trans h1.tape, hgr5'.output.trans h1.output, by omega, fun q hq hne => ?_⟩
              refine (hgr5'.block q (by omega) ?_).trans (h1.block q hq hne)
              intro e5
              simp only [Option.some.injEq] at e5
              rcases HATk.out with h | h
              · exact hne (by rw [h, e5])
              · omega
            have hat6 : v.ownBlock = some g5 ∨ w.heap.size + 2 ≤ g5 := by
              rcases hat5' with h | h
              · rw [← h]; exact HATk.out
              · exact .inr (by omega)
            have HP5 : Hid (PRow _ _ _ _) := hp5
            have HAT6 : Hid (_ ∨ _) := hat6
            have HGW5 : Hid (w.grownBy w5 _) := hgw5
            clear hp5 hgr5 hgr5' hat5 hat5' hat6 hgw5 hrec g0 g1' g2 g3 hgv0 hgvl
            go_wp2_with fail
            go_roundw
            case rel =>
              refine ⟨k + 1, g5, c5, by omega, by go_num, ?_⟩
              rw [HX.out, ← List.append_assoc]
              exact ⟨by first | rfl | simp, HP5.out, HAT6.out, HGW5.out, by omega, k0, k1, k2, k3⟩
            case measure => simp [intOf]; omega
        · have hO' : decide (O < n) = false := by simpa using hO
          rw [hO'] at hfr
          have hx : downs zs n rec p (k + 1) = downs zs n rec p k := by
            have h := HDD.out
            rw [hO'] at h
            simpa using h
          have HX : Hid _ := hx
          clear hx
          go_wp2_with (go_at_call 125; refine (hfr _).mono ?_; rintro e w4 ⟨rfl, hb4⟩)
          go_roundw
          case rel =>
            have hb14 : Below wr.heap.size wr w4 := (HB1.out.alloc hs1 _).trans (hb4.mono (by simp; omega))
            refine ⟨k + 1, gv, cv, by omega, by go_num, ?_⟩
            rw [HX.out]
            exact ⟨by rw [List.length_append], HRW.out.below hb14, HATk.out, grown_below HGR.out hb14, by have := hb14.size; omega,
              by rw [hb4.cell (by simp; omega)]; simp [go_sem, e0, N1], by rw [hb4.cell (by simp; omega)]; simp [go_sem, e1, N2], by rw [hb4.cell (by simp; omega)]; simp [go_sem, e2, N2], by rw [hb4.cell (by simp; omega)]; simp [go_sem, e3, N2]⟩
          case measure => simp [intOf]; omega
      · have hK' : (K == 1) = false := by simpa using hK
        have hx : downs zs n rec p (k + 1) = downs zs n rec p k := by
          have h := HDD.out
          simp only [hK, decide_false, Bool.false_and] at h
          simpa using h
        have HX : Hid _ := hx
        clear hx hK
        go_wp2_with fail
        go_roundw
        case rel =>
          have hb14 : Below wr.heap.size wr (w1.alloc (.cells #[.int .i64 K, .int .i64 O, .int .i64 M] 82)) := HB1.out.alloc hs1 _
          refine ⟨k + 1, gv, cv, by omega, by go_num, ?_⟩
          rw [HX.out]
          exact ⟨by rw [List.length_append], HRW.out.below hb14, HATk.out, grown_below HGR.out hb14, by have := hb14.size; omega,
            by simp [go_sem, e0, N1], by simp [go_sem, e1, N2], by simp [go_sem, e2, N2], by simp [go_sem, e3, N2]⟩
        case measure => simp [intOf]; omega
    · have e : k = 16 := by omega
      subst e
      go_wp2_with fail
      go_ret
      exact ⟨gv, cv, by rw [List.length_append]; rfl, hrow, hgr, hat.elim .inl (fun h => .inr (by omega))⟩
end Go.Proofs.Ytnmhkgmmpkjjeab
