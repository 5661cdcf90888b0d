import Derived.Test.YtnmhkgmmpkjjeaaG19
namespace Go.Proofs.Ytnmhkgmmpkjjeaa
open Go.ChangeShapes Go.WideShapes Go.ChangeAt Go.RowKit
set_option linter.unusedVariables false
set_option maxRecDepth 100000
attribute [local go_sem ↓] Go.wp_at_zero Go.wp_at_succ

set_option maxHeartbeats 4000000 in
theorem spoil_any (a : Option Addr) (cap : Nat) (cs : List Int) (p g cz : Nat) (zs : List Int) (w : World) (hc : Byt cs) (hp : p ≤ 200000) (hs : BAt w a cs) (hg : CRow w g zs) (hz0 : 16 ≤ zs.length) (hz1 : zs.length ≤ 1000) (hzw : Wrd zs) :
    Calls Try.prog 96 #[.slice a cs.length cap, .int .i64 (p : Int), .agg #[.slice (some ⟨g, 0, none⟩) zs.length cz]] w fun e w' => ∃ g1 c1, e = .returned (.agg #[.slice (some ⟨g1, 0, none⟩) (spoilZ cs p zs).length c1]) ∧ ERow eWord w' w.heap.size (.slice (some ⟨g1, 0, none⟩) (spoilZ cs p zs).length c1) (spoilZ cs p zs) ∧ Below w.heap.size w w' := by
  obtain ⟨i0, hi, hi0, hi1, hi2⟩ := info_parts info_u64
  obtain ⟨wb, hwb⟩ : ∃ wb, wb = (w.alloc (.cells #[.slice (some ⟨g, 0, none⟩) zs.length cz] 25)).alloc (.cells #[.slice none 0 0] 25) := ⟨_, rfl⟩
  have hbb : Below w.heap.size w wb := by rw [hwb]; exact (bal).alloc (by simp) _
  have hzb : wb.heap.size = w.heap.size + 2 := by rw [hwb]; simp
  have q0 : wb.cell? ⟨w.heap.size, 0, none⟩ = some (.slice (some ⟨g, 0, none⟩) zs.length cz) := by rw [hwb]; simp [go_sem]
  have q1 : wb.cell? ⟨w.heap.size + 1, 0, none⟩ = some (.slice none 0 0) := by rw [hwb]; simp [go_sem]
  have f1 : wb.frozen? ⟨w.heap.size + 1, 0, none⟩ = false := by rw [hwb]; simp [go_sem]
  have HQ : Hid (∀ wX, Below wb.heap.size wb wX → wX.cell? ⟨w.heap.size, 0, none⟩ = some (.slice (some ⟨g, 0, none⟩) zs.length cz) ∧ wX.cell? ⟨w.heap.size + 1, 0, none⟩ = some (.slice none 0 0) ∧ wX.frozen? ⟨w.heap.size + 1, 0, none⟩ = false ∧ CRow wX g zs) := fun wX hX => ⟨(hX.cell (by simp; omega)).trans q0, (hX.cell (by simp; omega)).trans q1, (hX.frozen (by simp; omega)).trans f1, (hg.below hbb hg.lt).below hX (by have := hg.lt; omega)⟩
  have HTK : Hid (∀ (q : Nat) (n : Int) (wX : World), q ≤ 1000000 → n ≤ 1000000 → Below wb.heap.size wb wX → Calls Try.prog 37 #[.slice a cs.length cap, .int .i64 (q : Int), .int .i64 n] wX fun e w' => e = .returned (.tuple #[.int .i64 (tkV cs q n), .int .i64 ((q : Int) + 1)]) ∧ Below wX.heap.size wX w') :=
    fun q n wX h1 h2 hX => take_any a cap cs q n wX hc h1 h2 (hs.below (hbb.trans (hX.mono (by omega))))
  have HPL : Hid (∀ wX, Below wb.heap.size wb wX → Calls Try.prog 10 #[.agg #[.slice (some ⟨g, 0, none⟩) zs.length cz]] wX fun e w' => PlacesPost zs wX e w') := fun wX hX => specPlaces_any g zs cz (by omega) hzw wX (HQ.out wX hX).2.2.2
  have hA := tkV_bd cs p 8 (by omega) hc (by omega)
  have hT := tkV_bd cs (p + 1) zs.length (by omega) hc (by omega)
  have hX := tkV_bd cs (p + 2) 64 (by omega) hc (by omega)
  have eT : tkV cs (p + 1) zs.length = ((tkV cs (p + 1) zs.length).toNat : Int) := by omega
  have t1 := HTK.out p 8 wb (by omega) (by omega) (Below.refl _ _)
  have t2 := HTK.out (p + 1) zs.length
  have t3 := HTK.out (p + 2) 64
  rw [show ((p + 1 : Nat) : Int) = (p : Int) + 1 from rfl] at t2
  rw [show ((p + 2 : Nat) : Int) = (p : Int) + 1 + 1 from by omega] at t3
  rw [eT] at t2
  have HSP : Hid (spoilZ cs p zs = spoilL zs (tkV cs p 8) (tkV cs (p + 1) zs.length).toNat (tkV cs (p + 2) 64)) := hidP rfl
  have hT2 : (tkV cs (p + 1) zs.length).toNat < zs.length := by omega
  generalize (tkV cs (p + 1) zs.length).toNat = T at *
  generalize tkV cs p 8 = A at *
  generalize tkV cs (p + 2) 64 = X at *
  generalize spoilZ cs p zs = R at *
  have HWZ : Hid (Wrd zs) := hzw
  have HBB : Hid (Below w.heap.size w wb) := hbb
  have HWB : Hid (wb = _) := hwb
  have hzb2 : w.heap.size + 1 < wb.heap.size := by omega
  have t20 : Hid _ := t2
  have t30 : Hid _ := t3
  rw [hwb] at t1
  clear hc hs hg hwb hbb hT eT t2 t3 hzw hzb q0 q1 f1
  go_enter Try.func96, Try.ntmps96
  go_wp2_with fail
  refine t1.mono ?_
  rintro e w1 ⟨rfl, hb1'⟩
  have hb1 : Below wb.heap.size wb w1 := by rw [HWB.out]; exact hb1'
  have s1 := hb1.size
  obtain ⟨y0, _, _, _⟩ := HQ.out w1 hb1
  have HB1 : Hid (Below _ wb w1) := hb1
  have t2 := t20.out w1 (by omega) (by omega) hb1
  clear t1 hb1' hb1 t20
  go_wp2_with fail
  refine t2.mono ?_
  rintro e w2 ⟨rfl, hb2'⟩
  have hb2 : Below wb.heap.size wb w2 := HB1.out.trans (hb2'.mono s1)
  have s2 := hb2.size
  have HB2 : Hid (Below _ wb w2) := hb2
  have t3 := t30.out w2 (by omega) (by omega) hb2
  clear t2 hb2' hb2 t30 y0
  go_wp2_with fail
  refine t3.mono ?_
  rintro e w3 ⟨rfl, hb3'⟩
  have hb3 : Below wb.heap.size wb w3 := HB2.out.trans (hb3'.mono s2)
  have s3 := hb3.size
  have HC0 : Hid (CW wb (w3.alloc (.cells #[] 61)) w3.heap.size 0 0 zs) := ⟨hb3.alloc s3 _, by have := ERow.empty eWord w3 wb.heap.size s3; exact this, Nat.zero_le _⟩
  clear t3 hb3' hb3
  go_wp2_with fail
  go_loopw [10, 11] (fun vv iv wr => ∃ k g1 c1 : Nat, iv = .int .i64 (k : Int) ∧ vv = .slice (some ⟨g1, 0, none⟩) k c1 ∧ CW wb wr g1 c1 k zs) (fun _ iv _ => zs.length - (intOf iv).toNat)
  case atStart => exact ⟨0, w3.heap.size, 0, rfl, rfl, HC0.out⟩
  case round =>
    obtain ⟨k, g1, c1, rfl, rfl, hcw⟩ := hrel
    have hb := hcw.bel
    have sr := hb.size
    have hkl := hcw.le
    obtain ⟨y0, y1, y2, y3⟩ := HQ.out wr hb
    have HY3 : Hid (CRow wr g zs) := y3
    by_cases hlt : k < zs.length
    · have cz1 := y3.cell hlt
      have K1 : (0 : Int) ≤ (k : Int) := by omega
      have K2 : (k : Int) < (zs.length : Int) := by omega
      have HCW : Hid (CW _ _ _ _ _ _) := hcw
      obtain ⟨Zk, hZk⟩ : ∃ Zk, zs.getD k 0 = Zk := ⟨_, rfl⟩
      have HZK : Hid (zs.getD k 0 = Zk) := hZk
      rw [hZk] at cz1
      clear hcw hb y1 y2 y3 hZk
      go_wp2_with (at_builtin; refine wpList_append_lies _ rfl (.tmp 44) (.tmp 50) 23 rfl wb.heap.size 61 i0 _ 1 8 Try.underlying23 hi hi0 hi1 hi2 rfl (by omega) _ _ _ rfl (World.ownsRow.alloc HCW.out.row _) ⟨_, 0, none⟩ 1 1 [.int .u64 Zk] rfl rfl ?c1 ?c2 (by omega) ?c3 ?c4 ?c5 _ rfl ?_)
      case c1 => exact World.news_of_block (heap_alloc_new _ (.cells #[.int .u64 Zk] 61))
      case c2 => intro u hu; simp at hu; rcases hu with rfl; rfl
      case c3 => unfold maxLen; omega
      case c4 => omega
      case c5 => simp; omega
      intro g7 c7 w7 hown hgrow hat hlt3
      rw [← HZK.out] at hown
      have hcw7 := HCW.out.push hlt hown hgrow
      have HCW7 : Hid (CW _ _ _ _ _ _) := hcw7
      clear hown hgrow hat hlt3 hcw7 HCW
      go_wp2_with fail
      go_roundw
      case rel => exact ⟨k + 1, g7, c7, by go_num, rfl, HCW7.out⟩
      case measure => first | (simp [intOf]; done) | (simp [intOf]; omega)
    · have ek : k = zs.length := by omega
      have hrow := hcw.all ek
      subst ek
      have K2 : ¬ (zs.length : Int) < (zs.length : Int) := by omega
      have HROW : Hid (ERow _ _ _ _ _) := hrow
      have HB : Hid (Below _ wb wr) := hb
      have hgl := (hrow.own g1 rfl).2
      have hgb := (hrow.own g1 rfl).1
      obtain ⟨n16, hn16⟩ : ∃ n16, zs.length / 16 = n16 := ⟨_, rfl⟩
      have E16 : (zs.length : Int).tdiv 16 = (n16 : Int) := by rw [Int.tdiv_eq_ediv_of_nonneg (by omega)]; omega
      have E16b : (zs.length : Int) / 16 = (n16 : Int) := by omega
      have hn17 : 1 ≤ n16 ∧ n16 ≤ 100 := by omega
      have HN : Hid (zs.length / 16 = n16) := hn16
      clear hcw hrow hb y3 hlt hn16
      by_cases a0 : A = 0
      · have ab : (A == 0) = true := by simpa using a0
        have HR : Hid (R = zs ++ [0]) := hidP (by rw [HSP.out]; unfold spoilL; rw [if_pos a0])
        clear a0 HSP
        go_wp2_with (at_builtin; refine wpList_append_lies _ rfl (.tmp 57) (.tmp 58) 23 rfl wb.heap.size 61 i0 _ 1 8 Try.underlying23 hi hi0 hi1 hi2 rfl (by omega) _ _ _ rfl (World.ownsRow.alloc HROW.out _) ⟨_, 0, none⟩ 1 1 [.int .u64 0] rfl rfl ?c1 ?c2 (by omega) ?c3 ?c4 ?c5 _ rfl ?_)
        case c2 => first | rfl | (intro u hu; simp at hu; rcases hu with rfl; rfl)
        case c3 => unfold maxLen; omega
        case c4 => omega
        case c5 => first | omega | (simp; omega)
        intro g7 c7 w7 hown hgrow hat hlt3
        have hb7 : Below wb.heap.size wb w7 := (HB.out.alloc sr _).grown hgrow (by simp; omega) (fun q hq => (HROW.out.own q hq).1)
        have hr7 : ERow eWord w7 wb.heap.size (.slice (some ⟨g7, 0, none⟩) (zs.length + 1) c7) (zs ++ [0]) := by
          have h := erow_push (E := eWord) (x := 0) rfl hown
          exact h
        obtain ⟨_, z1, z2, _⟩ := HQ.out w7 hb7
        have s7 := hb7.size
        have HB7 : Hid (Below _ wb w7) := hb7
        have HR7 : Hid (ERow _ _ _ _ _) := hr7
        clear hown hgrow hat hlt3 hb7 hr7 y0 y1 y2
        go_wp2_with fail
        rw [HR.out, List.length_append, List.length_singleton]
        refine bodyPost_ret (v := .agg #[.slice (some ⟨g7, 0, none⟩) (zs.length + 1) c7]) (by simp [results, Try.results96, go_sem, z1]) rfl ⟨g7, c7, rfl, ?_, ?_⟩
        · have hgo := (HR7.out.own g7 rfl).1
          exact (HR7.out.kept (eGrown_set (World.grownBy.refl _ _) 0 _) (by intro q hq; have : g7 = q := by simpa [Value.ownBlock] using hq
                                                                            simp; omega)).rebase (by omega)
        · exact HBB.out.trans ((HB7.out.mono (by omega)).setCell (by simp <;> omega) _)
      · have ab : (A == 0) = false := by simpa using a0
        by_cases a1 : A = 1
        · have ab1 : (A == 1) = true := by simpa using a1
          have HR : Hid (R = []) := hidP (by rw [HSP.out]; unfold spoilL; rw [if_neg a0, if_pos a1])
          clear a0 a1 HSP
          have N1 : w.heap.size + 1 < wr.heap.size := by omega
          have yA : ((wr.setCell ⟨w.heap.size + 1, 0, none⟩ (.slice (some ⟨wr.heap.size, 0, none⟩) 0 0)).alloc (.cells #[] 61)).cell? ⟨w.heap.size + 1, 0, none⟩ = some (.slice (some ⟨wr.heap.size, 0, none⟩) 0 0) := (bal.cell (p := ⟨w.heap.size + 1, 0, none⟩) (by simp; omega)).trans (by simp [go_sem, y1])
          go_wp2_with fail
          rw [HR.out]
          refine bodyPost_ret (v := .agg #[.slice (some ⟨wr.heap.size, 0, none⟩) 0 0]) (by simp [results, Try.results96, go_sem, yA]) rfl ⟨wr.heap.size, 0, rfl, ?_, ?_⟩
          · have h := ERow.empty eWord wr wb.heap.size sr
            first
              | exact (h.kept (eGrown_set (World.grownBy.refl _ _) 0 _) (by intro q hq; have : wr.heap.size = q := by simpa [Value.ownBlock] using hq
                                                                            simp; omega)).rebase (by omega)
              | exact (by have h := ERow.empty eWord (wr.setCell ⟨w.heap.size + 1, 0, none⟩ (.slice (some ⟨wr.heap.size, 0, none⟩) 0 0)) w.heap.size (by simp; omega); rw [World.size_setCell] at h; exact h)
          · first
              | exact HBB.out.trans (((HB.out.mono (by omega)).alloc (by omega) _).setCell (by simp <;> omega) _)
              | exact HBB.out.trans (((HB.out.mono (by omega)).setCell (by simp <;> omega) _).alloc (by first | omega | (simp; omega)) _)
        · have ab1 : (A == 1) = false := by simpa using a1
          by_cases a5 : A < 5
          · have ab5 : decide (A < 5) = true := by simpa using a5
            have HR : Hid (R = zs.set (spAt zs T X) (encI 1 1 ((X + A) % ((n16 : Int) + 1)) 0)) := hidP (by rw [HSP.out]; unfold spoilL; rw [if_neg a0, if_neg a1, if_pos a5, HN.out])
            have hpl := HPL.out wr HB.out
            unfold PlacesPost at hpl
            have hps := plist_length zs
            have HPK : Hid ((plist zs).length ≠ 0 → PsOk zs (plist zs)) := hidP (fun h => psOk_plist zs ⟨fun h0 => h (by unfold plist; rw [if_pos h0]; rfl), HWZ.out⟩)
            have HSA : Hid (spAt zs T X = if (plist zs).length = 0 then T else ((pAt (plist zs) (X.toNat % (plist zs).length)).fr * 16 + ((T % 16 : Nat) : Int)).toNat) := hidP rfl
            have M1 : (X + A).tmod ((n16 : Int) + 1) = (X + A) % ((n16 : Int) + 1) := Int.tmod_eq_emod_of_nonneg (by omega)
            have M0 : (((n16 : Int) + 1) == 0) = false := beq_eq_false_iff_ne.2 (by omega)
            have M16 : (T : Int).tmod 16 = ((T % 16 : Nat) : Int) := by rw [Int.tmod_eq_emod_of_nonneg (by omega)]; omega
            have M16b : (T : Int) % 16 = ((T % 16 : Nat) : Int) := by omega
            have ht16 : T % 16 < 16 := by omega
            have ew : ∀ wX, Calls Try.prog 34 #[.int .i64 1, .agg #[.int .i64 1, .int .i64 ((X + A) % ((n16 : Int) + 1)), .int .i64 0]] wX fun e w' => e = .returned (.int .u64 (encI 1 1 ((X + A) % ((n16 : Int) + 1)) 0)) ∧ Below wX.heap.size wX w' := fun wX => specEncode_any _ _ _ _ wX
            generalize plist zs = ps at *
            generalize ptree zs = tr at *
            generalize T % 16 = T16 at *
            have HQQ : Hid (∀ g7 wX v, Below wb.heap.size wb wX → (Below wb.heap.size wb (wX.setCell ⟨g7, v, none⟩ (.bool false)) → True) → True) := hidP (fun _ _ _ _ _ => trivial)
            clear a0 a1 HSP HQQ
            go_wp2_with fail
            refine hpl.mono ?_
            rintro e w4 ⟨a4, c4, rfl, hp4, hb4⟩
            have hrow4 := HROW.out.below hb4
            have hB4 := HB.out.trans (hb4.mono sr)
            have s4 := hB4.size
            have HB4 : Hid (Below _ wb w4) := hB4
            have HROW4 : Hid (ERow _ _ _ _ _) := hrow4
            obtain ⟨gp, hgp, hpc⟩ := plc_cells hp4
            clear hpl hB4 hrow4 y0 y1 y2 hp4
            by_cases h0 : ps.length = 0
            · have HT : Hid (spAt zs T X = T) := hidP (by rw [HSA.out, if_pos h0])
              rw [h0]
              rw [HT.out] at HR
              generalize (X + A) % ((n16 : Int) + 1) = O at *
              generalize encI 1 1 O 0 = E at *
              clear h0 HSA HPK hpc hgp hps
              obtain ⟨y0, y1, y2, _⟩ := HQ.out w4 HB4.out
              have T1 : (0 : Int) ≤ (T : Int) := by omega
              have T2 : (T : Int) < (zs.length : Int) := by omega
              go_wp2_with fail
              refine (ew _).mono ?_
              rintro e w5 ⟨rfl, hb5⟩
              have hrow5 := HROW4.out.below hb5
              have hB5 := HB4.out.trans (hb5.mono s4)
              have s5 := hB5.size
              obtain ⟨cW, fW, gW, _⟩ := eword_cell hrow5 hT2
              obtain ⟨_, z1, z2, _⟩ := HQ.out w5 hB5
              have HRW : Hid (ERow _ _ _ _ _) := hidP (hrow5.setW (v := E) hT2)
              have HB5 : Hid (Below _ wb w5) := hB5
              generalize zs.getD T 0 = Zo at cW
              have ng : w.heap.size + 1 ≠ g1 := by omega
              have ng2 : g1 ≠ w.heap.size + 1 := by omega
              clear hb5 hrow5 hB5 ew y0 y1 y2
              go_wp2_with fail
              rw [HR.out, List.length_set]
              refine bodyPost_ret (v := .agg #[.slice (some ⟨g1, 0, none⟩) zs.length c1]) (by simp [results, Try.results96, go_sem, z1]) rfl ⟨g1, c1, rfl, ?_, ?_⟩
              · exact (HRW.out.kept (eGrown_set (World.grownBy.refl _ _) 0 _) (by intro q hq; have : g1 = q := by simpa [Value.ownBlock] using hq
                                                                                  simp; omega)).rebase (by omega)
              · exact HBB.out.trans (((HB5.out.mono (by omega)).setCell (by simp <;> omega) _).setCell (by simp <;> omega) _)
            · obtain ⟨ha4, hg4⟩ := hgp (by omega)
              subst ha4
              have hJ : X.toNat % ps.length < ps.length := Nat.mod_lt _ (by omega)
              have HSA2 : Hid (spAt zs T X = ((pAt ps (X.toNat % ps.length)).fr * 16 + (T16 : Int)).toNat) := hidP (by rw [HSA.out, if_neg h0])
              obtain ⟨F, hF, hF2⟩ := (HPK.out h0).ok _ hJ
              have MJ : X.tmod (ps.length : Int) = ((X.toNat % ps.length : Nat) : Int) := by
                rw [Int.tmod_eq_emod_of_nonneg (by omega), Int.natCast_emod]
                congr 1
                omega
              have MP : ((ps.length : Int) == 0) = false := beq_eq_false_iff_ne.2 (by omega)
              have MP0 : 0 < ps.length := by omega
              have MP1 : (0 : Int) < (ps.length : Int) := by omega
              generalize X.toNat % ps.length = J at *
              have cP := (hpc J (pAt ps J).fr (pAt ps J).lv (pAt ps J).pg hJ rfl w4 (Below.refl _ _)).1
              rw [hF] at cP HSA2
              have J1 : (0 : Int) ≤ (J : Int) := by omega
              have J2 : (J : Int) < (ps.length : Int) := by omega
              have eU : (F : Int) * 16 + (T16 : Int) = ((F * 16 + T16 : Nat) : Int) := by omega
              have hU : F * 16 + T16 < zs.length := by omega
              have HT : Hid (spAt zs T X = F * 16 + T16) := hidP (by rw [HSA2.out]; omega)
              rw [HT.out] at HR
              generalize F * 16 + T16 = U at *
              generalize (X + A) % ((n16 : Int) + 1) = O at *
              generalize encI 1 1 O 0 = E at *
              have hF3 : F ≤ 1000 := by omega
              clear h0 HSA HSA2 HPK hpc hgp hT2 hF
              obtain ⟨y0, y1, y2, _⟩ := HQ.out w4 HB4.out
              have T1 : (0 : Int) ≤ (U : Int) := by omega
              have T2 : (U : Int) < (zs.length : Int) := by omega
              go_wp2_with fail
              refine (ew _).mono ?_
              rintro e w5 ⟨rfl, hb5⟩
              have hrow5 := HROW4.out.below hb5
              have hB5 := HB4.out.trans (hb5.mono s4)
              have s5 := hB5.size
              obtain ⟨cW, fW, gW, _⟩ := eword_cell hrow5 hU
              obtain ⟨_, z1, z2, _⟩ := HQ.out w5 hB5
              have HRW : Hid (ERow _ _ _ _ _) := hidP (hrow5.setW (v := E) hU)
              have HB5 : Hid (Below _ wb w5) := hB5
              generalize zs.getD U 0 = Zo at cW
              have ng : w.heap.size + 1 ≠ g1 := by omega
              have ng2 : g1 ≠ w.heap.size + 1 := by omega
              clear hb5 hrow5 hB5 ew y0 y1 y2
              go_wp2_with fail
              rw [HR.out, List.length_set]
              refine bodyPost_ret (v := .agg #[.slice (some ⟨g1, 0, none⟩) zs.length c1]) (by simp [results, Try.results96, go_sem, z1]) rfl ⟨g1, c1, rfl, ?_, ?_⟩
              · exact (HRW.out.kept (eGrown_set (World.grownBy.refl _ _) 0 _) (by intro q hq; have : g1 = q := by simpa [Value.ownBlock] using hq
                                                                                  simp; omega)).rebase (by omega)
              · exact HBB.out.trans (((HB5.out.mono (by omega)).setCell (by simp <;> omega) _).setCell (by simp <;> omega) _)
          · have ab5 : decide (A < 5) = false := by simpa using a5
            have HR : Hid (R = zs.set T (spW zs T X)) := hidP (by rw [HSP.out]; unfold spoilL; rw [if_neg a0, if_neg a1, if_neg a5])
            obtain ⟨cW, fW, _, _⟩ := eword_cell HROW.out hT2
            have HSW : Hid (spW zs T X = bits .xor .u64 (zs.getD T 0) (1 + 2 * (X % 2) + 64 * (X % 3))) := hidP rfl
            have M2 : X.tmod 2 = X % 2 := Int.tmod_eq_emod_of_nonneg (by omega)
            have M3 : X.tmod 3 = X % 3 := Int.tmod_eq_emod_of_nonneg (by omega)
            have W1 : IntKind.u64.wrap (1 + 2 * (X % 2) + 64 * (X % 3)) = 1 + 2 * (X % 2) + 64 * (X % 3) := by rw [IntKind.wrap_u64]; omega
            have T1 : (0 : Int) ≤ (T : Int) := by omega
            have T2 : (T : Int) < (zs.length : Int) := by omega
            have HRW : Hid (ERow _ _ _ _ _) := hidP (HROW.out.setW (v := spW zs T X) hT2)
            rw [HSW.out] at HRW HR
            generalize zs.getD T 0 = ZT at *
            clear a0 a1 a5 HSP HSW
            have ng : w.heap.size + 1 ≠ g1 := by omega
            have ng2 : g1 ≠ w.heap.size + 1 := by omega
            go_wp2_with fail
            generalize bits .xor .u64 ZT (1 + 2 * (X % 2) + 64 * (X % 3)) = E at *
            rw [HR.out, List.length_set]
            refine bodyPost_ret (v := .agg #[.slice (some ⟨g1, 0, none⟩) zs.length c1]) (by simp [results, Try.results96, go_sem, y1]) rfl ⟨g1, c1, rfl, ?_, ?_⟩
            · exact (HRW.out.kept (eGrown_set (World.grownBy.refl _ _) 0 _) (by intro q hq; have : g1 = q := by simpa [Value.ownBlock] using hq
                                                                                simp; omega)).rebase (by omega)
            · exact HBB.out.trans (((HB.out.mono (by omega)).setCell (by simp <;> omega) _).setCell (by simp <;> omega) _)
end Go.Proofs.Ytnmhkgmmpkjjeaa
