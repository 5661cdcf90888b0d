import Derived.Test.YtnmhkgmmpkjjeabLawS
import Derived.Test.YtnmhkgmmpkjjeabSFill
import Derived.Test.YtnmhkgmmpkjjeabIFill
namespace Go.Proofs.Ytnmhkgmmpkjjeab
open Go.ChangeShapes Go.WideShapes Go.ChangeAt Go.RowKit
set_option linter.unusedVariables false
attribute [local go_sem ↓] Go.wp_at_zero Go.wp_at_succ

theorem fnexactfill_big (s : SV) (M : Mach) (page choice : Int) (w : World) (h1 : M.mem.length ≤ 9223372036854775807) (h2 : M.pend.length ≤ 9223372036854775807) (h3 : M.tlb.length ≤ 9223372036854775807) (h4 : M.wc.length ≤ 9223372036854775807) (hb : ¬ M.mem.length + M.pend.length + M.tlb.length + M.wc.length ≤ 1048576) :
    Calls Try.prog 5 #[.agg #[.slice s.a1 M.mem.length s.c1, .slice s.a2 M.pend.length s.c2, .slice s.a3 M.tlb.length s.c3, .slice s.a4 M.wc.length s.c4], .int .i64 page, .int .i64 choice] w fun e w' => e = .returned (.bool true) ∧ Below w.heap.size w w' := by
  have hs := szMachine_any s.a1 s.a2 s.a3 s.a4 M.mem.length M.pend.length M.tlb.length M.wc.length s.c1 s.c2 s.c3 s.c4 h1 h2 h3 h4
  rw [if_neg hb] at hs
  go_enter Try.func5, Try.ntmps5
  go_wp2_with (go_at_call 24; refine (hs _).mono ?_; rintro e w1 ⟨rfl, hb1⟩)
  go_ret
  exact ⟨rfl, ((Below.refl _ _).alloc (Nat.le_refl _) _).trans (hb1.mono (by simp))⟩

set_option maxHeartbeats 4000000 in
theorem fnexactfill_walk (s : SV) (M M' : Mach) (page choice : Int) (w : World) (hsm : M.Small) (hsm' : M'.Small) (hsum : M.mem.length + M.pend.length + M.tlb.length + M.wc.length ≤ 1048576) (hv : MSrc w (s.mv M) M)
    (hS : ∀ (s : SV) (b : Nat) (w : World), MRow w b (s.mv M) M → Calls Try.prog 25 #[.agg #[.slice s.a1 M.mem.length s.c1, .slice s.a2 M.pend.length s.c2, .slice s.a3 M.tlb.length s.c3, .slice s.a4 M.wc.length s.c4], .int .i64 page, .int .i64 choice] w fun e w' => ∃ s' : SV, e = .returned (.agg #[.slice s'.a1 M'.mem.length s'.c1, .slice s'.a2 M'.pend.length s'.c2, .slice s'.a3 M'.tlb.length s'.c3, .slice s'.a4 M'.wc.length s'.c4]) ∧ MRow w' w.heap.size (s'.mv M') M' ∧ Below w.heap.size w w')
    (hI : ∀ (s : SV) (b : Nat) (w : World), MRow w b (s.mv M) M → Calls Try.prog 27 #[.agg #[.slice s.a1 M.mem.length s.c1, .slice s.a2 M.pend.length s.c2, .slice s.a3 M.tlb.length s.c3, .slice s.a4 M.wc.length s.c4], .int .i64 page, .int .i64 choice] w fun e w' => ∃ s' : SV, e = .returned (.agg #[.slice s'.a1 M'.mem.length s'.c1, .slice s'.a2 M'.pend.length s'.c2, .slice s'.a3 M'.tlb.length s'.c3, .slice s'.a4 M'.wc.length s'.c4]) ∧ MRow w' w.heap.size (s'.mv M') M' ∧ (s'.mv M').apart ∧ Below w.heap.size w w') :
    Calls Try.prog 5 #[.agg #[.slice s.a1 M.mem.length s.c1, .slice s.a2 M.pend.length s.c2, .slice s.a3 M.tlb.length s.c3, .slice s.a4 M.wc.length s.c4], .int .i64 page, .int .i64 choice] w fun e w' => e = .returned (.bool true) ∧ Below w.heap.size w w' := by
  have z1 := hsm'.w
  have z2 := hsm'.p
  have z3 := hsm'.t
  have z4 := hsm'.c
  have y1 := hsm.w
  have y2 := hsm.p
  have y3 := hsm.t
  have y4 := hsm.c
  have hsz := szMachine_any s.a1 s.a2 s.a3 s.a4 M.mem.length M.pend.length M.tlb.length M.wc.length s.c1 s.c2 s.c3 s.c4 (by omega) (by omega) (by omega) (by omega)
  rw [if_pos hsum] at hsz
  have d0 : decide ((1048576 : Int) - M.mem.length - M.pend.length - M.tlb.length - M.wc.length < 0) = false := by simp; omega
  obtain ⟨wb, hwb⟩ : ∃ wb, wb = w.alloc (.cells #[.slice s.a1 M.mem.length s.c1, .slice s.a2 M.pend.length s.c2, .slice s.a3 M.tlb.length s.c3, .slice s.a4 M.wc.length s.c4] 45) := ⟨_, rfl⟩
  have hbb : Below w.heap.size w wb := by rw [hwb]; exact (Below.refl _ _).alloc (Nat.le_refl _) _
  have hzb : wb.heap.size = w.heap.size + 1 := by rw [hwb]; simp
  have qb : wb.cell? ⟨w.heap.size, 0, none⟩ = some (.slice s.a1 M.mem.length s.c1) ∧ wb.cell? ⟨w.heap.size, 1, none⟩ = some (.slice s.a2 M.pend.length s.c2) ∧ wb.cell? ⟨w.heap.size, 2, none⟩ = some (.slice s.a3 M.tlb.length s.c3) ∧ wb.cell? ⟨w.heap.size, 3, none⟩ = some (.slice s.a4 M.wc.length s.c4) := by rw [hwb]; simp [go_sem]
  have hto : ∀ wX, Below (w.heap.size + 1) wb wX → Calls Try.prog 26 #[.agg #[.slice s.a1 M.mem.length s.c1, .slice s.a2 M.pend.length s.c2, .slice s.a3 M.tlb.length s.c3, .slice s.a4 M.wc.length s.c4]] wX fun e w' => ∃ s' : SV, e = .returned (.agg #[.slice s'.a1 M.mem.length s'.c1, .slice s'.a2 M.pend.length s'.c2, .slice s'.a3 M.tlb.length s'.c3, .slice s'.a4 M.wc.length s'.c4]) ∧ MRow w' wX.heap.size (s'.mv M) M ∧ (s'.mv M).apart ∧ Below wX.heap.size wX w' :=
    fun wX hX => toMachine_s s M wX hsm (hv.at (hbb.trans (hX.mono (by omega))))
  have hbox : ∀ wX, Below (w.heap.size + 1) wb wX → wX.cell? ⟨w.heap.size, 0, none⟩ = some (.slice s.a1 M.mem.length s.c1) ∧ wX.cell? ⟨w.heap.size, 1, none⟩ = some (.slice s.a2 M.pend.length s.c2) ∧ wX.cell? ⟨w.heap.size, 2, none⟩ = some (.slice s.a3 M.tlb.length s.c3) ∧ wX.cell? ⟨w.heap.size, 3, none⟩ = some (.slice s.a4 M.wc.length s.c4) :=
    fun wX hX => ⟨(hX.cell (by simp)).trans qb.1, (hX.cell (by simp)).trans qb.2.1, (hX.cell (by simp)).trans qb.2.2.1, (hX.cell (by simp)).trans qb.2.2.2⟩
  have HWB : Hid (wb = _) := hwb
  have HBB : Hid (Below _ _ _) := hbb
  have HTO : Hid _ := hto
  have HBOX : Hid _ := hbox
  have HS : Hid _ := hS
  have HI : Hid _ := hI
  clear hwb hbb hto hbox qb hv hS hI
  go_enter Try.func5, Try.ntmps5
  go_wp2_with fail
  refine (hsz _).mono ?_
  rintro e w1 ⟨rfl, hb1⟩
  have b1 : Below (w.heap.size + 1) wb w1 := by rw [HWB.out]; exact hb1.mono (by simp)
  obtain ⟨x1, x2, x3, x4⟩ := HBOX.out w1 b1
  clear hb1 hsz
  go_wp2_with fail
  refine (HTO.out w1 b1).mono ?_
  rintro e w2 ⟨sa, rfl, hra, _, hb2⟩
  have s1 := b1.size
  have b2 : Below (w.heap.size + 1) wb w2 := b1.trans (hb2.mono (by omega))
  have hSa := HS.out sa _ w2 hra
  clear hb2 x1 x2 x3 x4 hra
  go_wp2_with fail
  refine hSa.mono ?_
  rintro e w3 ⟨sw, rfl, hp3, hb3⟩
  have s2 := b2.size
  have b3 : Below (w.heap.size + 1) wb w3 := b2.trans (hb3.mono (by omega))
  have s3 := b3.size
  obtain ⟨wS, hwS⟩ : ∃ wS, wS = w3.alloc (.cells #[.slice sw.a1 M'.mem.length sw.c1, .slice sw.a2 M'.pend.length sw.c2, .slice sw.a3 M'.tlb.length sw.c3, .slice sw.a4 M'.wc.length sw.c4] 51) := ⟨_, rfl⟩
  have hzS : wS.heap.size = w3.heap.size + 1 := by rw [hwS]; simp
  have bS : Below (w.heap.size + 1) wb wS := by rw [hwS]; exact b3.alloc (by omega) _
  have qS : wS.cell? ⟨w3.heap.size, 0, none⟩ = some (.slice sw.a1 M'.mem.length sw.c1) ∧ wS.cell? ⟨w3.heap.size, 1, none⟩ = some (.slice sw.a2 M'.pend.length sw.c2) ∧ wS.cell? ⟨w3.heap.size, 2, none⟩ = some (.slice sw.a3 M'.tlb.length sw.c3) ∧ wS.cell? ⟨w3.heap.size, 3, none⟩ = some (.slice sw.a4 M'.wc.length sw.c4) := by rw [hwS]; simp [go_sem]
  have rS : MRow wS w2.heap.size (sw.mv M') M' := by rw [hwS]; exact hp3.below ((Below.refl _ _).alloc (Nat.le_refl _) _)
  obtain ⟨x1, x2, x3, x4⟩ := HBOX.out wS bS
  have htS := HTO.out wS bS
  rw [hwS] at htS x1 x2 x3 x4
  have HWS : Hid (wS = _) := hwS
  have HRS : Hid (MRow wS _ _ _) := rS
  have HBS : Hid (Below _ wb wS) := bS
  have HQS : Hid (wS.cell? ⟨w3.heap.size, 0, none⟩ = some (.slice sw.a1 M'.mem.length sw.c1) ∧ wS.cell? ⟨w3.heap.size, 1, none⟩ = some (.slice sw.a2 M'.pend.length sw.c2) ∧ wS.cell? ⟨w3.heap.size, 2, none⟩ = some (.slice sw.a3 M'.tlb.length sw.c3) ∧ wS.cell? ⟨w3.heap.size, 3, none⟩ = some (.slice sw.a4 M'.wc.length sw.c4)) := qS
  clear hSa hp3 hb3 b3 hwS bS qS rS b2 b1
  go_wp2_with fail
  refine htS.mono ?_
  rintro e w4 ⟨sx, rfl, hrx', hapx, hb4'⟩
  have hrx : MRow w4 wS.heap.size (sx.mv M) M := by rw [HWS.out]; exact hrx'
  have hb4 : Below wS.heap.size wS w4 := by rw [HWS.out]; exact hb4'
  have s4 := hb4.size
  obtain ⟨wX, hwX⟩ : ∃ wX, wX = w4.alloc (.cells #[.slice sx.a1 M.mem.length sx.c1, .slice sx.a2 M.pend.length sx.c2, .slice sx.a3 M.tlb.length sx.c3, .slice sx.a4 M.wc.length sx.c4] 51) := ⟨_, rfl⟩
  have hzX : wX.heap.size = w4.heap.size + 1 := by rw [hwX]; simp
  have bSX : Below wS.heap.size wS wX := by rw [hwX]; exact hb4.alloc (by omega) _
  have rX : MRow wX wS.heap.size (sx.mv M) M := by rw [hwX]; exact hrx.below ((Below.refl _ _).alloc (Nat.le_refl _) _)
  have qX : wX.cell? ⟨w4.heap.size, 0, none⟩ = some (.slice sx.a1 M.mem.length sx.c1) ∧ wX.cell? ⟨w4.heap.size, 1, none⟩ = some (.slice sx.a2 M.pend.length sx.c2) ∧ wX.cell? ⟨w4.heap.size, 2, none⟩ = some (.slice sx.a3 M.tlb.length sx.c3) ∧ wX.cell? ⟨w4.heap.size, 3, none⟩ = some (.slice sx.a4 M.wc.length sx.c4) := by rw [hwX]; simp [go_sem]
  have hIx := HI.out sx _ wX rX
  rw [hwX] at hIx
  have HWX : Hid (wX = _) := hwX
  have HRX : Hid (MRow wX _ _ _) := rX
  have HAPX : Hid (MV.apart _) := hapx
  have HOX : Hid (∀ k, (sx.mv M).owns k → wS.heap.size ≤ k ∧ k < w4.heap.size) := hrx.own
  have HBSX : Hid (Below _ wS wX) := bSX
  have HQX : Hid (wX.cell? ⟨w4.heap.size, 0, none⟩ = some (.slice sx.a1 M.mem.length sx.c1) ∧ wX.cell? ⟨w4.heap.size, 1, none⟩ = some (.slice sx.a2 M.pend.length sx.c2) ∧ wX.cell? ⟨w4.heap.size, 2, none⟩ = some (.slice sx.a3 M.tlb.length sx.c3) ∧ wX.cell? ⟨w4.heap.size, 3, none⟩ = some (.slice sx.a4 M.wc.length sx.c4)) := qX
  clear htS hrx' hb4' hrx hb4 hapx hwX bSX rX qX x1 x2 x3 x4
  go_wp2_with fail
  refine hIx.mono ?_
  rintro e w5 ⟨sg, rfl, hrg', hapg, hb5'⟩
  have hrg : MRow w5 wX.heap.size (sg.mv M') M' := by rw [HWX.out]; exact hrg'
  have hb5 : Below wX.heap.size wX w5 := by rw [HWX.out]; exact hb5'
  have s5 := hb5.size
  obtain ⟨wG, hwG⟩ : ∃ wG, wG = w5.alloc (.cells #[.slice sg.a1 M'.mem.length sg.c1, .slice sg.a2 M'.pend.length sg.c2, .slice sg.a3 M'.tlb.length sg.c3, .slice sg.a4 M'.wc.length sg.c4] 51) := ⟨_, rfl⟩
  have hzG : wG.heap.size = w5.heap.size + 1 := by rw [hwG]; simp
  have bXG : Below wX.heap.size wX wG := by rw [hwG]; exact hb5.alloc (by omega) _
  have rG : MRow wG wX.heap.size (sg.mv M') M' := by rw [hwG]; exact hrg.below ((Below.refl _ _).alloc (Nat.le_refl _) _)
  have qG : wG.cell? ⟨w5.heap.size, 0, none⟩ = some (.slice sg.a1 M'.mem.length sg.c1) ∧ wG.cell? ⟨w5.heap.size, 1, none⟩ = some (.slice sg.a2 M'.pend.length sg.c2) ∧ wG.cell? ⟨w5.heap.size, 2, none⟩ = some (.slice sg.a3 M'.tlb.length sg.c3) ∧ wG.cell? ⟨w5.heap.size, 3, none⟩ = some (.slice sg.a4 M'.wc.length sg.c4) := by rw [hwG]; simp [go_sem]
  have bSG : Below wS.heap.size wS wG := HBSX.out.trans (bXG.mono (by omega))
  have rSG := HRS.out.below bSG
  have heqG := eqMachine_same (sg.mv M') (sw.mv M') M' _ _ wG hsm' rG rSG
  have eSG : wG.cell? ⟨w3.heap.size, 0, none⟩ = some (.slice sw.a1 M'.mem.length sw.c1) ∧ wG.cell? ⟨w3.heap.size, 1, none⟩ = some (.slice sw.a2 M'.pend.length sw.c2) ∧ wG.cell? ⟨w3.heap.size, 2, none⟩ = some (.slice sw.a3 M'.tlb.length sw.c3) ∧ wG.cell? ⟨w3.heap.size, 3, none⟩ = some (.slice sw.a4 M'.wc.length sw.c4) := by
    obtain ⟨a, b, c, d⟩ := HQS.out
    exact ⟨(bSG.cell (by simp; omega)).trans a, (bSG.cell (by simp; omega)).trans b, (bSG.cell (by simp; omega)).trans c, (bSG.cell (by simp; omega)).trans d⟩
  obtain ⟨x1, x2, x3, x4⟩ := eSG
  rw [hwG] at heqG x1 x2 x3 x4
  have HWG : Hid (wG = _) := hwG
  have HRG : Hid (MRow wG _ _ _) := rG
  have HAPG : Hid (MV.apart _) := hapg
  have HOG : Hid (∀ k, (sg.mv M').owns k → wX.heap.size ≤ k ∧ k < w5.heap.size) := hrg.own
  have HBXG : Hid (Below _ wX wG) := bXG
  have HBSG : Hid (Below _ wS wG) := bSG
  have HQG : Hid (wG.cell? ⟨w5.heap.size, 0, none⟩ = some (.slice sg.a1 M'.mem.length sg.c1) ∧ wG.cell? ⟨w5.heap.size, 1, none⟩ = some (.slice sg.a2 M'.pend.length sg.c2) ∧ wG.cell? ⟨w5.heap.size, 2, none⟩ = some (.slice sg.a3 M'.tlb.length sg.c3) ∧ wG.cell? ⟨w5.heap.size, 3, none⟩ = some (.slice sg.a4 M'.wc.length sg.c4)) := qG
  clear hIx hrg' hb5' hrg hb5 hapg hwG bXG rG qG bSG rSG
  go_wp2_with fail
  refine heqG.mono ?_
  rintro e w6 ⟨rfl, hb6'⟩
  have hb6 : Below wG.heap.size wG w6 := by rw [HWG.out]; exact hb6'
  have s6 := hb6.size
  have b6 : Below (w.heap.size + 1) wb w6 := HBS.out.trans ((HBSG.out.trans (hb6.mono (by omega))).mono (by omega))
  have bX6 : Below wX.heap.size wX w6 := HBXG.out.trans (hb6.mono (by omega))
  have HKP : Hid (∀ wY, Below w6.heap.size w6 wY → (wY.cell? ⟨w.heap.size, 0, none⟩ = some (.slice s.a1 M.mem.length s.c1) ∧ wY.cell? ⟨w.heap.size, 1, none⟩ = some (.slice s.a2 M.pend.length s.c2) ∧ wY.cell? ⟨w.heap.size, 2, none⟩ = some (.slice s.a3 M.tlb.length s.c3) ∧ wY.cell? ⟨w.heap.size, 3, none⟩ = some (.slice s.a4 M.wc.length s.c4)) ∧ (wY.cell? ⟨w4.heap.size, 0, none⟩ = some (.slice sx.a1 M.mem.length sx.c1) ∧ wY.cell? ⟨w4.heap.size, 1, none⟩ = some (.slice sx.a2 M.pend.length sx.c2) ∧ wY.cell? ⟨w4.heap.size, 2, none⟩ = some (.slice sx.a3 M.tlb.length sx.c3) ∧ wY.cell? ⟨w4.heap.size, 3, none⟩ = some (.slice sx.a4 M.wc.length sx.c4))) := fun wY hY => by
    refine ⟨HBOX.out wY (b6.trans (hY.mono (by omega))), ?_⟩
    obtain ⟨a, b, c, d⟩ := HQX.out
    have bY : Below wX.heap.size wX wY := bX6.trans (hY.mono (by omega))
    exact ⟨(bY.cell (by simp; omega)).trans a, (bY.cell (by simp; omega)).trans b, (bY.cell (by simp; omega)).trans c, (bY.cell (by simp; omega)).trans d⟩
  have HRX6 : Hid (∀ wY, Below w6.heap.size w6 wY → MRow wY wS.heap.size (sx.mv M) M) := fun wY hY => HRX.out.below (bX6.trans (hY.mono (by omega)))
  have k6 := HKP.out w6 (Below.refl _ _)
  obtain ⟨⟨p1, p2, p3, p4⟩, p5, p6, p7, p8⟩ := k6
  have HB6 : Hid (Below _ wG w6) := hb6
  have HBB6 : Hid (Below _ wb w6) := b6
  have hty := HTO.out
  clear heqG hb6' hb6 b6 bX6 x1 x2 x3 x4
  go_wp2_with fail
  go_region_held3 (fun w' => (w'.cell? ⟨w.heap.size, 0, none⟩ = some (.slice s.a1 M.mem.length s.c1) ∧ w'.cell? ⟨w.heap.size, 1, none⟩ = some (.slice s.a2 M.pend.length s.c2) ∧ w'.cell? ⟨w.heap.size, 2, none⟩ = some (.slice s.a3 M.tlb.length s.c3) ∧ w'.cell? ⟨w.heap.size, 3, none⟩ = some (.slice s.a4 M.wc.length s.c4)) ∧ (w'.cell? ⟨w4.heap.size, 0, none⟩ = some (.slice sx.a1 M.mem.length sx.c1) ∧ w'.cell? ⟨w4.heap.size, 1, none⟩ = some (.slice sx.a2 M.pend.length sx.c2) ∧ w'.cell? ⟨w4.heap.size, 2, none⟩ = some (.slice sx.a3 M.tlb.length sx.c3) ∧ w'.cell? ⟨w4.heap.size, 3, none⟩ = some (.slice sx.a4 M.wc.length sx.c4)))
    ((refine HKP.out _ ?_; repeat (first | exact Below.refl _ _ | with_reducible refine Below.drew ?_ | refine Below.trans ?_ (hb8.mono (by first | omega | (simp <;> omega))) | refine Below.trans ?_ (hb7.mono (by first | omega | (simp <;> omega))))))
    (first
      | (go_at_call 26; refine (HTO.out _ (by first | exact HBB6.out | exact HBB6.out.drew)).mono ?_; rintro e w7 ⟨sy, rfl, hry, _, hb7⟩; have s7 := hb7.size; simp at s7)
      | (go_at_call 28; refine (eqMachine_same (sx.mv M) (sy.mv M) M _ _ _ hsm (HRX6.out _ ((Below.refl _ _).drew.trans (hb7.mono (by simp)))) hry).mono ?_; rintro e w8 ⟨rfl, hb8⟩))
  have s8 := hb8.size
  have b68 : Below w6.heap.size w6 w8 := (Below.refl _ _).drew.trans ((hb7.mono (by simp)).trans (hb8.mono (by omega)))
  obtain ⟨p1, p2, p3, p4⟩ := (HKP.out w8 b68).2
  have hmx := markMachine_any (sx.mv M) M _ w8 hsm (HRX6.out w8 b68) HAPX.out
  have bG8 : Below wG.heap.size wG w8 := HB6.out.trans (b68.mono (by omega))
  have HRG8 : Hid (MRow w8 wX.heap.size (sg.mv M') M') := HRG.out.below bG8
  have HBG8 : Hid (Below _ wG w8) := bG8
  have HBB8 : Hid (Below _ wb w8) := HBB6.out.trans (b68.mono (by omega))
  have HBS8 : Hid (Below _ wS w8) := HBSG.out.trans (bG8.mono (by omega))
  clear hb7 hb8 b68 bG8 hry
  go_wp2_with fail
  refine hmx.mono ?_
  rintro e w9 ⟨rfl, _, ht9⟩
  have s9 := ht9.size
  have bS9 : Below wS.heap.size wS w9 := Touch.below HBS8.out ht9 (by omega) (fun k hk => (HOX.out k hk).1)
  have bb9 : Below (w.heap.size + 1) wb w9 := Touch.below HBB8.out ht9 (by omega) (fun k hk => by have := HOX.out k hk; omega)
  have rG9 : MRow w9 wX.heap.size (sg.mv M') M' := HRG8.out.touch ht9 (fun k hk hx => by have := HOG.out k hk; have := HOX.out k hx; omega)
  have g9 : w9.cell? ⟨w5.heap.size, 0, none⟩ = some (.slice sg.a1 M'.mem.length sg.c1) ∧ w9.cell? ⟨w5.heap.size, 1, none⟩ = some (.slice sg.a2 M'.pend.length sg.c2) ∧ w9.cell? ⟨w5.heap.size, 2, none⟩ = some (.slice sg.a3 M'.tlb.length sg.c3) ∧ w9.cell? ⟨w5.heap.size, 3, none⟩ = some (.slice sg.a4 M'.wc.length sg.c4) := by
    obtain ⟨a, b, c, d⟩ := HQG.out
    have hk : w9.heap[w5.heap.size]? = wG.heap[w5.heap.size]? := (ht9.block w5.heap.size (by omega) (fun hx => by have := HOX.out _ hx; omega)).trans (HBG8.out.block _ (by omega))
    exact ⟨(World.cell?_of_block hk).trans a, (World.cell?_of_block hk).trans b, (World.cell?_of_block hk).trans c, (World.cell?_of_block hk).trans d⟩
  have q9 : w9.cell? ⟨w3.heap.size, 0, none⟩ = some (.slice sw.a1 M'.mem.length sw.c1) ∧ w9.cell? ⟨w3.heap.size, 1, none⟩ = some (.slice sw.a2 M'.pend.length sw.c2) ∧ w9.cell? ⟨w3.heap.size, 2, none⟩ = some (.slice sw.a3 M'.tlb.length sw.c3) ∧ w9.cell? ⟨w3.heap.size, 3, none⟩ = some (.slice sw.a4 M'.wc.length sw.c4) := by
    obtain ⟨a, b, c, d⟩ := HQS.out
    exact ⟨(bS9.cell (by simp; omega)).trans a, (bS9.cell (by simp; omega)).trans b, (bS9.cell (by simp; omega)).trans c, (bS9.cell (by simp; omega)).trans d⟩
  have heq9 := eqMachine_same (sg.mv M') (sw.mv M') M' _ _ w9 hsm' rG9 (HRS.out.below bS9)
  obtain ⟨g1, g2, g3, g4⟩ := g9
  obtain ⟨x1, x2, x3, x4⟩ := q9
  have d1 : decide (1 + (M.mem.length : Int) + M.pend.length * 2 + M.tlb.length * 5 + M.wc.length * 4 < 0) = false := by simp; omega
  have HRG9 : Hid (MRow w9 _ _ _) := rG9
  have HBS9 : Hid (Below _ wS w9) := bS9
  have HBB9 : Hid (Below _ wb w9) := bb9
  clear hmx ht9 rG9 bS9 bb9 p1 p2 p3 p4
  go_wp2_with fail
  refine heq9.mono ?_
  rintro e wA ⟨rfl, hbA⟩
  have sA := hbA.size
  have g1A := (hbA.cell (p := ⟨w5.heap.size, 0, none⟩) (by simp; omega)).trans g1
  have g2A := (hbA.cell (p := ⟨w5.heap.size, 1, none⟩) (by simp; omega)).trans g2
  have g3A := (hbA.cell (p := ⟨w5.heap.size, 2, none⟩) (by simp; omega)).trans g3
  have g4A := (hbA.cell (p := ⟨w5.heap.size, 3, none⟩) (by simp; omega)).trans g4
  have hmg := markMachine_any (sg.mv M') M' _ wA hsm' (HRG9.out.below hbA) HAPG.out
  have HBSA : Hid (Below _ wS wA) := HBS9.out.trans (hbA.mono (by omega))
  have HBBA : Hid (Below _ wb wA) := HBB9.out.trans (hbA.mono (by omega))
  clear heq9 hbA g1 g2 g3 g4 x1 x2 x3 x4
  go_wp2_with fail
  refine hmg.mono ?_
  rintro e wB ⟨rfl, hasB, htB⟩
  have sB := htB.size
  have hkB : wB.heap[w5.heap.size]? = wA.heap[w5.heap.size]? := htB.block w5.heap.size (by omega) (fun hx => by have := HOG.out _ hx; omega)
  have g1B := (World.cell?_of_block (a := ⟨w5.heap.size, 0, none⟩) hkB).trans g1A
  have g2B := (World.cell?_of_block (a := ⟨w5.heap.size, 1, none⟩) hkB).trans g2A
  have g3B := (World.cell?_of_block (a := ⟨w5.heap.size, 2, none⟩) hkB).trans g3A
  have g4B := (World.cell?_of_block (a := ⟨w5.heap.size, 3, none⟩) hkB).trans g4A
  have hhl := heldMachine_any (sg.mv M') M' wB hsm' hasB
  have HBSB : Hid (Below _ wS wB) := Touch.below HBSA.out htB (by omega) (fun k hk => by have := HOG.out k hk; omega)
  have HBBB : Hid (Below _ wb wB) := Touch.below HBBA.out htB (by omega) (fun k hk => by have := HOG.out k hk; omega)
  clear hmg hasB htB hkB g1A g2A g3A g4A
  go_wp2_with fail
  refine hhl.mono ?_
  rintro e wC ⟨rfl, hbC⟩
  have sC := hbC.size
  have bSC : Below wS.heap.size wS wC := HBSB.out.trans (hbC.mono (by omega))
  have bbC : Below (w.heap.size + 1) wb wC := HBBB.out.trans (hbC.mono (by omega))
  obtain ⟨p1, p2, p3, p4⟩ := HBOX.out wC bbC
  have d2 : decide (1 + (M'.mem.length : Int) + M'.pend.length * 2 + M'.tlb.length * 5 + M'.wc.length * 4 < 0) = false := by simp; omega
  have htC := HTO.out wC bbC
  have HBSC : Hid (Below _ wS wC) := bSC
  have HBBC : Hid (Below _ wb wC) := bbC
  clear hhl hbC bSC bbC g1B g2B g3B g4B
  go_wp2_with fail
  refine htC.mono ?_
  rintro e wD ⟨sz, rfl, hrz, _, hbD⟩
  have sD := hbD.size
  have hIz := HI.out sz _ wD hrz
  have HBSD : Hid (Below _ wS wD) := HBSC.out.trans (hbD.mono (by omega))
  have HBBD : Hid (Below _ wb wD) := HBBC.out.trans (hbD.mono (by omega))
  clear htC hrz hbD p1 p2 p3 p4
  go_wp2_with fail
  refine hIz.mono ?_
  rintro e wE ⟨sh, rfl, hrh, _, hbE⟩
  have sE := hbE.size
  have bSE : Below wS.heap.size wS wE := HBSD.out.trans (hbE.mono (by omega))
  obtain ⟨wH, hwH⟩ : ∃ wH, wH = wE.alloc (.cells #[.slice sh.a1 M'.mem.length sh.c1, .slice sh.a2 M'.pend.length sh.c2, .slice sh.a3 M'.tlb.length sh.c3, .slice sh.a4 M'.wc.length sh.c4] 51) := ⟨_, rfl⟩
  have hzH : wH.heap.size = wE.heap.size + 1 := by rw [hwH]; simp
  have bSH : Below wS.heap.size wS wH := by rw [hwH]; exact bSE.alloc (by omega) _
  have bbH : Below (w.heap.size + 1) wb wH := by rw [hwH]; exact (HBBD.out.trans (hbE.mono (by omega))).alloc (by omega) _
  have rH : MRow wH wD.heap.size (sh.mv M') M' := by rw [hwH]; exact hrh.below ((Below.refl _ _).alloc (Nat.le_refl _) _)
  have heqH := eqMachine_same (sh.mv M') (sw.mv M') M' _ _ wH hsm' rH (HRS.out.below bSH)
  have qH : wH.cell? ⟨w3.heap.size, 0, none⟩ = some (.slice sw.a1 M'.mem.length sw.c1) ∧ wH.cell? ⟨w3.heap.size, 1, none⟩ = some (.slice sw.a2 M'.pend.length sw.c2) ∧ wH.cell? ⟨w3.heap.size, 2, none⟩ = some (.slice sw.a3 M'.tlb.length sw.c3) ∧ wH.cell? ⟨w3.heap.size, 3, none⟩ = some (.slice sw.a4 M'.wc.length sw.c4) := by
    obtain ⟨a, b, c, d⟩ := HQS.out
    exact ⟨(bSH.cell (by simp; omega)).trans a, (bSH.cell (by simp; omega)).trans b, (bSH.cell (by simp; omega)).trans c, (bSH.cell (by simp; omega)).trans d⟩
  obtain ⟨x1, x2, x3, x4⟩ := qH
  rw [hwH] at heqH x1 x2 x3 x4
  have HWH : Hid (wH = _) := hwH
  have HBBH : Hid (Below _ wb wH) := bbH
  clear hIz hrh hbE bSE hwH bSH bbH rH
  go_wp2_with fail
  refine heqH.mono ?_
  rintro e wF ⟨rfl, hbF'⟩
  have hbF : Below wH.heap.size wH wF := by rw [HWH.out]; exact hbF'
  clear heqH hbF' x1 x2 x3 x4
  go_wp2_with fail
  go_ret
  exact ⟨rfl, HBB.out.trans ((HBBH.out.trans (hbF.mono (by have := HBBH.out.size; omega))).mono (by omega))⟩
end Go.Proofs.Ytnmhkgmmpkjjeab
namespace Go.Proofs.Ytnmhkgmmpkjjeab
open Go.ChangeShapes Go.WideShapes Go.ChangeAt Go.RowKit
set_option linter.unusedVariables false

theorem fnexactfill_own : ownKnob Try.prog.godebug = none := by kernel_rfl

set_option maxRecDepth 100000 in
theorem fnexactfill_lifted (hany : ∀ (s : SV) (M : Mach) (page choice : Int) (w : World), MOk M → MSrc w (s.mv M) M → Calls Try.prog 5 #[.agg #[.slice s.a1 M.mem.length s.c1, .slice s.a2 M.pend.length s.c2, .slice s.a3 M.tlb.length s.c3, .slice s.a4 M.wc.length s.c4], .int .i64 page, .int .i64 choice] w fun e w' => e = .returned (.bool true) ∧ Below w.heap.size w w')
    (os : Os) (started : os.Started) (H : Type) (enc : TypeId × Value → H) :
    ReturnsInHanded {} Try.checked os 5 .any (Rows.fnExactFillSpec.pre6 enc Try.prog Try.f5 Rows.fnExactFillRow.domain false) (Rows.fnExactFillSpec.post enc Try.prog Try.f5 false true false false) := by
  refine returnsInHanded_of_change (C := Try.checked) fnexactfill_own started (by kernel_rfl) Try.func5
    (ChangeSpec.witness6 (enc := enc) (C := Try.checked) false ⟨#[], #[.agg #[.slice none 0 0, .slice none 0 0, .slice none 0 0, .slice none 0 0], .int .i64 0, .int .i64 0], []⟩ 8 (by kernel_rfl) (by kernel_rfl) (by kernel_rfl) (by kernel_rfl)) ?_
  intro W base args ds gs before hval0 hW hcnd _
  have hval : ∀ (j : Nat) t v, Try.f5.params[j]? = some t → args[j]? = some v → Value.okWide Try.prog W .any base t v := hval0
  have hW' := hW
  obtain ⟨p, q, hA0, hV, rfl, hfz, hnd⟩ := hW
  have hA : DataW.TrodAll enc Try.prog W 0 (fun _ => true) true Try.f5.params.toList args.toList ds p := hA0
  rw [Try.params5] at hA hval
  obtain ⟨v0, vs0, d0, ds0, p0, q0, hargs, rfl, rfl, h0, r0⟩ := trodAll_cons hA
  obtain ⟨v1, vs1, d1, ds1, p1, q1, rfl, rfl, rfl, h1, r1⟩ := trodAll_cons r0
  obtain ⟨v2, vs2, d2, ds2, p2, q2, rfl, rfl, rfl, h2, r2⟩ := trodAll_cons r1
  obtain ⟨rfl, rfl, rfl⟩ := trodAll_nil r2
  obtain rfl : args = #[v0, v1, v2] := by cases args; simp_all
  obtain ⟨rfl, rfl⟩ := trodVars_none hV
  have k0 := h0
  have lt0 : ∀ x ∈ p0, x.block < W.heap.size := by obtain ⟨m, hm⟩ := k0; exact DataW.trod_lt m _ _ _ hm
  obtain ⟨n1, rfl, rfl, rfl, w1⟩ := open_int Try.underlying3 (hval 1 3 v1 rfl rfl) h1
  obtain ⟨n2, rfl, rfl, rfl, w2⟩ := open_int Try.underlying3 (hval 2 3 v2 rfl rfl) h2
  obtain ⟨s, M, rfl, hok, hsrc⟩ := mach_open (hval 0 45 v0 rfl rfl) h0
  clear hA0 hval0
  refine (hany s M n1 n2 W hok hsrc).mono fun e W' ⟨he, bel⟩ => ?_
  subst he
  exact ⟨_, rfl, _, _, _, [], _, [], hW', trodAll_mk1 (shut_bool Try.underlying4 _), (trodAll_cons_mk (Below.trod mach_laidOut (by kernel_rfl) (of_decide_eq_true (by kernel_rfl)) k0 bel lt0) ((trodAll_cons_mk (shut_int Try.underlying3 w1) ( trodAll_cons_mk (shut_int Try.underlying3 w2) trodAll_mk0)))), rfl, bel.frame _, fun h => by cases h⟩
end Go.Proofs.Ytnmhkgmmpkjjeab
namespace Go.Proofs.Ytnmhkgmmpkjjeab
open Go.ChangeShapes Go.WideShapes Go.ChangeAt Go.RowKit
set_option linter.unusedVariables false

theorem fill_law (s : SV) (M : Mach) (page choice : Int) (w : World) (hk : MOk M) (hsrc : MSrc w (s.mv M) M) : Calls Try.prog 5 #[.agg #[.slice s.a1 M.mem.length s.c1, .slice s.a2 M.pend.length s.c2, .slice s.a3 M.tlb.length s.c3, .slice s.a4 M.wc.length s.c4], .int .i64 page, .int .i64 choice] w fun e w' => e = .returned (.bool true) ∧ Below w.heap.size w w' := by
  by_cases hb : M.mem.length + M.pend.length + M.tlb.length + M.wc.length ≤ 1048576
  · have hs : M.Small := ⟨by omega, by omega, by omega, by omega⟩
    exact fnexactfill_walk s M (fillM M page choice) page choice w hs (fillM_small hk page choice) hb hsrc
      (fun s b w h => specFill_any s M b page choice w hk hs h) (fun s b w h => implFill_any s M b page choice w hk hs h)
  · exact fnexactfill_big s M page choice w hk.w hk.p hk.t hk.c hb

/-- THE STATEMENT -/
theorem fill_proved : Rows.FnExactFillSaid :=
  OpenClaim.holds_of_wide 5 Try.f5 rfl rfl rfl rfl rfl rfl rfl ⟨rfl, rfl, rfl, rfl, rfl⟩ rfl rfl rfl rfl rfl (by kernel_rfl) Try.func5 (by kernel_rfl)
    (of_decide_eq_true (by kernel_rfl)) (by unfold Func.isWrapper; first | (rw [if_pos (by decide +kernel)]; kernel_rfl) | (rw [if_neg (by decide +kernel)]; exact ⟨rfl, rfl⟩))
    (fun os started H enc _ => fnexactfill_lifted fill_law os started H enc)
#print axioms fill_proved
end Go.Proofs.Ytnmhkgmmpkjjeab
