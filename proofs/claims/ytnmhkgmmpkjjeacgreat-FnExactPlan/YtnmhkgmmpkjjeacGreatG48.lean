import Derived.Test.YtnmhkgmmpkjjeacGreatG43
import Derived.Test.YtnmhkgmmpkjjeacGreatG45
import Derived.Test.YtnmhkgmmpkjjeacGreatG03
import Derived.Test.YtnmhkgmmpkjjeacGreatG46
import Derived.Test.YtnmhkgmmpkjjeacGreatG47
import Derived.Test.YtnmhkgmmpkjjeacGreatG08
import Derived.ChangeOld
import Derived.Lib.SmallJoins
namespace Go.Proofs.YtnmhkgmmpkjjeacGreat
open Go.ChangeShapes Go.WideShapes Go.ChangeAt Go.RowKit Go.Joins
set_option linter.unusedVariables false
attribute [local go_sem ↓] Go.wp_at_zero Go.wp_at_succ

theorem Src.at {w w' : World} {v : Value} {zs : List Int} (h : Src w v zs) (hb : Below w.heap.size w w') : Src w' v zs := by
  obtain ⟨a, cap, rfl, ha⟩ := h
  refine ⟨a, cap, rfl, fun h0 => ?_⟩
  obtain ⟨b, o, rfl, hbl, hc⟩ := ha h0
  exact ⟨b, o, rfl, Nat.lt_of_lt_of_le hbl hb.size, fun i hi => (hb.cell hbl).trans (hc i hi)⟩
theorem planF_len (zs : List Int) (xs : List SpanE) : (planF zs xs).1.length ≤ 200000 := by
  by_cases hpt : ptree zs = true
  · by_cases hvb : vsB xs = true
    · by_cases hfr : nfr zs.length < ((wPre (lay xs) 256).length : Nat)
      · rw [planF_3 hpt hvb hfr]; exact Nat.zero_le _
      · rw [planF_0 hpt hvb hfr]
        have hnl := nfr_le zs.length
        have hn0 := (nfr_mul zs.length (ptree_nfr hpt)).2
        have hlen : (newL (lay xs) (plist zs)).length ≤ (wPre (lay xs) 256).length := frTo_len (keptL (lay xs) (plist zs)) (wPre (lay xs) 256) _ (Nat.le_refl _)
        have := xAcc_len zs (lay xs) (nfr zs.length).toNat (keptL (lay xs) (plist zs)) (goneL (lay xs) (plist zs)) (newL (lay xs) (plist zs)) (by have := ret_len (goneL (lay xs) (plist zs)) (nfr zs.length).toNat; omega) (by omega) 5
        rw [planL_acc] at this
        show (planL zs (nfr zs.length).toNat (lay xs) (plist zs)).length ≤ 200000
        omega
    · have hvb' : vsB xs = false := by simpa using hvb
      rw [planF_2 hpt hvb']; exact Nat.zero_le _
  · have hpt' : ptree zs = false := by simpa using hpt
    rw [planF_1 hpt']; exact Nat.zero_le _
theorem planl_big1 (a : Option Addr) (n cap : Nat) (u : Value) (w : World) (h1 : n ≤ 9223372036854775807) (hb : 1048576 < n) :
    Calls Tryz.prog 3 #[.agg #[.slice a n cap], u] w fun e w' => e = .returned (.bool true) ∧ Below w.heap.size w w' := by
  have hs := szMem_any a n cap h1
  rw [if_neg (by omega)] at hs
  go_enter Tryz.func3, Tryz.ntmps3
  go_wp2_with (go_at_call 6; refine (hs _).mono ?_; rintro e w1 ⟨rfl, hb1⟩)
  go_ret
  exact ⟨rfl, bal.trans (hb1.mono (by simp))⟩
theorem planl_big2 (a a2 : Option Addr) (n cap n2 cap2 : Nat) (w : World) (h1 : n ≤ 1048576) (h2 : n2 ≤ 9223372036854775807) (hb : ¬ (n2 : Int) ≤ 1048576 - n) :
    Calls Tryz.prog 3 #[.agg #[.slice a n cap], .slice a2 n2 cap2] w fun e w' => e = .returned (.bool true) ∧ Below w.heap.size w w' := by
  have hs := szMem_any a n cap (by omega)
  rw [if_pos (by omega)] at hs
  have hs2 := szSpan_any a2 n2 cap2 (1048576 - n) h2 (by omega) (by omega)
  rw [if_neg hb] at hs2
  have d0 : decide ((1048576 : Int) - n < 0) = false := by simp; omega
  go_enter Tryz.func3, Tryz.ntmps3
  go_wp2_with (first | (go_at_call 6; refine (hs _).mono ?_; rintro e w1 ⟨rfl, hb1⟩) | (go_at_call 7; refine (hs2 _).mono ?_; rintro e w2 ⟨rfl, hw2⟩; obtain rfl := hw2.symm))
  go_ret
  exact ⟨rfl, bal.trans (hb1.mono (by simp))⟩
set_option maxRecDepth 100000 in
set_option maxHeartbeats 4000000 in
theorem planl_walk (v : Value) (zs : List Int) (a : Option Addr) (cap : Nat) (xs : List SpanE) (l : List OpE) (code : Int) (w : World) (hv : Src w v zs) (hu : ESrc eSpan w (.slice a xs.length cap) xs) (hlen : zs.length ≤ 1048576) (hn : (xs.length : Int) ≤ 1048576 - zs.length) (hll : l.length ≤ 200000)
    (hS : ∀ g g2 b w, CRow w g zs → ERow eSpan w b (.slice (some ⟨g2, 0, none⟩) xs.length xs.length) xs → Calls Tryz.prog 8 #[.agg #[.slice (some ⟨g, 0, none⟩) zs.length zs.length], .slice (some ⟨g2, 0, none⟩) xs.length xs.length] w fun e w' => PlanPost w (l, code) e w')
    (hI : ∀ g g2 b w, CRow w g zs → ERow eSpan w b (.slice (some ⟨g2, 0, none⟩) xs.length xs.length) xs → Calls Tryz.prog 11 #[.agg #[.slice (some ⟨g, 0, none⟩) zs.length zs.length], .slice (some ⟨g2, 0, none⟩) xs.length xs.length] w fun e w' => PlanPost w (l, code) e w') :
    Calls Tryz.prog 3 #[.agg #[v], .slice a xs.length cap] w fun e w' => e = .returned (.bool true) ∧ Below w.heap.size w w' := by
  have hsz : ∀ w, Calls Tryz.prog 6 #[.agg #[v], .int .i64 1048576] w fun e w' => e = .returned (.int .i64 (1048576 - zs.length)) ∧ Below w.heap.size w w' := by
    obtain ⟨a, cap, rfl, _⟩ := hv
    intro w
    have := szMem_any a zs.length cap (by omega) w
    rwa [if_pos (by omega)] at this
  have hsz2 := szSpan_any a xs.length cap (1048576 - zs.length) (by omega) (by omega) (by omega)
  rw [if_pos hn] at hsz2
  have d0 : decide ((1048576 : Int) - zs.length < 0) = false := by simp; omega
  have d1 : decide ((1048576 : Int) - zs.length - xs.length < 0) = false := by simp; omega
  have hcc : (code != code) = false := by simp
  have hxl : xs.length ≤ 1048576 := by omega
  obtain ⟨wb, hwb⟩ : ∃ wb, wb = w.alloc (.cells #[v] 24) := ⟨_, rfl⟩
  have hbb : Below w.heap.size w wb := by rw [hwb]; exact bal
  have hzb : wb.heap.size = w.heap.size + 1 := by rw [hwb]; simp
  have qb : wb.cell? ⟨w.heap.size, 0, none⟩ = some v := by rw [hwb]; simp [go_sem]
  have hto : ∀ wX, Below (w.heap.size + 1) wb wX → Calls Tryz.prog 9 #[.agg #[v]] wX fun e w' => ∃ g, e = .returned (.agg #[.slice (some ⟨g, 0, none⟩) zs.length zs.length]) ∧ wX.heap.size ≤ g ∧ IRow w' g zs ∧ Below wX.heap.size wX w' :=
    fun wX hX => toMem_any v zs wX (hv.at (hbb.trans (hX.mono (by omega)))) hlen
  have hts : ∀ wX, Below (w.heap.size + 1) wb wX → Calls Tryz.prog 10 #[.slice a xs.length cap] wX fun e w' => e = .returned (.slice (some ⟨wX.heap.size, 0, none⟩) xs.length xs.length) ∧ ERow eSpan w' wX.heap.size (.slice (some ⟨wX.heap.size, 0, none⟩) xs.length xs.length) xs ∧ Below wX.heap.size wX w' :=
    fun wX hX => toSpanS_any _ xs wX (hu.at (hbb.trans (hX.mono (by omega)))) hxl
  have hbox : ∀ wX, Below (w.heap.size + 1) wb wX → wX.cell? ⟨w.heap.size, 0, none⟩ = some v := fun wX hX => (hX.cell (by simp)).trans qb
  obtain ⟨av, cv, rfl, _⟩ := hv
  have HWB : Hid (wb = _) := hwb
  have HBB : Hid (Below w.heap.size w wb) := hbb
  have HTO : Hid _ := hto
  have HTS : Hid _ := hts
  have HBOX : Hid _ := hbox
  have HS : Hid _ := hS
  have HI : Hid _ := hI
  have N0 : w.heap.size + 1 ≤ wb.heap.size := by omega
  clear hwb hbb hto hts hbox qb hS hI hu hn
  go_enter Tryz.func3, Tryz.ntmps3
  go_wp2_with fail
  refine (hsz _).mono ?_
  rintro e w1 ⟨rfl, hb1⟩
  have b1 : Below (w.heap.size + 1) wb w1 := by rw [HWB.out]; exact hb1.mono (by simp)
  have x1 := HBOX.out w1 b1
  have B1 : Hid (Below (w.heap.size + 1) wb w1) := b1
  clear hb1 hsz b1
  go_wp2_with fail
  refine (hsz2 _).mono ?_
  rintro e w1' ⟨rfl, hw1⟩
  obtain rfl := hw1.symm
  clear hsz2
  have h2 := HTO.out w1 B1.out
  go_wp2_with fail
  refine h2.mono ?_
  rintro e w2 ⟨ga, rfl, hga, hra, hb2⟩
  have s1 := B1.out.size
  have B2 : Hid (Below (w.heap.size + 1) wb w2) := B1.out.trans (hb2.mono (by omega))
  have h3 := HTS.out w2 B2.out
  clear hb2 x1 h2
  go_wp2_with fail
  refine h3.mono ?_
  rintro e w3 ⟨rfl, hrs3, hb3⟩
  have s2 := B2.out.size
  have B3 : Hid (Below (w.heap.size + 1) wb w3) := B2.out.trans (hb3.mono (by omega))
  have h4 := HS.out ga _ _ w3 (hra.c.below hb3 hra.lt) hrs3
  clear hb3 hra hrs3 h3 HS
  go_wp2_with fail
  refine h4.mono ?_
  rintro e w4 ⟨a4, c4, rfl, hr4, hb4⟩
  have s3 := B3.out.size
  have B4 : Hid (Below (w.heap.size + 1) wb w4) := B3.out.trans (hb4.mono (by omega))
  have x4 := HBOX.out w4 B4.out
  have s4 := B4.out.size
  have HR4 : Hid (∀ wX, Below w4.heap.size w4 wX → ERow eOp wX w3.heap.size (.slice a4 l.length c4) l) := fun wX hX => hr4.below hX
  have h5 := HTO.out w4 B4.out
  clear hb4 hr4 h4
  go_wp2_with fail
  refine h5.mono ?_
  rintro e w5 ⟨gx, rfl, hgx, hrx, hb5⟩
  obtain ⟨wx, hwx⟩ : ∃ wx, wx = w5.alloc (.cells #[.slice (some ⟨gx, 0, none⟩) zs.length zs.length] 31) := ⟨_, rfl⟩
  have s5 := hb5.size
  have hgx5 := hrx.lt
  have hb4x : Below w4.heap.size w4 wx := by rw [hwx]; exact hb5.alloc (by omega) _
  have hrxx : IRow wx gx zs := by rw [hwx]; exact World.rowIs.alloc hrx _
  have hzx : wx.heap.size = w5.heap.size + 1 := by rw [hwx]; simp
  have qx : wx.cell? ⟨w5.heap.size, 0, none⟩ = some (.slice (some ⟨gx, 0, none⟩) zs.length zs.length) := by rw [hwx]; simp [go_sem]
  have BX : Hid (Below (w.heap.size + 1) wb wx) := B4.out.trans (hb4x.mono (by omega))
  have B4X : Hid (Below w4.heap.size w4 wx) := hb4x
  have h6 := HTS.out wx BX.out
  have HWX : Hid (wx = _) := hwx
  have HRXX : Hid (IRow wx gx zs) := hrxx
  have HQX : Hid (wx.cell? ⟨w5.heap.size, 0, none⟩ = some (.slice (some ⟨gx, 0, none⟩) zs.length zs.length)) := qx
  have NX : w5.heap.size < wx.heap.size := by omega
  have NG : gx < wx.heap.size := by omega
  have NW : w4.heap.size ≤ wx.heap.size := by omega
  clear hb5 hrx hwx x4 h5 hb4x hrxx hzx qx
  go_wp2_with fail
  rw [← HWX.out]
  refine h6.mono ?_
  rintro e w6 ⟨rfl, hrs6, hb6⟩
  have s6 := hb6.size
  have h7 := HI.out gx _ _ w6 (HRXX.out.c.below hb6 NG) hrs6
  have y6 := (hb6.cell (p := ⟨w5.heap.size, 0, none⟩) NX).trans HQX.out
  have BX6 : Hid (Below wx.heap.size wx w6) := hb6
  have HRS6 : Hid (ERow eSpan w6 wx.heap.size (.slice (some ⟨wx.heap.size, 0, none⟩) xs.length xs.length) xs) := hrs6
  have N6 : wx.heap.size < w6.heap.size := (hrs6.own wx.heap.size rfl).2
  clear hb6 hrs6 h6
  go_wp2_with fail
  refine h7.mono ?_
  rintro e w7 ⟨a7, c7, rfl, hr7, hb7⟩
  have s7 := hb7.size
  have BX7 : Hid (Below wx.heap.size wx w7) := BX6.out.trans (hb7.mono (by omega))
  have B47 : Hid (Below w4.heap.size w4 w7) := B4X.out.trans (BX7.out.mono (by omega))
  have HRS7 : Hid (∀ wX, Below w7.heap.size w7 wX → ERow eSpan wX wx.heap.size (.slice (some ⟨wx.heap.size, 0, none⟩) xs.length xs.length) xs) := fun wX hX => (HRS6.out.below hb7).below hX
  have HR7 : Hid (∀ wX, Below w7.heap.size w7 wX → ERow eOp wX w6.heap.size (.slice a7 l.length c7) l) := fun wX hX => hr7.below hX
  have h8 := eqOpS_same (.slice a7 l.length c7) (.slice a4 l.length c4) _ _ l w7 (by omega) hr7 (HR4.out w7 B47.out)
  clear h7 hr7 hb7 y6
  go_wp2_with fail
  refine h8.mono ?_
  rintro e w8 ⟨rfl, hb8⟩
  have s8 := hb8.size
  have B78 : Hid (Below w7.heap.size w7 w8) := hb8
  have BX8 : Hid (Below wx.heap.size wx w8) := BX7.out.trans (hb8.mono (by omega))
  have B8 : Hid (Below (w.heap.size + 1) wb w8) := BX.out.trans (BX8.out.mono (by omega))
  have y1 := HBOX.out w8 B8.out
  have y2 := (BX8.out.cell (p := ⟨w5.heap.size, 0, none⟩) NX).trans HQX.out
  have HRX : Hid (∀ wX, Below w8.heap.size w8 wX → IRow wX gx zs) := fun wX hX => (HRXX.out.below BX8.out NG).below hX (by omega)
  have M8 : w.heap.size < w8.heap.size := by omega
  have M9 : w5.heap.size < w8.heap.size := by omega
  have HKP : Hid (∀ wX, Below w8.heap.size w8 wX → wX.cell? ⟨w.heap.size, 0, none⟩ = some (.slice av zs.length cv) ∧ wX.cell? ⟨w5.heap.size, 0, none⟩ = some (.slice (some ⟨gx, 0, none⟩) zs.length zs.length)) :=
    fun wX hX => ⟨(hX.cell (p := ⟨w.heap.size, 0, none⟩) M8).trans y1, (hX.cell (p := ⟨w5.heap.size, 0, none⟩) M9).trans y2⟩
  clear h8 hb8
  go_wp2_with fail
  refine wp_region_held_drew (S := fun wX => wX.cell? ⟨w.heap.size, 0, none⟩ = some (.slice av zs.length cv) ∧ wX.cell? ⟨w5.heap.size, 0, none⟩ = some (.slice (some ⟨gx, 0, none⟩) zs.length zs.length)) (by kernel_rfl) ⟨y1, y2⟩ (fun hHeld => ?_)
  refine tk 0 ?_
  refine tk 1 ?_
  refine wpAnyH_ready (rs := [2]) (by kernel_rfl) (by simp) ?_
  refine AllReadyH.cons rfl (fun K hK => ?_) AllReadyH.nil
  go_simp
  refine (HTO.out _ B8.out.drew).mono ?_
  rintro e w9 ⟨gy, rfl, hgy, hry, hb9'⟩
  have hb9 : Below w8.heap.size w8 w9 := (Below.refl _ _).drew.trans (hb9'.mono (by simp))
  have s9 := hb9.size
  have HB9 : Hid (Below w8.heap.size w8 w9) := hb9
  have heq := eqMem_same gx gy zs zs.length zs.length w9 hlen (HRX.out w9 hb9) hry
  clear hb9' hb9 hry
  go_wp2_with fail
  refine hK.out _ _ (HKP.out _ HB9.out) (fun hHeld2 => ?_)
  clear hK K
  refine wpAnyH_ready (rs := [3]) (by kernel_rfl) (by simp) ?_
  refine AllReadyH.cons rfl (fun K hK => ?_) AllReadyH.nil
  go_simp
  refine heq.mono ?_
  rintro e wA ⟨rfl, hbA⟩
  have sA := hbA.size
  have HB8A : Hid (Below w8.heap.size w8 wA) := HB9.out.trans (hbA.mono (by omega))
  clear heq hbA
  go_wp2_with fail
  refine hK.out _ _ (HKP.out _ HB8A.out) (fun hHeld3 => ?_)
  clear hK K
  refine tk 4 ?_
  refine wpAnyH_done (by kernel_rfl) ?_ _
  clear hHeld hHeld2 hHeld3 y1 y2
  have BA : Hid (Below (w.heap.size + 1) wb wA) := B8.out.trans (HB8A.out.mono (by omega))
  have hB := HTS.out wA BA.out
  have B7A : Hid (Below w7.heap.size w7 wA) := B78.out.trans (HB8A.out.mono (by omega))
  go_wp2_with fail
  refine hB.mono ?_
  rintro e wB ⟨rfl, hrsB, hbB⟩
  have sB := hbB.size
  have B7B : Hid (Below w7.heap.size w7 wB) := B7A.out.trans (hbB.mono (by omega))
  have hC := eqSpanS_same (.slice (some ⟨wx.heap.size, 0, none⟩) xs.length xs.length) (.slice (some ⟨wA.heap.size, 0, none⟩) xs.length xs.length) _ _ xs wB hxl (HRS7.out wB B7B.out) hrsB
  have HB8B : Hid (Below w8.heap.size w8 wB) := HB8A.out.trans (hbB.mono (by omega))
  clear hB hrsB hbB
  go_wp2_with fail
  refine hC.mono ?_
  rintro e wC ⟨rfl, hbC⟩
  have sC := hbC.size
  have HB8C : Hid (Below w8.heap.size w8 wC) := HB8B.out.trans (hbC.mono (by omega))
  have B7C : Hid (Below w7.heap.size w7 wC) := B7B.out.trans (hbC.mono (by omega))
  have hD := markMem_any gx zs zs.length wC hlen (HRX.out wC HB8C.out)
  have yC := (HKP.out wC HB8C.out).2
  clear hC hbC
  go_wp2_with fail
  refine hD.mono ?_
  rintro e wD ⟨rfl, hgD⟩
  have sD := hgD.size
  have hrsD : ERow eSpan wD wx.heap.size (.slice (some ⟨wx.heap.size, 0, none⟩) xs.length xs.length) xs := (HRS7.out wC B7C.out).kept hgD (fun k hk e => by
    have e1 : some wx.heap.size = some k := hk
    simp only [Option.some.injEq] at e1 e
    omega)
  have hgR : ERow eOp wD w6.heap.size (.slice a7 l.length c7) l := (HR7.out wC B7C.out).kept hgD (fun k hk e => by
    have := ((HR7.out wC B7C.out).own k hk).1
    simp only [Option.some.injEq] at e
    omega)
  have HRD : Hid (ERow eOp wD w6.heap.size (.slice a7 l.length c7) l) := hgR
  have B4C : Hid (Below w4.heap.size w4 wC) := B47.out.trans (B7C.out.mono (by have := B47.out.size; omega))
  have B4D : Hid (Below w4.heap.size w4 wD) := B4C.out.grown hgD (by have := B4C.out.size; omega) (fun k hk => by simp only [Option.some.injEq] at hk; omega)
  have BC : Hid (Below (w.heap.size + 1) wb wC) := B8.out.trans (HB8C.out.mono (by omega))
  have BD : Hid (Below (w.heap.size + 1) wb wD) := BC.out.grown hgD (by have := BC.out.size; omega) (fun k hk => by simp only [Option.some.injEq] at hk; omega)
  have hE := markSpanS_any (.slice (some ⟨wx.heap.size, 0, none⟩) xs.length xs.length) _ xs (1 + zs.length) wD (by omega) (by omega) hxl hrsD
  clear hD hgD hrsD hgR yC
  go_wp2_with fail
  refine hE.mono ?_
  rintro e wE ⟨rfl, _, hgE⟩
  have sE := hgE.size
  have hgR : ERow eOp wE w6.heap.size (.slice a7 l.length c7) l := HRD.out.kept hgE (fun k hk e => by
    have h9 := (HRD.out.own k hk).1
    have e1 : some k = some wx.heap.size := e
    simp only [Option.some.injEq] at e1
    omega)
  have HRE : Hid (ERow eOp wE w6.heap.size (.slice a7 l.length c7) l) := hgR
  have B4E : Hid (Below w4.heap.size w4 wE) := B4D.out.grown hgE (by have := B4D.out.size; omega) (fun k hk => by have e1 : some wx.heap.size = some k := hk; simp only [Option.some.injEq] at e1; omega)
  have BE : Hid (Below (w.heap.size + 1) wb wE) := BD.out.grown hgE (by have := BD.out.size; omega) (fun k hk => by have e1 : some wx.heap.size = some k := hk; simp only [Option.some.injEq] at e1; omega)
  have dk : decide (1 + (zs.length : Int) + (xs.length : Int) * 5 < 0) = false := by simp; omega
  have hF := eqOpS_same (.slice a7 l.length c7) (.slice a4 l.length c4) _ _ l wE (by omega) hgR (HR4.out wE B4E.out)
  clear hE hgE hgR
  go_wp2_with fail
  refine hF.mono ?_
  rintro e wF ⟨rfl, hbF⟩
  have sF := hbF.size
  have hrF := HRE.out.below hbF
  have B4F : Hid (Below w4.heap.size w4 wF) := B4E.out.trans (hbF.mono (by have := B4E.out.size; omega))
  have BF : Hid (Below (w.heap.size + 1) wb wF) := BE.out.trans (hbF.mono (by have := BE.out.size; omega))
  have hG := markOpS_any (.slice a7 l.length c7) _ l 1 wF (by omega) (by omega) (by omega) hrF
  have HOW : Hid (∀ k, (Value.slice a7 l.length c7).ownBlock = some k → w6.heap.size ≤ k) := fun k hk => (hrF.own k hk).1
  clear hF hbF hrF
  go_wp2_with fail
  refine hG.mono ?_
  rintro e wG ⟨rfl, hmk, hgG⟩
  have sG := hgG.size
  have B4G : Hid (Below w4.heap.size w4 wG) := B4F.out.grown hgG (by have := B4F.out.size; omega) (fun k hk => by have := HOW.out k hk; omega)
  have BG : Hid (Below (w.heap.size + 1) wb wG) := BF.out.grown hgG (by have := BF.out.size; omega) (fun k hk => by have := HOW.out k hk; omega)
  have hH := heldOpS_any (.slice a7 l.length c7) l.length 1 wG (by omega) (by omega) (by omega) hmk
  clear hG hmk hgG
  go_wp2_with fail
  refine hH.mono ?_
  rintro e wH ⟨rfl, hbH⟩
  have sH := hbH.size
  have B4H : Hid (Below w4.heap.size w4 wH) := B4G.out.trans (hbH.mono (by have := B4G.out.size; omega))
  have BH : Hid (Below (w.heap.size + 1) wb wH) := BG.out.trans (hbH.mono (by have := BG.out.size; omega))
  have dq : decide (1 + (l.length : Int) * 4 < 0) = false := by simp; omega
  have xH := HBOX.out wH BH.out
  have hJ := HTO.out wH BH.out
  clear hH hbH
  go_wp2_with fail
  refine hJ.mono ?_
  rintro e wJ ⟨gz, rfl, hgz, hrz, hbJ⟩
  have sJ := hbJ.size
  have BJ : Hid (Below (w.heap.size + 1) wb wJ) := BH.out.trans (hbJ.mono (by have := BH.out.size; omega))
  have B4J : Hid (Below w4.heap.size w4 wJ) := B4H.out.trans (hbJ.mono (by have := B4H.out.size; omega))
  have hK1 := HTS.out wJ BJ.out
  have HRZ : Hid (IRow wJ gz zs) := hrz
  clear hJ hbJ xH hrz
  go_wp2_with fail
  refine hK1.mono ?_
  rintro e wK ⟨rfl, hrsK, hbK⟩
  have sK := hbK.size
  have BK : Hid (Below (w.heap.size + 1) wb wK) := BJ.out.trans (hbK.mono (by have := BJ.out.size; omega))
  have B4K : Hid (Below w4.heap.size w4 wK) := B4J.out.trans (hbK.mono (by have := B4J.out.size; omega))
  have hL := HI.out gz _ _ wK (HRZ.out.c.below hbK HRZ.out.lt) hrsK
  clear hK1 hrsK hbK
  go_wp2_with fail
  refine hL.mono ?_
  rintro e wL ⟨aL, cL, rfl, hrL, hbL⟩
  have sL := hbL.size
  have BL : Hid (Below (w.heap.size + 1) wb wL) := BK.out.trans (hbL.mono (by have := BK.out.size; omega))
  have B4L : Hid (Below w4.heap.size w4 wL) := B4K.out.trans (hbL.mono (by have := B4K.out.size; omega))
  have hM := eqOpS_same (.slice aL l.length cL) (.slice a4 l.length c4) _ _ l wL (by omega) hrL (HR4.out wL B4L.out)
  clear hL hrL hbL
  go_wp2_with fail
  refine hM.mono ?_
  rintro e wM ⟨rfl, hbM⟩
  have HFIN : Hid (Below w.heap.size w wM) := HBB.out.trans ((BL.out.trans (hbM.mono (by have := BL.out.size; omega))).mono (by omega))
  clear hM hbM
  go_wp2_with fail
  go_ret
  exact ⟨rfl, HFIN.out⟩
end Go.Proofs.YtnmhkgmmpkjjeacGreat
