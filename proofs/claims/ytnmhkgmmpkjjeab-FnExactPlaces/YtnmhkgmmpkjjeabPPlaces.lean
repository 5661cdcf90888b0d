import Derived.Test.YtnmhkgmmpkjjeabIPlaces
import Derived.Test.YtnmhkgmmpkjjeabPRowL
import Derived.ChangeOld
import Derived.Lib.SmallJoins
namespace Go.Proofs.Ytnmhkgmmpkjjeab
open Go.ChangeShapes Go.WideShapes Go.ChangeAt Go.RowKit Go.Joins
set_option linter.unusedVariables false
attribute [local go_sem ↓] Go.wp_at_zero Go.wp_at_succ

theorem Src.at {w w' : World} {v : Value} {zs : List Int} (h : Src w v zs) (hb : Below w.heap.size w w') : Src w' v zs := by
  obtain ⟨a, cap, rfl, ha⟩ := h
  refine ⟨a, cap, rfl, fun h0 => ?_⟩
  obtain ⟨b, o, rfl, hbl, hc⟩ := ha h0
  exact ⟨b, o, rfl, Nat.lt_of_lt_of_le hbl hb.size, fun i hi => (hb.cell hbl).trans (hc i hi)⟩

theorem PRow.own {w : World} {base : Nat} {v : Value} {ps : List P3} (h : PRow w base v ps) : ∀ k, v.ownBlock = some k → base ≤ k ∧ k < w.heap.size := World.ownsRow.lt h

theorem places_big (v : Value) (zs : List Int) (w : World) (hv : Src w v zs) (hb : 1048576 < zs.length) (hm : zs.length ≤ 9223372036854775807) :
    Calls Try.prog 3 #[.agg #[v]] w fun e w' => e = .returned (.bool true) ∧ Below w.heap.size w w' := by
  obtain ⟨a, cap, rfl, _⟩ := hv
  have hs := szMem_any a zs.length cap hm
  rw [if_neg (by omega)] at hs
  go_enter Try.func3, Try.ntmps3
  go_wp2_with (go_at_call 12; refine (hs _).mono ?_; rintro e w1 ⟨rfl, hb1⟩)
  go_ret
  exact ⟨rfl, ((Below.refl _ _).alloc (Nat.le_refl _) _).trans (hb1.mono (by simp))⟩

set_option maxHeartbeats 2000000 in
theorem places_walk (v : Value) (zs : List Int) (w : World) (hv : Src w v zs) (hlen : zs.length ≤ 1048576) (ps : List P3) (hpl : ps.length ≤ 273) (tr : Bool)
    (hS : ∀ g w, IRow w g zs → Calls Try.prog 13 #[.agg #[.slice (some ⟨g, 0, none⟩) zs.length zs.length]] w fun e w' => ∃ a c', e = .returned (.tuple #[.slice a ps.length c', .bool tr]) ∧ PRow w' w.heap.size (.slice a ps.length c') ps ∧ Below w.heap.size w w')
    (hI : ∀ g w, IRow w g zs → Calls Try.prog 15 #[.agg #[.slice (some ⟨g, 0, none⟩) zs.length zs.length]] w fun e w' => ∃ a c', e = .returned (.tuple #[.slice a ps.length c', .bool tr]) ∧ PRow w' w.heap.size (.slice a ps.length c') ps ∧ Below w.heap.size w w') :
    Calls Try.prog 3 #[.agg #[v]] w fun e w' => e = .returned (.bool true) ∧ Below w.heap.size w w' := by
  have hsz : ∀ w, Calls Try.prog 12 #[.agg #[v], .int .i64 1048576] w fun e w' => e = .returned (.int .i64 (1048576 - zs.length)) ∧ Below w.heap.size w w' := by
    obtain ⟨a, cap, rfl, _⟩ := hv
    intro w
    have := szMem_any a zs.length cap (by omega) w
    rwa [if_pos (by omega)] at this
  have hone : v.oneCell' = true := by obtain ⟨a, cap, rfl, _⟩ := hv; rfl
  obtain ⟨wb, hwb⟩ : ∃ wb, wb = w.alloc (.cells #[v] 24) := ⟨_, rfl⟩
  have hbb : Below w.heap.size w wb := by rw [hwb]; exact (Below.refl _ _).alloc (Nat.le_refl _) _
  have hzb : wb.heap.size = w.heap.size + 1 := by rw [hwb]; simp
  have qb : wb.cell? ⟨w.heap.size, 0, none⟩ = some v := by rw [hwb]; simp [go_sem]
  have hto : ∀ wX, Below (w.heap.size + 1) wb wX → Calls Try.prog 14 #[.agg #[v]] wX fun e w' => ∃ g, e = .returned (.agg #[.slice (some ⟨g, 0, none⟩) zs.length zs.length]) ∧ wX.heap.size ≤ g ∧ IRow w' g zs ∧ Below wX.heap.size wX w' :=
    fun wX hX => toMem_any v zs wX (hv.at (hbb.trans (hX.mono (by omega)))) hlen
  have hbox : ∀ wX, Below (w.heap.size + 1) wb wX → wX.cell? ⟨w.heap.size, 0, none⟩ = some v := fun wX hX => (hX.cell (by simp)).trans qb
  obtain ⟨av, cv, rfl, _⟩ := hv
  have HWB : Hid (wb = _) := hwb
  have HBB : Hid (Below _ _ _) := hbb
  have HTO : Hid _ := hto
  have HBOX : Hid _ := hbox
  clear hwb hbb hto hbox qb hone
  go_enter Try.func3, Try.ntmps3
  go_wp2_with fail
  refine (hsz _).mono ?_
  rintro e w1 ⟨rfl, hb1⟩
  have b1 : Below (w.heap.size + 1) wb w1 := by rw [HWB.out]; exact hb1.mono (by simp)
  have x1 := HBOX.out w1 b1
  clear hb1 hsz
  go_wp2_with fail
  refine (HTO.out w1 b1).mono ?_
  rintro e w2 ⟨ga, rfl, hga, hra, hb2⟩
  have s1 := b1.size
  have b2 : Below (w.heap.size + 1) wb w2 := b1.trans (hb2.mono (by omega))
  clear hb2 x1
  go_wp2_with fail
  refine (hS ga w2 hra).mono ?_
  rintro e w3 ⟨a3, c3, rfl, hp3, hb3⟩
  have s2 := b2.size
  have b3 : Below (w.heap.size + 1) wb w3 := b2.trans (hb3.mono (by omega))
  have x3 := HBOX.out w3 b3
  clear hb3 hra hS
  go_wp2_with fail
  refine (HTO.out w3 b3).mono ?_
  rintro e w4 ⟨gx, rfl, hgx, hrx, hb4⟩
  have hgx4 := hrx.lt
  have s3 := b3.size
  have s4 := hb4.size
  obtain ⟨wx, hwx⟩ : ∃ wx, wx = w4.alloc (.cells #[.slice (some ⟨gx, 0, none⟩) zs.length zs.length] 29) := ⟨_, rfl⟩
  have b3x : Below w3.heap.size w3 wx := by rw [hwx]; exact hb4.alloc (by omega) _
  have hrxx : IRow wx gx zs := by rw [hwx]; exact World.rowIs.alloc hrx _
  have hzx : wx.heap.size = w4.heap.size + 1 := by rw [hwx]; simp
  have qx : wx.cell? ⟨w4.heap.size, 0, none⟩ = some (.slice (some ⟨gx, 0, none⟩) zs.length zs.length) := by rw [hwx]; simp [go_sem]
  have hIx := hI gx wx hrxx
  rw [hwx] at hIx
  have HWX : Hid (wx = _) := hwx
  have HP3 : Hid (PRow w3 _ _ _) := hp3
  have own3 := hp3.own
  have HOWN3 : Hid _ := own3
  clear hb4 hrx hwx x3 hp3 own3
  go_wp2_with fail
  refine hIx.mono ?_
  rintro e w5 ⟨a5, c5, rfl, hp5', hb5'⟩
  have hp5 : PRow w5 wx.heap.size (.slice a5 ps.length c5) ps := by rw [HWX.out]; exact hp5'
  have hb5 : Below wx.heap.size wx w5 := by rw [HWX.out]; exact hb5'
  have s5 := hb5.size
  have b35 : Below w3.heap.size w3 w5 := b3x.trans (hb5.mono (by omega))
  have hp35 : PRow w5 w2.heap.size (.slice a3 ps.length c3) ps := HP3.out.below b35
  have heq5 := eqPlaceS_same (.slice a5 ps.length c5) (.slice a3 ps.length c3) _ _ ps w5 (by omega) hp5 hp35
  have HP5 : Hid (PRow w5 _ _ _) := hp5
  have HB5 : Hid (Below wx.heap.size wx w5) := hb5
  have HB35 : Hid (Below w3.heap.size w3 w5) := b35
  clear hIx hp5' hb5' hp5 hb5 b35 hp35
  go_wp2_with fail
  refine heq5.mono ?_
  rintro e w6 ⟨rfl, hb6⟩
  have s6 := hb6.size
  have b6 : Below (w.heap.size + 1) wb w6 := b3.trans ((HB35.out.trans (hb6.mono (by omega))).mono (by omega))
  have bx6 : Below wx.heap.size wx w6 := HB5.out.trans (hb6.mono (by omega))
  have y1 := HBOX.out w6 b6
  have y2 := (bx6.cell (p := ⟨w4.heap.size, 0, none⟩) (by simp; omega)).trans qx
  have HRX : Hid (∀ wX, Below w6.heap.size w6 wX → IRow wX gx zs) := fun wX hX => (hrxx.below bx6 (by omega)).below hX (by omega)
  have HKP : Hid (∀ wX, Below w6.heap.size w6 wX → wX.cell? ⟨w.heap.size, 0, none⟩ = some (.slice av zs.length cv) ∧ wX.cell? ⟨w4.heap.size, 0, none⟩ = some (.slice (some ⟨gx, 0, none⟩) zs.length zs.length)) :=
    fun wX hX => ⟨(hX.cell (by simp; omega)).trans y1, (hX.cell (by simp; omega)).trans y2⟩
  have HB6 : Hid (Below _ w5 w6) := hb6
  have HBB6 : Hid (Below _ wb w6) := b6
  have HBX6 : Hid (Below _ wx w6) := bx6
  clear heq5 hb6 b6 bx6
  go_wp2_with fail
  go_region_held3 (fun w' => w'.cell? ⟨w.heap.size, 0, none⟩ = some (.slice av zs.length cv) ∧ w'.cell? ⟨w4.heap.size, 0, none⟩ = some (.slice (some ⟨gx, 0, none⟩) zs.length zs.length))
    ((refine HKP.out _ ?_; repeat (first | exact Below.refl _ _ | with_reducible refine Below.drew ?_ | refine Below.trans ?_ (hb8.mono (by first | omega | (simp <;> omega))) | refine Below.trans ?_ (hb7.mono (by first | omega | (simp <;> omega))))))
    (first
      | (go_at_call 14; refine (HTO.out _ (by first | exact HBB6.out | exact HBB6.out.drew)).mono ?_; rintro e w7 ⟨gy, rfl, hgy, hry, hb7⟩; have s7 := hb7.size; simp at s7)
      | (go_at_call 17; refine (eqMem_same gx gy zs _ _ _ hlen (HRX.out _ ((Below.refl _ _).drew.trans (hb7.mono (by simp)))) hry).mono ?_; rintro e w8 ⟨rfl, hb8⟩))
  have s8 := hb8.size
  have b68 : Below w6.heap.size w6 w8 := (Below.refl _ _).drew.trans ((hb7.mono (by simp)).trans (hb8.mono (by omega)))
  have b58 : Below w5.heap.size w5 w8 := HB6.out.trans (b68.mono s6)
  have hp58 := HP5.out.below b58
  have hrx8 := HRX.out w8 b68
  have y8 := (HKP.out w8 b68).2
  have hmk := markMem_any gx zs zs.length w8 hlen hrx8
  have bb8 : Below (w.heap.size + 1) wb w8 := HBB6.out.trans (b68.mono (by omega))
  have b38 : Below w3.heap.size w3 w8 := HB35.out.trans (b58.mono (by omega))
  have HP58 : Hid (PRow w8 _ _ _) := hp58
  have HBB8 : Hid (Below _ wb w8) := bb8
  have HB38 : Hid (Below _ w3 w8) := b38
  clear hb7 hb8 b68 b58 hp58 hrx8 bb8 b38 y1 y2 hry
  go_wp2_with fail
  refine hmk.mono ?_
  rintro e w9 ⟨rfl, hgr9⟩
  have s9 := hgr9.size
  have bb9 : Below (w.heap.size + 1) wb w9 := HBB8.out.grown hgr9 (by omega) (fun k hk => by simp at hk; omega)
  have b39 : Below w3.heap.size w3 w9 := HB38.out.grown hgr9 (by omega) (fun k hk => by simp at hk; omega)
  have hp59 : PRow w9 wx.heap.size (.slice a5 ps.length c5) ps := World.ownsRow.kept HP58.out hgr9 (by
    cases hq : (Value.slice a5 ps.length c5).ownBlock with
    | none => exact .inl rfl
    | some q =>
      refine .inr ?_
      have := (HP58.out.own q hq).1
      simp only [ne_eq, Option.some.injEq]
      omega)
  have hp39 := HP3.out.below b39
  have heq9 := eqPlaceS_same (.slice a5 ps.length c5) (.slice a3 ps.length c3) _ _ ps w9 (by omega) hp59 hp39
  have HP59 : Hid (PRow w9 _ _ _) := hp59
  have HBB9 : Hid (Below _ wb w9) := bb9
  have HB39 : Hid (Below _ w3 w9) := b39
  have hk0 : decide (1 + (zs.length : Int) < 0) = false := by simp; omega
  clear hmk hgr9 bb9 b39 hp59 hp39 y8
  go_wp2_with fail
  refine heq9.mono ?_
  rintro e wA ⟨rfl, hbA⟩
  have sA := hbA.size
  have hp5A := HP59.out.below hbA
  have bbA : Below (w.heap.size + 1) wb wA := HBB9.out.trans (hbA.mono (by omega))
  have b3A : Below w3.heap.size w3 wA := HB39.out.trans (hbA.mono (by omega))
  have hmp := markPlaceS_any (.slice a5 ps.length c5) _ ps wA (by omega) hp5A
  have HOWN5 : Hid (∀ k, (Value.slice a5 ps.length c5).ownBlock = some k → wx.heap.size ≤ k) := fun k hk => (hp5A.own k hk).1
  have HBBA : Hid (Below _ wb wA) := bbA
  have HB3A : Hid (Below _ w3 wA) := b3A
  clear heq9 hbA hp5A bbA b3A
  go_wp2_with fail
  refine hmp.mono ?_
  rintro e wB ⟨rfl, hmkd, hgrB⟩
  have sB := hgrB.size
  have bbB : Below (w.heap.size + 1) wb wB := HBBA.out.grown hgrB (by omega) (fun k hk => by have := HOWN5.out k hk; omega)
  have b3B : Below w3.heap.size w3 wB := HB3A.out.grown hgrB (by omega) (fun k hk => by have := HOWN5.out k hk; omega)
  have hhl := heldPlaceS_any (.slice a5 ps.length c5) ps.length wB (by omega) hmkd
  have HBBB : Hid (Below _ wb wB) := bbB
  have HB3B : Hid (Below _ w3 wB) := b3B
  clear hmp hmkd hgrB bbB b3B
  go_wp2_with fail
  refine hhl.mono ?_
  rintro e wC ⟨rfl, hbC⟩
  have sC := hbC.size
  have bbC : Below (w.heap.size + 1) wb wC := HBBB.out.trans (hbC.mono (by omega))
  have b3C : Below w3.heap.size w3 wC := HB3B.out.trans (hbC.mono (by omega))
  have xC := HBOX.out wC bbC
  have HBBC : Hid (Below _ wb wC) := bbC
  have HB3C : Hid (Below _ w3 wC) := b3C
  have hq0 : decide (1 + (ps.length : Int) * 3 < 0) = false := by simp; omega
  clear hhl hbC bbC b3C
  go_wp2_with fail
  refine (HTO.out wC HBBC.out).mono ?_
  rintro e wD ⟨gz, rfl, hgz, hrz, hbD⟩
  have sD := hbD.size
  have hId := hI gz wD hrz
  have bbD : Below (w.heap.size + 1) wb wD := HBBC.out.trans (hbD.mono (by omega))
  have b3D : Below w3.heap.size w3 wD := HB3C.out.trans (hbD.mono (by omega))
  have HBBD : Hid (Below _ wb wD) := bbD
  have HB3D : Hid (Below _ w3 wD) := b3D
  clear hbD bbD b3D hrz xC
  go_wp2_with fail
  refine hId.mono ?_
  rintro e wE ⟨aE, cE, rfl, hpE, hbE⟩
  have sE := hbE.size
  have bbE : Below (w.heap.size + 1) wb wE := HBBD.out.trans (hbE.mono (by omega))
  have b3E : Below w3.heap.size w3 wE := HB3D.out.trans (hbE.mono (by omega))
  have heqE := eqPlaceS_same (.slice aE ps.length cE) (.slice a3 ps.length c3) _ _ ps wE (by omega) hpE (HP3.out.below b3E)
  have HBBE : Hid (Below _ wb wE) := bbE
  clear hId hpE hbE bbE b3E
  go_wp2_with fail
  refine heqE.mono ?_
  rintro e wF ⟨rfl, hbF⟩
  go_wp2_with fail
  go_ret
  exact ⟨rfl, HBB.out.trans ((HBBE.out.trans (hbF.mono (by omega))).mono (by omega))⟩

theorem places_any (v : Value) (zs : List Int) (w : World) (hv : Src w v zs) (hm : zs.length ≤ 9223372036854775807) (hr : ∀ i, 0 ≤ zs.getD i 0 ∧ zs.getD i 0 < 2 ^ 64) :
    Calls Try.prog 3 #[.agg #[v]] w fun e w' => e = .returned (.bool true) ∧ Below w.heap.size w w' := by
  by_cases hb : zs.length ≤ 1048576
  · exact places_walk v zs w hv hb (plist zs) (plist_length zs) (ptree zs) (fun g w hg => specPlaces_any g zs zs.length hb hr w hg.c) (fun g w hg => implPlaces_any g zs zs.length hb (Nat.le_refl _) hr w hg.c)
  · exact places_big v zs w hv (by omega) hm

theorem places_own : ownKnob Try.prog.godebug = none := by kernel_rfl
theorem places_laidOut : laidOutB Try.prog = true := by kernel_rfl
theorem places_cells : Try.prog.cellsOf 24 = 1 := by kernel_rfl

theorem array1 {α : Type} {cs : Array α} (h : cs.size = 1) : ∃ c0, cs = #[c0] := by
  obtain ⟨l⟩ := cs
  match l, h with
  | [c], _ => exact ⟨c, rfl⟩

/-- A slice of words that came in can be read. -/
theorem src_of {H : Type} {enc : TypeId × Value → H} {W : World} {sp : Nat → Bool} {fuel : Nat} {v : Value} {y : DataW H × List MemPlace} (hf : DataW.trod enc Try.prog W 0 sp true fuel 22 [v] = some y) :
    ∃ zs, Src W v zs ∧ zs.length ≤ 9223372036854775807 ∧ ∀ i, 0 ≤ zs.getD i 0 ∧ zs.getD i 0 < 2 ^ 64 := by
  rcases open_ints Try.underlying22 Try.underlying84 (by kernel_rfl) hf with ⟨hcs, _⟩ | ⟨x, l, c, zs, hcs, _, hl, hm, hz, _, hcell, hwz⟩
  · simp at hcs
    subst hcs
    exact ⟨[], ⟨none, 0, rfl, fun h => absurd h (by simp)⟩, by simp, fun i => by simp⟩
  · simp at hcs
    subst hcs
    have hlz : l ≤ zs.length := by rw [hz]; split <;> omega
    have hlen : (zs.take l).length = l := by rw [List.length_take]; omega
    have hget : ∀ i, i < l → (zs.take l).getD i 0 = zs.getD i 0 := fun i hi => by
      rw [List.getD_eq_getElem?_getD, List.getD_eq_getElem?_getD, List.getElem?_take, if_pos hi]
    unfold maxLen at hm
    refine ⟨zs.take l, ⟨some x, c, by rw [hlen], fun h0 => ?_⟩, by omega, fun i => ?_⟩
    · rw [hlen] at h0
      obtain ⟨b, off, rfl, hc⟩ := ints_at hcell (by omega)
      refine ⟨b, off, rfl, World.block_lt_of_cell? W _ (hc 0 (by omega)), fun i hi => ?_⟩
      rw [hlen] at hi
      rw [hget i hi]
      exact hc i (by omega)
    · by_cases hi : i < (zs.take l).length
      · have hmem : (zs.take l).getD i 0 ∈ zs := by
          rw [List.getD_eq_getElem?_getD, List.getElem?_eq_getElem hi]
          exact List.mem_of_mem_take (List.getElem_mem hi)
        have := bounds_u64 (hwz _ hmem)
        omega
      · rw [List.getD_eq_getElem?_getD, List.getElem?_eq_none (by omega)]
        simp

set_option maxRecDepth 100000 in
theorem places_lifted (os : Os) (started : os.Started) (H : Type) (enc : TypeId × Value → H) :
    ReturnsInHanded {} Try.checked os 3 .any (Rows.fnExactPlacesSpec.pre6 enc Try.prog Try.f3 Rows.fnExactPlacesRow.domain false) (Rows.fnExactPlacesSpec.post enc Try.prog Try.f3 false true false false) := by
  refine returnsInHanded_of_change (C := Try.checked) places_own started (by kernel_rfl) Try.func3
    (ChangeSpec.witness6 (enc := enc) (C := Try.checked) false ⟨#[], #[.agg #[.slice none 0 0]], []⟩ 8 (by kernel_rfl) (by kernel_rfl) (by kernel_rfl) (by kernel_rfl)) ?_
  intro W base args ds gs before hval0 hW hcnd _
  have hval : ∀ (j : Nat) t v, Try.f3.params[j]? = some t → args[j]? = some v → Value.okWide Try.prog W .any base t v := hval0
  have hW' := hW
  obtain ⟨p, q, hA0, hV, rfl, hfz, hnd⟩ := hW
  have hA : DataW.TrodAll enc Try.prog W 0 (fun _ => true) true Try.f3.params.toList args.toList ds p := hA0
  rw [Try.params3] at hA hval
  obtain ⟨v0, vs0, d0, ds0, p0, q0, hargs, rfl, rfl, h0, r0⟩ := trodAll_cons hA
  obtain ⟨rfl, rfl, rfl⟩ := trodAll_nil r0
  obtain rfl : args = #[v0] := by cases args; simp_all
  obtain ⟨rfl, rfl⟩ := trodVars_none hV
  have k0 := h0
  have lt0 : ∀ x ∈ p0, x.block < W.heap.size := by obtain ⟨m, hm⟩ := k0; exact DataW.trod_lt m _ _ _ hm
  obtain ⟨v, zs, rfl, hsrc, hm, hr⟩ : ∃ v zs, v0 = .agg #[v] ∧ Src W v zs ∧ zs.length ≤ 9223372036854775807 ∧ ∀ i, 0 ≤ zs.getD i 0 ∧ zs.getD i 0 < 2 ^ 64 := by
    obtain ⟨cs, rfl, hsz⟩ := okWide_struct Try.underlying24 (hval 0 24 v0 rfl rfl)
    obtain ⟨c0, rfl⟩ := array1 (hsz.trans places_cells)
    obtain ⟨fuel, hf⟩ := h0
    obtain ⟨y0, n, _, _, hy⟩ := trod_struct1 Try.underlying24 hf
    have hy' : DataW.trod enc Try.prog W 0 (fun _ => true) true n 22 [c0] = some y0 := hy
    obtain ⟨zs, a, b, c⟩ := src_of hy'
    exact ⟨c0, zs, rfl, a, b, c⟩
  clear hA0 hval0
  refine (places_any v zs W hsrc hm hr).mono fun e W' ⟨he, bel⟩ => ?_
  subst he
  exact ⟨_, rfl, _, _, _, [], _, [], hW', trodAll_mk1 (shut_bool Try.underlying4 _), (trodAll_cons_mk (Below.trod places_laidOut (by kernel_rfl) (of_decide_eq_true (by kernel_rfl)) k0 bel lt0) trodAll_mk0), rfl, bel.frame _, fun h => by cases h⟩

/-- THE STATEMENT -/
theorem places_proved : Rows.FnExactPlacesSaid :=
  OpenClaim.holds_of_wide 3 Try.f3 rfl rfl rfl rfl rfl rfl rfl ⟨rfl, rfl, rfl, rfl, rfl⟩ rfl rfl rfl rfl rfl (by kernel_rfl) Try.func3 (by kernel_rfl)
    (of_decide_eq_true (by kernel_rfl)) (by unfold Func.isWrapper; first | (rw [if_pos (by decide +kernel)]; kernel_rfl) | (rw [if_neg (by decide +kernel)]; exact ⟨rfl, rfl⟩))
    (fun os started H enc _ => places_lifted os started H enc)
#print axioms places_proved
end Go.Proofs.Ytnmhkgmmpkjjeab
