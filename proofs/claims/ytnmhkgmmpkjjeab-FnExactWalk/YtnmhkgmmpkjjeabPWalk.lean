import Derived.Test.YtnmhkgmmpkjjeabIWalk
import Derived.ChangeOld
import Derived.Lib.SmallJoins
namespace Go.Proofs.Ytnmhkgmmpkjjeab
open Go.ChangeShapes Go.WideShapes Go.ChangeAt Go.RowKit Go.Joins
set_option linter.unusedVariables false
attribute [local go_sem ↓] Go.wp_at_zero Go.wp_at_succ

theorem Src.at {w w' : World} {v : Value} {zs : List Int} (h : Src w v zs) (hb : Below w.heap.size w w') : Src w' v zs := by
  obtain ⟨a, cap, rfl, ha⟩ := h
  refine ⟨a, cap, rfl, fun h0 => ?_⟩
  obtain ⟨b, o, rfl, hbl, hc⟩ := ha h0
  exact ⟨b, o, rfl, Nat.lt_of_lt_of_le hbl hb.size, fun i hi => (hb.cell hbl).trans (hc i hi)⟩

theorem walkl_big (v : Value) (zs : List Int) (page : Int) (w : World) (hv : Src w v zs) (hb : 1048576 < zs.length) (hm : zs.length ≤ 9223372036854775807) :
    Calls Try.prog 4 #[.agg #[v], .int .i64 page] w fun e w' => e = .returned (.bool true) ∧ Below w.heap.size w w' := by
  obtain ⟨a, cap, rfl, _⟩ := hv
  have hs := szMem_any a zs.length cap hm
  rw [if_neg (by omega)] at hs
  go_enter Try.func4, Try.ntmps4
  go_wp2_with (go_at_call 12; refine (hs _).mono ?_; rintro e w1 ⟨rfl, hb1⟩)
  go_ret
  exact ⟨rfl, ((Below.refl _ _).alloc (Nat.le_refl _) _).trans (hb1.mono (by simp))⟩

set_option maxHeartbeats 2000000 in
theorem walkl_walk (v : Value) (zs : List Int) (page : Int) (w : World) (hv : Src w v zs) (hlen : zs.length ≤ 1048576) (R : HitR)
    (hS : ∀ g w, IRow w g zs → Calls Try.prog 21 #[.agg #[.slice (some ⟨g, 0, none⟩) zs.length zs.length], .int .i64 page] w fun e w' => e = .returned (hitV R) ∧ Below w.heap.size w w')
    (hI : ∀ g w, IRow w g zs → Calls Try.prog 22 #[.agg #[.slice (some ⟨g, 0, none⟩) zs.length zs.length], .int .i64 page] w fun e w' => e = .returned (hitV R) ∧ Below w.heap.size w w') :
    Calls Try.prog 4 #[.agg #[v], .int .i64 page] w fun e w' => e = .returned (.bool true) ∧ Below w.heap.size w w' := by
  have hsz : ∀ w, Calls Try.prog 12 #[.agg #[v], .int .i64 1048576] w fun e w' => e = .returned (.int .i64 (1048576 - zs.length)) ∧ Below w.heap.size w w' := by
    obtain ⟨a, cap, rfl, _⟩ := hv
    intro w
    have := szMem_any a zs.length cap (by omega) w
    rwa [if_pos (by omega)] at this
  unfold hitV at hS hI
  generalize R.kind = A at *
  generalize R.out = B at *
  generalize R.perm = C at *
  generalize R.size = D at *
  obtain ⟨wb, hwb⟩ : ∃ wb, wb = w.alloc (.cells #[v] 24) := ⟨_, rfl⟩
  have hbb : Below w.heap.size w wb := by rw [hwb]; exact (Below.refl _ _).alloc (Nat.le_refl _) _
  have hzb : wb.heap.size = w.heap.size + 1 := by rw [hwb]; simp
  have qb : wb.cell? ⟨w.heap.size, 0, none⟩ = some v := by rw [hwb]; simp [go_sem]
  have hto : ∀ wX, Below (w.heap.size + 1) wb wX → Calls Try.prog 14 #[.agg #[v]] wX fun e w' => ∃ g, e = .returned (.agg #[.slice (some ⟨g, 0, none⟩) zs.length zs.length]) ∧ wX.heap.size ≤ g ∧ IRow w' g zs ∧ Below wX.heap.size wX w' :=
    fun wX hX => toMem_any v zs wX (hv.at (hbb.trans (hX.mono (by omega)))) hlen
  have hbox : ∀ wX, Below (w.heap.size + 1) wb wX → wX.cell? ⟨w.heap.size, 0, none⟩ = some v := fun wX hX => (hX.cell (by simp)).trans qb
  obtain ⟨av, cv, rfl, _⟩ := hv
  have HWB : Hid (wb = _) := hwb
  have HBB : Hid (Below _ _ _) := hbb
  have HTO : Hid _ := hto
  have HBOX : Hid _ := hbox
  clear hwb hbb hto hbox qb
  go_enter Try.func4, Try.ntmps4
  go_wp2_with fail
  refine (hsz _).mono ?_
  rintro e w1 ⟨rfl, hb1⟩
  have b1 : Below (w.heap.size + 1) wb w1 := by rw [HWB.out]; exact hb1.mono (by simp)
  have x1 := HBOX.out w1 b1
  clear hb1 hsz
  go_wp2_with fail
  refine (HTO.out w1 b1).mono ?_
  rintro e w2 ⟨ga, rfl, hga, hra, hb2⟩
  have s1 := b1.size
  have b2 : Below (w.heap.size + 1) wb w2 := b1.trans (hb2.mono (by omega))
  clear hb2 x1
  go_wp2_with fail
  refine (hS ga w2 hra).mono ?_
  rintro e w3 ⟨rfl, hb3⟩
  have s2 := b2.size
  have b3 : Below (w.heap.size + 1) wb w3 := b2.trans (hb3.mono (by omega))
  have s3 := b3.size
  obtain ⟨wS, hwS⟩ : ∃ wS, wS = w3.alloc (.cells #[.int .i64 A, .int .i64 B, .int .i64 C, .int .i64 D] 37) := ⟨_, rfl⟩
  have hzS : wS.heap.size = w3.heap.size + 1 := by rw [hwS]; simp
  have bS : Below (w.heap.size + 1) wb wS := by rw [hwS]; exact b3.alloc (by omega) _
  have xS := HBOX.out wS bS
  have htS := HTO.out wS bS
  have HSC : Hid (∀ wX, Below wS.heap.size wS wX → wX.cell? ⟨w3.heap.size, 0, none⟩ = some (.int .i64 A) ∧ wX.cell? ⟨w3.heap.size, 1, none⟩ = some (.int .i64 B) ∧ wX.cell? ⟨w3.heap.size, 2, none⟩ = some (.int .i64 C) ∧ wX.cell? ⟨w3.heap.size, 3, none⟩ = some (.int .i64 D)) := fun wX hX => by
    refine ⟨?_, ?_, ?_, ?_⟩
    iterate 4 (exact (hX.cell (by simp; omega)).trans (by rw [hwS]; simp [go_sem]))
  rw [hwS] at xS htS
  have HWS : Hid (wS = _) := hwS
  have HBS : Hid (Below _ wb wS) := bS
  clear hb3 hra hS b3 b2 b1 bS hwS
  go_wp2_with fail
  refine htS.mono ?_
  rintro e w4 ⟨gx, rfl, hgx, hrx, hb4'⟩
  have hb4 : Below wS.heap.size wS w4 := by rw [HWS.out]; exact hb4'
  have hgx4 := hrx.lt
  have s4 := hb4.size
  obtain ⟨wx, hwx⟩ : ∃ wx, wx = w4.alloc (.cells #[.slice (some ⟨gx, 0, none⟩) zs.length zs.length] 29) := ⟨_, rfl⟩
  have bSx : Below wS.heap.size wS wx := by rw [hwx]; exact hb4.alloc (by omega) _
  have hrxx : IRow wx gx zs := by rw [hwx]; exact World.rowIs.alloc hrx _
  have hzx : wx.heap.size = w4.heap.size + 1 := by rw [hwx]; simp
  have qx : wx.cell? ⟨w4.heap.size, 0, none⟩ = some (.slice (some ⟨gx, 0, none⟩) zs.length zs.length) := by rw [hwx]; simp [go_sem]
  have hIx := hI gx wx hrxx
  rw [hwx] at hIx
  have HWX : Hid (wx = _) := hwx
  have HRX0 : Hid (IRow wx gx zs) := hrxx
  have HBSX : Hid (Below _ wS wx) := bSx
  have HQX : Hid _ := qx
  clear hrx hb4 hb4' bSx hrxx qx hwx hI xS htS
  go_wp2_with fail
  refine hIx.mono ?_
  rintro e w5 ⟨rfl, hb5'⟩
  have hb5 : Below wx.heap.size wx w5 := by rw [HWX.out]; exact hb5'
  have s5 := hb5.size
  obtain ⟨wG, hwG⟩ : ∃ wG, wG = w5.alloc (.cells #[.int .i64 A, .int .i64 B, .int .i64 C, .int .i64 D] 37) := ⟨_, rfl⟩
  have hzG : wG.heap.size = w5.heap.size + 1 := by rw [hwG]; simp
  have bxG : Below wx.heap.size wx wG := by rw [hwG]; exact hb5.alloc (by omega) _
  have bSG : Below wS.heap.size wS wG := HBSX.out.trans (bxG.mono (by omega))
  obtain ⟨h0, h1, h2, h3⟩ := HSC.out wG bSG
  have heq := eqHit_same A B C D
  have HBXG : Hid (Below _ wx wG) := bxG
  have HBSG : Hid (Below _ wS wG) := bSG
  rw [hwG] at h0 h1 h2 h3
  have HWG : Hid (wG = _) := hwG
  clear hb5 hb5' hIx bxG bSG hwG
  go_wp2_with fail
  refine (heq _).mono ?_
  rintro e w6 ⟨rfl, hb6'⟩
  have hb6 : Below wG.heap.size wG w6 := by rw [HWG.out]; exact hb6'
  have s6 := hb6.size
  have b6 : Below (w.heap.size + 1) wb w6 := HBS.out.trans ((HBSG.out.trans (hb6.mono (by omega))).mono (by omega))
  have bx6 : Below wx.heap.size wx w6 := HBXG.out.trans (hb6.mono (by omega))
  have y1 := HBOX.out w6 b6
  have y2 := (bx6.cell (p := ⟨w4.heap.size, 0, none⟩) (by simp; omega)).trans HQX.out
  have HRX : Hid (∀ wX, Below w6.heap.size w6 wX → IRow wX gx zs) := fun wX hX => (HRX0.out.below bx6 (by omega)).below hX (by omega)
  have HKP : Hid (∀ wX, Below w6.heap.size w6 wX → wX.cell? ⟨w.heap.size, 0, none⟩ = some (.slice av zs.length cv) ∧ wX.cell? ⟨w4.heap.size, 0, none⟩ = some (.slice (some ⟨gx, 0, none⟩) zs.length zs.length)) :=
    fun wX hX => ⟨(hX.cell (by simp; omega)).trans y1, (hX.cell (by simp; omega)).trans y2⟩
  have HBB6 : Hid (Below _ wb w6) := b6
  clear heq hb6 hb6' b6 bx6 h0 h1 h2 h3
  go_wp2_with fail
  go_region_held3 (fun w' => w'.cell? ⟨w.heap.size, 0, none⟩ = some (.slice av zs.length cv) ∧ w'.cell? ⟨w4.heap.size, 0, none⟩ = some (.slice (some ⟨gx, 0, none⟩) zs.length zs.length))
    ((refine HKP.out _ ?_; repeat (first | exact Below.refl _ _ | with_reducible refine Below.drew ?_ | refine Below.trans ?_ (hb8.mono (by first | omega | (simp <;> omega))) | refine Below.trans ?_ (hb7.mono (by first | omega | (simp <;> omega))))))
    (first
      | (go_at_call 14; refine (HTO.out _ (by first | exact HBB6.out | exact HBB6.out.drew)).mono ?_; rintro e w7 ⟨gy, rfl, hgy, hry, hb7⟩; have s7 := hb7.size; simp at s7)
      | (go_at_call 17; refine (eqMem_same gx gy zs _ _ _ hlen (HRX.out _ ((Below.refl _ _).drew.trans (hb7.mono (by simp)))) hry).mono ?_; rintro e w8 ⟨rfl, hb8⟩))
  have s8 := hb8.size
  have b68 : Below w6.heap.size w6 w8 := (Below.refl _ _).drew.trans ((hb7.mono (by simp)).trans (hb8.mono (by omega)))
  have HB8 : Hid (Below w.heap.size w w8) := HBB.out.trans ((HBB6.out.trans (b68.mono (by omega))).mono (by omega))
  clear hb7 hb8 b68 hry
  go_wp2_with fail
  go_ret
  exact ⟨rfl, HB8.out⟩
theorem walkl_any (v : Value) (zs : List Int) (page : Int) (w : World) (hv : Src w v zs) (hm : zs.length ≤ 9223372036854775807) (hr : ∀ i, 0 ≤ zs.getD i 0 ∧ zs.getD i 0 < 2 ^ 64) :
    Calls Try.prog 4 #[.agg #[v], .int .i64 page] w fun e w' => e = .returned (.bool true) ∧ Below w.heap.size w w' := by
  by_cases hb : zs.length ≤ 1048576
  · exact walkl_walk v zs page w hv hb (walkZ zs page) (fun g w hg => specWalk_any g zs zs.length page hb hr w hg.c) (fun g w hg => implWalk_any g zs page hb hr w hg)
  · exact walkl_big v zs page w hv (by omega) hm

theorem walkl_own : ownKnob Try.prog.godebug = none := by kernel_rfl
theorem walkl_laidOut : laidOutB Try.prog = true := by kernel_rfl
theorem walkl_cells : Try.prog.cellsOf 24 = 1 := by kernel_rfl

theorem array1 {α : Type} {cs : Array α} (h : cs.size = 1) : ∃ c0, cs = #[c0] := by
  obtain ⟨l⟩ := cs
  match l, h with
  | [c], _ => exact ⟨c, rfl⟩

/-- A slice of words that came in can be read. -/
theorem src_of {H : Type} {enc : TypeId × Value → H} {W : World} {sp : Nat → Bool} {fuel : Nat} {v : Value} {y : DataW H × List MemPlace} (hf : DataW.trod enc Try.prog W 0 sp true fuel 22 [v] = some y) :
    ∃ zs, Src W v zs ∧ zs.length ≤ 9223372036854775807 ∧ ∀ i, 0 ≤ zs.getD i 0 ∧ zs.getD i 0 < 2 ^ 64 := by
  rcases open_ints Try.underlying22 Try.underlying84 (by kernel_rfl) hf with ⟨hcs, _⟩ | ⟨x, l, c, zs, hcs, _, hl, hm, hz, _, hcell, hwz⟩
  · simp at hcs
    subst hcs
    exact ⟨[], ⟨none, 0, rfl, fun h => absurd h (by simp)⟩, by simp, fun i => by simp⟩
  · simp at hcs
    subst hcs
    have hlz : l ≤ zs.length := by rw [hz]; split <;> omega
    have hlen : (zs.take l).length = l := by rw [List.length_take]; omega
    have hget : ∀ i, i < l → (zs.take l).getD i 0 = zs.getD i 0 := fun i hi => by
      rw [List.getD_eq_getElem?_getD, List.getD_eq_getElem?_getD, List.getElem?_take, if_pos hi]
    unfold maxLen at hm
    refine ⟨zs.take l, ⟨some x, c, by rw [hlen], fun h0 => ?_⟩, by omega, fun i => ?_⟩
    · rw [hlen] at h0
      obtain ⟨b, off, rfl, hc⟩ := ints_at hcell (by omega)
      refine ⟨b, off, rfl, World.block_lt_of_cell? W _ (hc 0 (by omega)), fun i hi => ?_⟩
      rw [hlen] at hi
      rw [hget i hi]
      exact hc i (by omega)
    · by_cases hi : i < (zs.take l).length
      · have hmem : (zs.take l).getD i 0 ∈ zs := by
          rw [List.getD_eq_getElem?_getD, List.getElem?_eq_getElem hi]
          exact List.mem_of_mem_take (List.getElem_mem hi)
        have := bounds_u64 (hwz _ hmem)
        omega
      · rw [List.getD_eq_getElem?_getD, List.getElem?_eq_none (by omega)]
        simp

set_option maxRecDepth 100000 in
theorem walkl_lifted (os : Os) (started : os.Started) (H : Type) (enc : TypeId × Value → H) :
    ReturnsInHanded {} Try.checked os 4 .any (Rows.fnExactWalkSpec.pre6 enc Try.prog Try.f4 Rows.fnExactWalkRow.domain false) (Rows.fnExactWalkSpec.post enc Try.prog Try.f4 false true false false) := by
  refine returnsInHanded_of_change (C := Try.checked) walkl_own started (by kernel_rfl) Try.func4
    (ChangeSpec.witness6 (enc := enc) (C := Try.checked) false ⟨#[], #[.agg #[.slice none 0 0], .int .i64 0], []⟩ 8 (by kernel_rfl) (by kernel_rfl) (by kernel_rfl) (by kernel_rfl)) ?_
  intro W base args ds gs before hval0 hW hcnd _
  have hval : ∀ (j : Nat) t v, Try.f4.params[j]? = some t → args[j]? = some v → Value.okWide Try.prog W .any base t v := hval0
  have hW' := hW
  obtain ⟨p, q, hA0, hV, rfl, hfz, hnd⟩ := hW
  have hA : DataW.TrodAll enc Try.prog W 0 (fun _ => true) true Try.f4.params.toList args.toList ds p := hA0
  rw [Try.params4] at hA hval
  obtain ⟨v0, vs0, d0, ds0, p0, q0, hargs, rfl, rfl, h0, r0⟩ := trodAll_cons hA
  obtain ⟨v1, vs1, d1, ds1, p1, q1, rfl, rfl, rfl, h1, r1⟩ := trodAll_cons r0
  obtain ⟨rfl, rfl, rfl⟩ := trodAll_nil r1
  obtain rfl : args = #[v0, v1] := by cases args; simp_all
  obtain ⟨rfl, rfl⟩ := trodVars_none hV
  have k0 := h0
  have lt0 : ∀ x ∈ p0, x.block < W.heap.size := by obtain ⟨m, hm⟩ := k0; exact DataW.trod_lt m _ _ _ hm
  obtain ⟨n1, rfl, rfl, rfl, w1⟩ := open_int Try.underlying3 (hval 1 3 v1 rfl rfl) h1
  obtain ⟨v, zs, rfl, hsrc, hm, hr⟩ : ∃ v zs, v0 = .agg #[v] ∧ Src W v zs ∧ zs.length ≤ 9223372036854775807 ∧ ∀ i, 0 ≤ zs.getD i 0 ∧ zs.getD i 0 < 2 ^ 64 := by
    obtain ⟨cs, rfl, hsz⟩ := okWide_struct Try.underlying24 (hval 0 24 v0 rfl rfl)
    obtain ⟨c0, rfl⟩ := array1 (hsz.trans walkl_cells)
    obtain ⟨fuel, hf⟩ := h0
    obtain ⟨y0, n, _, _, hy⟩ := trod_struct1 Try.underlying24 hf
    have hy' : DataW.trod enc Try.prog W 0 (fun _ => true) true n 22 [c0] = some y0 := hy
    obtain ⟨zs, a, b, c⟩ := src_of hy'
    exact ⟨c0, zs, rfl, a, b, c⟩
  clear hA0 hval0
  refine (walkl_any v zs n1 W hsrc hm hr).mono fun e W' ⟨he, bel⟩ => ?_
  subst he
  exact ⟨_, rfl, _, _, _, [], _, [], hW', trodAll_mk1 (shut_bool Try.underlying4 _), (trodAll_cons_mk (Below.trod walkl_laidOut (by kernel_rfl) (of_decide_eq_true (by kernel_rfl)) k0 bel lt0) (trodAll_cons_mk (shut_int Try.underlying3 w1) trodAll_mk0)), rfl, bel.frame _, fun h => by cases h⟩

/-- THE STATEMENT -/
theorem walkl_proved : Rows.FnExactWalkSaid :=
  OpenClaim.holds_of_wide 4 Try.f4 rfl rfl rfl rfl rfl rfl rfl ⟨rfl, rfl, rfl, rfl, rfl⟩ rfl rfl rfl rfl rfl (by kernel_rfl) Try.func4 (by kernel_rfl)
    (of_decide_eq_true (by kernel_rfl)) (by unfold Func.isWrapper; first | (rw [if_pos (by decide +kernel)]; kernel_rfl) | (rw [if_neg (by decide +kernel)]; exact ⟨rfl, rfl⟩))
    (fun os started H enc _ => walkl_lifted os started H enc)
#print axioms walkl_proved
end Go.Proofs.Ytnmhkgmmpkjjeab
