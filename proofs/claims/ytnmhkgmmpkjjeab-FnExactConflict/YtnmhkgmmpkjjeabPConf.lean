import Derived.Test.YtnmhkgmmpkjjeabSConf
import Derived.Test.YtnmhkgmmpkjjeabIConf
import Derived.Test.YtnmhkgmmpkjjeabLawS
import Derived.Deep.RegionHeld3
namespace Go.Proofs.Ytnmhkgmmpkjjeab
open Go.ChangeShapes Go.WideShapes Go.ChangeAt Go.RowKit
set_option linter.unusedVariables false
attribute [local go_sem ↓] Go.wp_at_zero Go.wp_at_succ

theorem fnexactconf_big (s : SV) (M : Mach) (w : World) (h1 : M.mem.length ≤ 9223372036854775807) (h2 : M.pend.length ≤ 9223372036854775807) (h3 : M.tlb.length ≤ 9223372036854775807) (h4 : M.wc.length ≤ 9223372036854775807) (hb : ¬ M.mem.length + M.pend.length + M.tlb.length + M.wc.length ≤ 1048576) :
    Calls Try.prog 7 #[.agg #[.slice s.a1 M.mem.length s.c1, .slice s.a2 M.pend.length s.c2, .slice s.a3 M.tlb.length s.c3, .slice s.a4 M.wc.length s.c4]] w fun e w' => e = .returned (.bool true) ∧ Below w.heap.size w w' := by
  have hs := szMachine_any s.a1 s.a2 s.a3 s.a4 M.mem.length M.pend.length M.tlb.length M.wc.length s.c1 s.c2 s.c3 s.c4 h1 h2 h3 h4
  rw [if_neg hb] at hs
  go_enter Try.func7, Try.ntmps7
  go_wp2_with (go_at_call 24; refine (hs _).mono ?_; rintro e w1 ⟨rfl, hb1⟩)
  go_ret
  exact ⟨rfl, ((Below.refl _ _).alloc (Nat.le_refl _) _).trans (hb1.mono (by simp))⟩

set_option maxHeartbeats 4000000 in
theorem fnexactconf_walk (s : SV) (M : Mach) (CC : Bool) (w : World) (hsm : M.Small) (hsum : M.mem.length + M.pend.length + M.tlb.length + M.wc.length ≤ 1048576) (hv : MSrc w (s.mv M) M)
    (hS : ∀ (s : SV) (b : Nat) (w : World), MRow w b (s.mv M) M → Calls Try.prog 33 #[.agg #[.slice s.a1 M.mem.length s.c1, .slice s.a2 M.pend.length s.c2, .slice s.a3 M.tlb.length s.c3, .slice s.a4 M.wc.length s.c4]] w fun e w' => e = .returned (.bool CC) ∧ Below w.heap.size w w')
    (hI : ∀ (s : SV) (b : Nat) (w : World), MRow w b (s.mv M) M → Calls Try.prog 34 #[.agg #[.slice s.a1 M.mem.length s.c1, .slice s.a2 M.pend.length s.c2, .slice s.a3 M.tlb.length s.c3, .slice s.a4 M.wc.length s.c4]] w fun e w' => e = .returned (.bool CC) ∧ Below w.heap.size w w') :
    Calls Try.prog 7 #[.agg #[.slice s.a1 M.mem.length s.c1, .slice s.a2 M.pend.length s.c2, .slice s.a3 M.tlb.length s.c3, .slice s.a4 M.wc.length s.c4]] w fun e w' => e = .returned (.bool true) ∧ Below w.heap.size w w' := by
  have y1 := hsm.w
  have y2 := hsm.p
  have y3 := hsm.t
  have y4 := hsm.c
  have hsz := szMachine_any s.a1 s.a2 s.a3 s.a4 M.mem.length M.pend.length M.tlb.length M.wc.length s.c1 s.c2 s.c3 s.c4 (by omega) (by omega) (by omega) (by omega)
  rw [if_pos hsum] at hsz
  have d0 : decide ((1048576 : Int) - M.mem.length - M.pend.length - M.tlb.length - M.wc.length < 0) = false := by simp; omega
  have hcc : (CC != CC) = false := by cases CC <;> rfl
  obtain ⟨wb, hwb⟩ : ∃ wb, wb = w.alloc (.cells #[.slice s.a1 M.mem.length s.c1, .slice s.a2 M.pend.length s.c2, .slice s.a3 M.tlb.length s.c3, .slice s.a4 M.wc.length s.c4] 45) := ⟨_, rfl⟩
  have hbb : Below w.heap.size w wb := by rw [hwb]; exact (Below.refl _ _).alloc (Nat.le_refl _) _
  have hzb : wb.heap.size = w.heap.size + 1 := by rw [hwb]; simp
  have HBOX : Hid (∀ wX, Below wb.heap.size wb wX → wX.cell? ⟨w.heap.size, 0, none⟩ = some (.slice s.a1 M.mem.length s.c1) ∧ wX.cell? ⟨w.heap.size, 1, none⟩ = some (.slice s.a2 M.pend.length s.c2) ∧ wX.cell? ⟨w.heap.size, 2, none⟩ = some (.slice s.a3 M.tlb.length s.c3) ∧ wX.cell? ⟨w.heap.size, 3, none⟩ = some (.slice s.a4 M.wc.length s.c4)) := fun wX hX => by
    refine ⟨?_, ?_, ?_, ?_⟩
    iterate 4 (exact (hX.cell (by simp; omega)).trans (by rw [hwb]; simp [go_sem]))
  have HTO : Hid (∀ wX, Below wb.heap.size wb wX → Calls Try.prog 26 #[.agg #[.slice s.a1 M.mem.length s.c1, .slice s.a2 M.pend.length s.c2, .slice s.a3 M.tlb.length s.c3, .slice s.a4 M.wc.length s.c4]] wX fun e w' => ∃ s' : SV, e = .returned (.agg #[.slice s'.a1 M.mem.length s'.c1, .slice s'.a2 M.pend.length s'.c2, .slice s'.a3 M.tlb.length s'.c3, .slice s'.a4 M.wc.length s'.c4]) ∧ MRow w' wX.heap.size (s'.mv M) M ∧ (s'.mv M).apart ∧ Below wX.heap.size wX w') :=
    fun wX hX => toMachine_s s M wX hsm (hv.at (hbb.trans (hX.mono (by omega))))
  have HWB : Hid (wb = _) := hwb
  have HBB : Hid (Below _ w wb) := hbb
  have HZ : Hid (wb.heap.size = w.heap.size + 1) := hzb
  have HS : Hid _ := hS
  have HI : Hid _ := hI
  clear hwb hbb hzb hv hS hI
  go_enter Try.func7, Try.ntmps7
  go_wp2_with fail
  refine (hsz _).mono ?_
  rintro e w1 ⟨rfl, hb1'⟩
  have b1 : Below wb.heap.size wb w1 := by rw [HWB.out]; exact hb1'
  obtain ⟨x1, x2, x3, x4⟩ := HBOX.out w1 b1
  clear hb1' hsz
  go_wp2_with fail
  refine (HTO.out w1 b1).mono ?_
  rintro e w2 ⟨sa, rfl, hra, _, hb2⟩
  have b2 : Below wb.heap.size wb w2 := b1.trans (hb2.mono b1.size)
  have hSa := HS.out sa _ w2 hra
  clear hb2 x1 x2 x3 x4 hra
  go_wp2_with fail
  refine hSa.mono ?_
  rintro e w3 ⟨rfl, hb3⟩
  have b3 : Below wb.heap.size wb w3 := b2.trans (hb3.mono b2.size)
  obtain ⟨x1, x2, x3, x4⟩ := HBOX.out w3 b3
  clear hSa hb3
  go_wp2_with fail
  refine (HTO.out w3 b3).mono ?_
  rintro e w4 ⟨sx, rfl, hrx, _, hb4⟩
  have b4 : Below wb.heap.size wb w4 := b3.trans (hb4.mono b3.size)
  obtain ⟨wX, hwX⟩ : ∃ wX, wX = w4.alloc (.cells #[.slice sx.a1 M.mem.length sx.c1, .slice sx.a2 M.pend.length sx.c2, .slice sx.a3 M.tlb.length sx.c3, .slice sx.a4 M.wc.length sx.c4] 51) := ⟨_, rfl⟩
  have hzX : wX.heap.size = w4.heap.size + 1 := by rw [hwX]; simp
  have bX : Below wb.heap.size wb wX := by rw [hwX]; exact b4.alloc b4.size _
  have rX : MRow wX w3.heap.size (sx.mv M) M := by rw [hwX]; exact hrx.below ((Below.refl _ _).alloc (Nat.le_refl _) _)
  have HQX : Hid (∀ wY, Below wX.heap.size wX wY → wY.cell? ⟨w4.heap.size, 0, none⟩ = some (.slice sx.a1 M.mem.length sx.c1) ∧ wY.cell? ⟨w4.heap.size, 1, none⟩ = some (.slice sx.a2 M.pend.length sx.c2) ∧ wY.cell? ⟨w4.heap.size, 2, none⟩ = some (.slice sx.a3 M.tlb.length sx.c3) ∧ wY.cell? ⟨w4.heap.size, 3, none⟩ = some (.slice sx.a4 M.wc.length sx.c4)) := fun wY hY => by
    refine ⟨?_, ?_, ?_, ?_⟩
    iterate 4 (exact (hY.cell (by simp; omega)).trans (by rw [hwX]; simp [go_sem]))
  have HRX : Hid (∀ wY, Below wX.heap.size wX wY → MRow wY w3.heap.size (sx.mv M) M) := fun wY hY => rX.below hY
  have hIx := HI.out sx _ wX rX
  rw [hwX] at hIx
  have HWX : Hid (wX = _) := hwX
  have HBX : Hid (Below wb.heap.size wb wX) := bX
  clear hrx hb4 b4 b3 b2 b1 hwX hzX bX rX x1 x2 x3 x4
  go_wp2_with fail
  refine hIx.mono ?_
  rintro e w5 ⟨rfl, hb5'⟩
  have hb5 : Below wX.heap.size wX w5 := by rw [HWX.out]; exact hb5'
  have b5 : Below wb.heap.size wb w5 := HBX.out.trans (hb5.mono HBX.out.size)
  have HKP : Hid (∀ wY, Below w5.heap.size w5 wY → (wY.cell? ⟨w.heap.size, 0, none⟩ = some (.slice s.a1 M.mem.length s.c1) ∧ wY.cell? ⟨w.heap.size, 1, none⟩ = some (.slice s.a2 M.pend.length s.c2) ∧ wY.cell? ⟨w.heap.size, 2, none⟩ = some (.slice s.a3 M.tlb.length s.c3) ∧ wY.cell? ⟨w.heap.size, 3, none⟩ = some (.slice s.a4 M.wc.length s.c4)) ∧ (wY.cell? ⟨w4.heap.size, 0, none⟩ = some (.slice sx.a1 M.mem.length sx.c1) ∧ wY.cell? ⟨w4.heap.size, 1, none⟩ = some (.slice sx.a2 M.pend.length sx.c2) ∧ wY.cell? ⟨w4.heap.size, 2, none⟩ = some (.slice sx.a3 M.tlb.length sx.c3) ∧ wY.cell? ⟨w4.heap.size, 3, none⟩ = some (.slice sx.a4 M.wc.length sx.c4))) := fun wY hY =>
    ⟨HBOX.out wY (b5.trans (hY.mono b5.size)), HQX.out wY (hb5.trans (hY.mono hb5.size))⟩
  have HRX6 : Hid (∀ wY, Below w5.heap.size w5 wY → MRow wY w3.heap.size (sx.mv M) M) := fun wY hY => HRX.out wY (hb5.trans (hY.mono hb5.size))
  obtain ⟨⟨p1, p2, p3, p4⟩, p5, p6, p7, p8⟩ := HKP.out w5 (Below.refl _ _)
  have HBB6 : Hid (Below wb.heap.size wb w5) := b5
  clear hIx hb5' hb5 b5
  go_wp2_with fail
  go_region_held3 (fun w' => (w'.cell? ⟨w.heap.size, 0, none⟩ = some (.slice s.a1 M.mem.length s.c1) ∧ w'.cell? ⟨w.heap.size, 1, none⟩ = some (.slice s.a2 M.pend.length s.c2) ∧ w'.cell? ⟨w.heap.size, 2, none⟩ = some (.slice s.a3 M.tlb.length s.c3) ∧ w'.cell? ⟨w.heap.size, 3, none⟩ = some (.slice s.a4 M.wc.length s.c4)) ∧ (w'.cell? ⟨w4.heap.size, 0, none⟩ = some (.slice sx.a1 M.mem.length sx.c1) ∧ w'.cell? ⟨w4.heap.size, 1, none⟩ = some (.slice sx.a2 M.pend.length sx.c2) ∧ w'.cell? ⟨w4.heap.size, 2, none⟩ = some (.slice sx.a3 M.tlb.length sx.c3) ∧ w'.cell? ⟨w4.heap.size, 3, none⟩ = some (.slice sx.a4 M.wc.length sx.c4)))
    ((refine HKP.out _ ?_; repeat (first | exact Below.refl _ _ | with_reducible refine Below.drew ?_ | refine Below.trans ?_ (hb8.mono (by first | omega | (simp <;> omega))) | refine Below.trans ?_ (hb7.mono (by first | omega | (simp <;> omega))))))
    (first
      | (go_at_call 26; refine (HTO.out _ (by first | exact HBB6.out | exact HBB6.out.drew)).mono ?_; rintro e w7 ⟨sy, rfl, hry, _, hb7⟩; have s7 := hb7.size; simp at s7)
      | (go_at_call 28; refine (eqMachine_same (sx.mv M) (sy.mv M) M _ _ _ hsm (HRX6.out _ ((Below.refl _ _).drew.trans (hb7.mono (by simp)))) hry).mono ?_; rintro e w8 ⟨rfl, hb8⟩))
  have b68 : Below w5.heap.size w5 w8 := (Below.refl _ _).drew.trans ((hb7.mono (by simp)).trans (hb8.mono (by omega)))
  have HB8 : Hid (Below w.heap.size w w8) := HBB.out.trans ((HBB6.out.trans (b68.mono HBB6.out.size)).mono (by have := HZ.out; omega))
  clear hb7 hb8 b68 hry
  go_wp2_with fail
  go_ret
  exact ⟨rfl, HB8.out⟩
theorem fnexactconf_own : ownKnob Try.prog.godebug = none := by kernel_rfl

set_option maxRecDepth 100000 in
theorem fnexactconf_lifted (hany : ∀ (s : SV) (M : Mach) (w : World), MOk M → MSrc w (s.mv M) M → Calls Try.prog 7 #[.agg #[.slice s.a1 M.mem.length s.c1, .slice s.a2 M.pend.length s.c2, .slice s.a3 M.tlb.length s.c3, .slice s.a4 M.wc.length s.c4]] w fun e w' => e = .returned (.bool true) ∧ Below w.heap.size w w')
    (os : Os) (started : os.Started) (H : Type) (enc : TypeId × Value → H) :
    ReturnsInHanded {} Try.checked os 7 .any (Rows.fnExactConflictSpec.pre6 enc Try.prog Try.f7 Rows.fnExactConflictRow.domain false) (Rows.fnExactConflictSpec.post enc Try.prog Try.f7 false true false false) := by
  refine returnsInHanded_of_change (C := Try.checked) fnexactconf_own started (by kernel_rfl) Try.func7
    (ChangeSpec.witness6 (enc := enc) (C := Try.checked) false ⟨#[], #[.agg #[.slice none 0 0, .slice none 0 0, .slice none 0 0, .slice none 0 0]], []⟩ 8 (by kernel_rfl) (by kernel_rfl) (by kernel_rfl) (by kernel_rfl)) ?_
  intro W base args ds gs before hval0 hW hcnd _
  have hval : ∀ (j : Nat) t v, Try.f7.params[j]? = some t → args[j]? = some v → Value.okWide Try.prog W .any base t v := hval0
  have hW' := hW
  obtain ⟨p, q, hA0, hV, rfl, hfz, hnd⟩ := hW
  have hA : DataW.TrodAll enc Try.prog W 0 (fun _ => true) true Try.f7.params.toList args.toList ds p := hA0
  rw [Try.params7] at hA hval
  obtain ⟨v0, vs0, d0, ds0, p0, q0, hargs, rfl, rfl, h0, r0⟩ := trodAll_cons hA
  obtain ⟨rfl, rfl, rfl⟩ := trodAll_nil r0
  obtain rfl : args = #[v0] := by cases args; simp_all
  obtain ⟨rfl, rfl⟩ := trodVars_none hV
  have k0 := h0
  have lt0 : ∀ x ∈ p0, x.block < W.heap.size := by obtain ⟨m, hm⟩ := k0; exact DataW.trod_lt m _ _ _ hm
  obtain ⟨s, M, rfl, hok, hsrc⟩ := mach_open (hval 0 45 v0 rfl rfl) h0
  clear hA0 hval0
  refine (hany s M W hok hsrc).mono fun e W' ⟨he, bel⟩ => ?_
  subst he
  exact ⟨_, rfl, _, _, _, [], _, [], hW', trodAll_mk1 (shut_bool Try.underlying4 _), (trodAll_cons_mk (Below.trod mach_laidOut (by kernel_rfl) (of_decide_eq_true (by kernel_rfl)) k0 bel lt0) trodAll_mk0), rfl, bel.frame _, fun h => by cases h⟩

theorem conf_law (s : SV) (M : Mach) (w : World) (hk : MOk M) (hsrc : MSrc w (s.mv M) M) : Calls Try.prog 7 #[.agg #[.slice s.a1 M.mem.length s.c1, .slice s.a2 M.pend.length s.c2, .slice s.a3 M.tlb.length s.c3, .slice s.a4 M.wc.length s.c4]] w fun e w' => e = .returned (.bool true) ∧ Below w.heap.size w w' := by
  by_cases hb : M.mem.length + M.pend.length + M.tlb.length + M.wc.length ≤ 1048576
  · have hs : M.Small := ⟨by omega, by omega, by omega, by omega⟩
    exact fnexactconf_walk s M (confB M) w hs hb hsrc
      (fun s b w h => specConf_any s M b w hk hs h) (fun s b w h => implConf_any s M b w hk hs h)
  · exact fnexactconf_big s M w hk.w hk.p hk.t hk.c hb

/-- THE STATEMENT -/
theorem conf_proved : Rows.FnExactConflictSaid :=
  OpenClaim.holds_of_wide 7 Try.f7 rfl rfl rfl rfl rfl rfl rfl ⟨rfl, rfl, rfl, rfl, rfl⟩ rfl rfl rfl rfl rfl (by kernel_rfl) Try.func7 (by kernel_rfl)
    (of_decide_eq_true (by kernel_rfl)) (by unfold Func.isWrapper; first | (rw [if_pos (by decide +kernel)]; kernel_rfl) | (rw [if_neg (by decide +kernel)]; exact ⟨rfl, rfl⟩))
    (fun os started H enc _ => fnexactconf_lifted conf_law os started H enc)
#print axioms conf_proved
end Go.Proofs.Ytnmhkgmmpkjjeab
