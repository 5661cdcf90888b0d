import Derived.Test.YtnmhkgmmpkjjeacGreatG48
import Derived.Test.YtnmhkgmmpkjjeacGreatRows
namespace Go.Proofs.YtnmhkgmmpkjjeacGreat
open Go.ChangeShapes Go.WideShapes Go.ChangeAt Go.RowKit Go.Joins
set_option linter.unusedVariables false

theorem planl_any (v : Value) (zs : List Int) (a : Option Addr) (cap : Nat) (xs : List SpanE) (w : World) (hv : Src w v zs) (hm : zs.length ≤ 9223372036854775807) (hr : ∀ i, 0 ≤ zs.getD i 0 ∧ zs.getD i 0 < 2 ^ 64) (hm2 : xs.length ≤ 9223372036854775807) (hq : ∀ i, i < xs.length → okSpan (eAt eSpan xs i)) (hu : ESrc eSpan w (.slice a xs.length cap) xs) :
    Calls Tryz.prog 3 #[.agg #[v], .slice a xs.length cap] w fun e w' => e = .returned (.bool true) ∧ Below w.heap.size w w' := by
  have hwf : ∀ i, i < xs.length → wfS (eAt eSpan xs i) := fun i hi => (hq i hi).wf
  by_cases hb : zs.length ≤ 1048576
  · by_cases hb2 : (xs.length : Int) ≤ 1048576 - zs.length
    · exact planl_walk v zs a cap xs (planF zs xs).1 (planF zs xs).2 w hv hu hb hb2 (planF_len zs xs) (fun g g2 b w hg h => specPlan_any g zs zs.length _ _ b xs w hb hr hg (by omega) hwf h) (fun g g2 b w hg h => implPlan_any g zs zs.length _ _ b xs w hb (Nat.le_refl _) hr hg (by omega) hwf h)
    · obtain ⟨av, cv, rfl, _⟩ := hv
      exact planl_big2 av a zs.length cv xs.length cap w hb hm2 hb2
  · obtain ⟨av, cv, rfl, _⟩ := hv
    exact planl_big1 av zs.length cv _ w hm (by omega)
theorem planl_own : ownKnob Tryz.prog.godebug = none := by kernel_rfl
theorem planl_cells : Tryz.prog.cellsOf 24 = 1 := by kernel_rfl
theorem array1 {α : Type} {cs : Array α} (h : cs.size = 1) : ∃ c0, cs = #[c0] := by
  obtain ⟨l⟩ := cs
  match l, h with
  | [c], _ => exact ⟨c, rfl⟩

/-- A slice of words that came in can be read. -/
theorem src_of {H : Type} {enc : TypeId × Value → H} {W : World} {sp : Nat → Bool} {fuel : Nat} {v : Value} {y : DataW H × List MemPlace} (hf : DataW.trod enc Tryz.prog W 0 sp true fuel 22 [v] = some y) :
    ∃ zs, Src W v zs ∧ zs.length ≤ 9223372036854775807 ∧ ∀ i, 0 ≤ zs.getD i 0 ∧ zs.getD i 0 < 2 ^ 64 := by
  rcases open_ints Tryz.underlying22 Tryz.underlying70 (by kernel_rfl) hf with ⟨hcs, _⟩ | ⟨x, l, c, zs, hcs, _, hl, hm, hz, _, hcell, hwz⟩
  · simp at hcs
    subst hcs
    exact ⟨[], ⟨none, 0, rfl, fun h => absurd h (by simp)⟩, by simp, fun i => by simp⟩
  · simp at hcs
    subst hcs
    have hlz : l ≤ zs.length := by rw [hz]; split <;> omega
    have hlen : (zs.take l).length = l := by rw [List.length_take]; omega
    have hget : ∀ i, i < l → (zs.take l).getD i 0 = zs.getD i 0 := fun i hi => by
      rw [List.getD_eq_getElem?_getD, List.getD_eq_getElem?_getD, List.getElem?_take, if_pos hi]
    unfold maxLen at hm
    refine ⟨zs.take l, ⟨some x, c, by rw [hlen], fun h0 => ?_⟩, by omega, fun i => ?_⟩
    · rw [hlen] at h0
      obtain ⟨b, off, rfl, hc⟩ := ints_at hcell (by omega)
      refine ⟨b, off, rfl, World.block_lt_of_cell? W _ (hc 0 (by omega)), fun i hi => ?_⟩
      rw [hlen] at hi
      rw [hget i hi]
      exact hc i (by omega)
    · by_cases hi : i < (zs.take l).length
      · have hmem : (zs.take l).getD i 0 ∈ zs := by
          rw [List.getD_eq_getElem?_getD, List.getElem?_eq_getElem hi]
          exact List.mem_of_mem_take (List.getElem_mem hi)
        have := bounds_u64 (hwz _ hmem)
        omega
      · rw [List.getD_eq_getElem?_getD, List.getElem?_eq_none (by omega)]
        simp

set_option maxRecDepth 100000 in
theorem planl_lifted (os : Os) (started : os.Started) (H : Type) (enc : TypeId × Value → H) :
    ReturnsInHanded {} Tryz.checked os 3 .any (Rows.fnExactPlanSpec.pre6 enc Tryz.prog Tryz.f3 Rows.fnExactPlanRow.domain false) (Rows.fnExactPlanSpec.post enc Tryz.prog Tryz.f3 false true false false) := by
  refine returnsInHanded_of_change (C := Tryz.checked) planl_own started (by kernel_rfl) Tryz.func3
    (ChangeSpec.witness6 (enc := enc) (C := Tryz.checked) false ⟨#[], #[.agg #[.slice none 0 0], .slice none 0 0], []⟩ 8 (by kernel_rfl) (by kernel_rfl) (by kernel_rfl) (by kernel_rfl)) ?_
  intro W base args ds gs before hval0 hW hcnd _
  have hval : ∀ (j : Nat) t v, Tryz.f3.params[j]? = some t → args[j]? = some v → Value.okWide Tryz.prog W .any base t v := hval0
  have hW' := hW
  obtain ⟨p, q, hA0, hV, rfl, hfz, hnd⟩ := hW
  have hA : DataW.TrodAll enc Tryz.prog W 0 (fun _ => true) true Tryz.f3.params.toList args.toList ds p := hA0
  rw [Tryz.params3] at hA hval
  obtain ⟨v0, vs0, d0, ds0, p0, q0, hargs, rfl, rfl, h0, r0⟩ := trodAll_cons hA
  obtain ⟨v1, vs1, d1, ds1, p1, q1, rfl, rfl, rfl, h1, r1⟩ := trodAll_cons r0
  obtain ⟨rfl, rfl, rfl⟩ := trodAll_nil r1
  obtain rfl : args = #[v0, v1] := by cases args; simp_all
  obtain ⟨rfl, rfl⟩ := trodVars_none hV
  have k0 := h0
  have k1 := h1
  have lt0 : ∀ x ∈ p0, x.block < W.heap.size := by obtain ⟨m, hm⟩ := k0; exact DataW.trod_lt m _ _ _ hm
  have lt1 : ∀ x ∈ p1, x.block < W.heap.size := by obtain ⟨m, hm⟩ := k1; exact DataW.trod_lt m _ _ _ hm
  obtain ⟨v, zs, rfl, hsrc, hm, hr⟩ : ∃ v zs, v0 = .agg #[v] ∧ Src W v zs ∧ zs.length ≤ 9223372036854775807 ∧ ∀ i, 0 ≤ zs.getD i 0 ∧ zs.getD i 0 < 2 ^ 64 := by
    obtain ⟨cs, rfl, hsz⟩ := okWide_struct Tryz.underlying24 (hval 0 24 v0 rfl rfl)
    obtain ⟨c0, rfl⟩ := array1 (hsz.trans planl_cells)
    obtain ⟨fuel, hf⟩ := h0
    obtain ⟨y0, n, _, _, hy⟩ := trod_struct1 Tryz.underlying24 hf
    have hy' : DataW.trod enc Tryz.prog W 0 (fun _ => true) true n 22 [c0] = some y0 := hy
    obtain ⟨zs, a, b, c⟩ := src_of hy'
    exact ⟨c0, zs, rfl, a, b, c⟩
  obtain ⟨a0, l0, c0, rfl⟩ := okWide_slice Tryz.underlying25 (hval 1 25 v1 rfl rfl)
  obtain ⟨m0, hm0⟩ := h1
  have hm1 : DataW.trod enc Tryz.prog W 0 (fun _ => true) true m0 25 [.slice a0 l0 c0] = some (d1, p1) := hm0
  obtain ⟨xs, hsrc2, hm2, hq⟩ := esrc_open eSpan okSpan Tryz.underlying25 cellsSpan elSpan hm1
  obtain ⟨a, cap, hsl, hrest⟩ := hsrc2
  simp only [Value.slice.injEq] at hsl
  obtain ⟨rfl, rfl, rfl⟩ := hsl
  clear hA0 hval0
  refine (planl_any v zs _ _ xs W hsrc hm hr hm2 hq ⟨_, _, rfl, hrest⟩).mono fun e W' ⟨he, bel⟩ => ?_
  subst he
  exact ⟨_, rfl, _, _, _, [], _, [], hW', trodAll_mk1 (shut_bool Tryz.underlying4 _), (trodAll_cons_mk (Below.trod mach_laidOut (by kernel_rfl) (of_decide_eq_true (by kernel_rfl)) k0 bel lt0) (trodAll_cons_mk (Below.trod mach_laidOut (by kernel_rfl) (of_decide_eq_true (by kernel_rfl)) k1 bel lt1) trodAll_mk0)), rfl, bel.frame _, fun h => by cases h⟩

/-- THE STATEMENT -/
theorem planl_proved : Rows.FnExactPlanSaid :=
  OpenClaim.holds_of_wide 3 Tryz.f3 rfl rfl rfl rfl rfl rfl rfl ⟨rfl, rfl, rfl, rfl, rfl⟩ rfl rfl rfl rfl rfl (by kernel_rfl) Tryz.func3 (by kernel_rfl)
    (of_decide_eq_true (by kernel_rfl)) (by unfold Func.isWrapper; first | (rw [if_pos (by decide +kernel)]; kernel_rfl) | (rw [if_neg (by decide +kernel)]; exact ⟨rfl, rfl⟩))
    (fun os started H enc _ => planl_lifted os started H enc)
#print axioms planl_proved
end Go.Proofs.YtnmhkgmmpkjjeacGreat
