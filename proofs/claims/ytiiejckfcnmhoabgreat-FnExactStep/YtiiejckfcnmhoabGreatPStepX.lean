import Derived.Test.YtiiejckfcnmhoabGreatSEB
import Derived.Test.YtiiejckfcnmhoabGreatUEB
import Derived.Test.YtiiejckfcnmhoabGreatLawStep
import Derived.Test.YtiiejckfcnmhoabGreatOpO
import Derived.Lib.SmallJoins
namespace Go.Proofs.YtiiejckfcnmhoabGreat
open Go.ChangeShapes Go.WideShapes Go.ChangeAt Go.RowKit
set_option linter.unusedVariables false

theorem step_own : ownKnob Tryz.prog.godebug = none := by kernel_rfl

set_option maxRecDepth 100000 in
theorem step_lifted (hany : ∀ (s : SV) (M : Mach) (o : OpE) (w : World), MOk M → OpOk o → MSrc w (s.mv M) M → Calls Tryz.prog 4 #[.agg #[.slice s.a1 M.mem.length s.c1, .slice s.a2 M.pend.length s.c2, .slice s.a3 M.tlb.length s.c3, .slice s.a4 M.wc.length s.c4], .agg #[.int .i64 o.kind, .int .i64 o.a, .int .i64 o.b, .int .u64 o.word]] w fun e w' => e = .returned (.bool true) ∧ Below w.heap.size w w')
    (os : Os) (started : os.Started) (H : Type) (enc : TypeId × Value → H) :
    ReturnsInHanded {} Tryz.checked os 4 .any (Rows.fnExactStepSpec.pre6 enc Tryz.prog Tryz.f4 Rows.fnExactStepRow.domain false) (Rows.fnExactStepSpec.post enc Tryz.prog Tryz.f4 false true false false) := by
  refine returnsInHanded_of_change (C := Tryz.checked) step_own started (by kernel_rfl) Tryz.func4
    (ChangeSpec.witness6 (enc := enc) (C := Tryz.checked) false ⟨#[], #[.agg #[.slice none 0 0, .slice none 0 0, .slice none 0 0, .slice none 0 0], .agg #[.int .i64 0, .int .i64 0, .int .i64 0, .int .u64 0]], []⟩ 8 (by kernel_rfl) (by kernel_rfl) (by kernel_rfl) (by kernel_rfl)) ?_
  intro W base args ds gs before hval0 hW hcnd _
  have hval : ∀ (j : Nat) t v, Tryz.f4.params[j]? = some t → args[j]? = some v → Value.okWide Tryz.prog W .any base t v := hval0
  have hW' := hW
  obtain ⟨p, q, hA0, hV, rfl, hfz, hnd⟩ := hW
  have hA : DataW.TrodAll enc Tryz.prog W 0 (fun _ => true) true Tryz.f4.params.toList args.toList ds p := hA0
  rw [Tryz.params4] at hA hval
  obtain ⟨v0, vs0, d0, ds0, p0, q0, hargs, rfl, rfl, h0, r0⟩ := trodAll_cons hA
  obtain ⟨v1, vs1, d1, ds1, p1, q1, rfl, rfl, rfl, h1, r1⟩ := trodAll_cons r0
  obtain ⟨rfl, rfl, rfl⟩ := trodAll_nil r1
  obtain rfl : args = #[v0, v1] := by cases args; simp_all
  obtain ⟨rfl, rfl⟩ := trodVars_none hV
  have k0 := h0
  have lt0 : ∀ x ∈ p0, x.block < W.heap.size := by obtain ⟨m, hm⟩ := k0; exact DataW.trod_lt m _ _ _ hm
  have k1 := h1
  have lt1 : ∀ x ∈ p1, x.block < W.heap.size := by obtain ⟨m, hm⟩ := k1; exact DataW.trod_lt m _ _ _ hm
  obtain ⟨o, rfl, hoo⟩ : ∃ o : OpE, v1 = .agg #[.int .i64 o.kind, .int .i64 o.a, .int .i64 o.b, .int .u64 o.word] ∧ OpOk o := by
    obtain ⟨cs, rfl, hsz⟩ := okWide_struct Tryz.underlying48 (hval 1 48 v1 rfl rfl)
    obtain ⟨l⟩ := cs
    obtain ⟨fuel, hf⟩ := h1
    obtain ⟨o, rfl, ho⟩ := elOp fuel l _ hf
    exact ⟨o, rfl, ho⟩
  obtain ⟨s, M, rfl, hok, hsrc⟩ := mach_open (hval 0 29 v0 rfl rfl) h0
  clear hA0 hval0
  refine (hany s M o W hok hoo hsrc).mono fun e W' ⟨he, bel⟩ => ?_
  subst he
  exact ⟨_, rfl, _, _, _, [], _, [], hW', trodAll_mk1 (shut_bool Tryz.underlying4 _), (trodAll_cons_mk (Below.trod mach_laidOut (by kernel_rfl) (of_decide_eq_true (by kernel_rfl)) k0 bel lt0) (trodAll_cons_mk (Below.trod mach_laidOut (by kernel_rfl) (of_decide_eq_true (by kernel_rfl)) k1 bel lt1) trodAll_mk0)), rfl, bel.frame _, fun h => by cases h⟩

theorem stepR_small {M : Mach} (hk : MOk M) (hs : M.Small) (o : OpE) : (stepR M o).1.Small := by
  unfold stepR
  cases hv : validB M
  · exact zM_small
  · exact opM_small hs (WOk.of hk hv) o

theorem step_law (s : SV) (M : Mach) (o : OpE) (w : World) (hk : MOk M) (ho : OpOk o) (hsrc : MSrc w (s.mv M) M) : Calls Tryz.prog 4 #[.agg #[.slice s.a1 M.mem.length s.c1, .slice s.a2 M.pend.length s.c2, .slice s.a3 M.tlb.length s.c3, .slice s.a4 M.wc.length s.c4], .agg #[.int .i64 o.kind, .int .i64 o.a, .int .i64 o.b, .int .u64 o.word]] w fun e w' => e = .returned (.bool true) ∧ Below w.heap.size w w' := by
  by_cases hb : M.mem.length + M.pend.length + M.tlb.length + M.wc.length ≤ 1048576
  · have hs : M.Small := ⟨by omega, by omega, by omega, by omega⟩
    exact fnexactstep_walk s M (stepR M o).1 (stepR M o).2 o w hs (stepR_small hk hs o) hb hsrc
      (fun s b w h => specStep_any s M b o w hk hs ho h) (fun s b w h => implStep_any s M b o w hk hs ho h)
  · exact fnexactstep_big s M o w hk.w hk.p hk.t hk.c hb

/-- THE STATEMENT -/
theorem step_proved : Rows.FnExactStepSaid :=
  OpenClaim.holds_of_wide 4 Tryz.f4 rfl rfl rfl rfl rfl rfl rfl ⟨rfl, rfl, rfl, rfl, rfl⟩ rfl rfl rfl rfl rfl (by kernel_rfl) Tryz.func4 (by kernel_rfl)
    (of_decide_eq_true (by kernel_rfl)) (by unfold Func.isWrapper; first | (rw [if_pos (by decide +kernel)]; kernel_rfl) | (rw [if_neg (by decide +kernel)]; exact ⟨rfl, rfl⟩))
    (fun os started H enc _ => step_lifted step_law os started H enc)
#print axioms step_proved
end Go.Proofs.YtiiejckfcnmhoabGreat
