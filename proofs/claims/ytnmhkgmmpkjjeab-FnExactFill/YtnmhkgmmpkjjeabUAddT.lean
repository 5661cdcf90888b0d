import Derived.Test.YtnmhkgmmpkjjeabUAddW
namespace Go.Proofs.Ytnmhkgmmpkjjeab
open Go.ChangeShapes Go.WideShapes Go.ChangeAt Go.RowKit
set_option linter.unusedVariables false
attribute [local go_sem ↓] Go.wp_at_zero Go.wp_at_succ

theorem idxTen_any (v : Value) (B : Nat) (xs : List TlbE) (e : TlbE) (w : World) (hn : xs.length ≤ 256) (hv : ERow eTE w B v xs) :
    Calls Try.prog 215 #[v, tenV e] w fun r w' => ∃ k : Int, r = .returned (.int .i64 k) ∧ decide (0 ≤ k) = anyR (fun i => tlbEq (eAt eTE xs i) e) xs.length ∧ Below w.heap.size w w' := by
  obtain ⟨a, c, rfl, haf⟩ := hv.form
  unfold tenV
  obtain ⟨wb, hwb⟩ : ∃ wb, wb = w.alloc (.cells #[.int .i64 (e.page), .int .i64 (e.size), .bool (e.doom), .int .i64 (e.out), .int .i64 (e.perm)] 193) := ⟨_, rfl⟩
  have hbb : Below w.heap.size w wb := by rw [hwb]; exact (Below.refl _ _).alloc (Nat.le_refl _) _
  have q0 : wb.cell? ⟨w.heap.size, 0, none⟩ = some (.int .i64 (e.page)) := by rw [hwb]; simp [go_sem]
  have q1 : wb.cell? ⟨w.heap.size, 1, none⟩ = some (.int .i64 (e.size)) := by rw [hwb]; simp [go_sem]
  have q2 : wb.cell? ⟨w.heap.size, 2, none⟩ = some (.bool (e.doom)) := by rw [hwb]; simp [go_sem]
  have q3 : wb.cell? ⟨w.heap.size, 3, none⟩ = some (.int .i64 (e.out)) := by rw [hwb]; simp [go_sem]
  have q4 : wb.cell? ⟨w.heap.size, 4, none⟩ = some (.int .i64 (e.perm)) := by rw [hwb]; simp [go_sem]
  have HWB : Hid (wb = _) := hwb
  have HBB : Hid (Below _ w wb) := hbb
  have HF : Hid _ := haf
  clear hwb hbb haf hv
  go_enter Try.func215, Try.ntmps215
  go_wp2_with fail
  go_loopw [8] (fun iv wr => ∃ k : Nat, k ≤ xs.length ∧ iv = .int .i64 k ∧ anyR (fun i => tlbEq (eAt eTE xs i) e) k = false ∧ ∃ n, wr = wb.drewN n) (fun iv _ => xs.length - (intOf iv).toNat)
  case atStart => exact ⟨0, Nat.zero_le _, rfl, rfl, 0, HWB.out.symm⟩
  case round =>
    obtain ⟨k, hk, rfl, hany, nd, rfl⟩ := hrel
    by_cases hlt : k < xs.length
    · obtain ⟨g, N, f, hag, _, hr, hN, hf⟩ := HF.out (by omega)
      subst hag
      have hN' : xs.length * 5 ≤ N := hN
      have hr1 : wb.rowIs g 193 N f := hr.of_block (HBB.out.block g hr.lt)
      have k0 := hr1.cell (i := k * 5) (by omega)
      rw [show f (k * 5) = .int .i64 ((eAt eTE xs k).page) from hf k hlt 0 (by decide)] at k0
      have k1 := hr1.cell (i := k * 5 + 1) (by omega)
      rw [show f (k * 5 + 1) = .int .i64 ((eAt eTE xs k).size) from hf k hlt 1 (by decide)] at k1
      have k2 := hr1.cell (i := k * 5 + 2) (by omega)
      rw [show f (k * 5 + 2) = .bool ((eAt eTE xs k).doom) from hf k hlt 2 (by decide)] at k2
      have k3 := hr1.cell (i := k * 5 + 3) (by omega)
      rw [show f (k * 5 + 3) = .int .i64 ((eAt eTE xs k).out) from hf k hlt 3 (by decide)] at k3
      have k4 := hr1.cell (i := k * 5 + 4) (by omega)
      rw [show f (k * 5 + 4) = .int .i64 ((eAt eTE xs k).perm) from hf k hlt 4 (by decide)] at k4
      have hst : anyR (fun i => tlbEq (eAt eTE xs i) e) (k + 1) = tlbEq (eAt eTE xs k) e := by rw [anyR_succ, hany, Bool.false_or]
      have hyes : tlbEq (eAt eTE xs k) e = true → anyR (fun i => tlbEq (eAt eTE xs i) e) xs.length = true := fun h => anyR_true _ k _ hlt h
      have L1 : (0 : Int) ≤ (k : Int) := by omega
      have L2 : (k : Int) < (xs.length : Int) := by omega
      have hgl := hr1.lt
      have HST : Hid _ := hst
      have HYES : Hid _ := hyes
      clear hst hyes hany hr1 hr hf hN
      generalize eAt eTE xs k = x at *
      by_cases h0 : e.page = x.page
      · have h0' : (e.page == x.page) = true := by simpa using h0
        by_cases h1 : e.size = x.size
        · have h1' : (e.size == x.size) = true := by simpa using h1
          by_cases h2 : e.doom = x.doom
          · have h2' : (e.doom == x.doom) = true := by simpa using h2
            by_cases h3 : e.out = x.out
            · have h3' : (e.out == x.out) = true := by simpa using h3
              by_cases h4 : e.perm = x.perm
              · have h4' : (e.perm == x.perm) = true := by simpa using h4
                have hv : tlbEq x e = true := by
                  simp [tlbEq, sameB, h0, h1, h2, h3, h4]
                have HV : Hid _ := HYES.out hv
                clear hv h0 h1 h2 h3 h4
                go_wp2_with fail
                go_quiet (fail)
                go_wp2_with fail
                go_ret
                exact ⟨_, rfl, by rw [HV.out]; simp, bDrewN (bDrewN HBB.out _) _⟩
              · have h4' : (e.perm == x.perm) = false := by simpa using h4
                have hv : tlbEq x e = false := by
                  simp only [tlbEq, sameB, Bool.and_eq_false_iff, decide_eq_false_iff_not]; exact .inl (.inr (fun h => h4 h.symm))
                clear h0 h1 h2 h3 h4
                have HV : Hid (tlbEq x e = false) := hv
                clear hv
                go_wp2_with fail
                go_quiet (fail)
                go_wp2_with fail
                go_roundw
                case rel => exact ⟨k + 1, by omega, by go_num, by rw [HST.out, HV.out], _, rfl⟩
                case measure => simp [intOf]; omega
            · have h3' : (e.out == x.out) = false := by simpa using h3
              have hv : tlbEq x e = false := by
                simp only [tlbEq, sameB, Bool.and_eq_false_iff, decide_eq_false_iff_not]; exact .inl (.inl (.inr (fun h => h3 h.symm)))
              clear h0 h1 h2 h3
              have HV : Hid (tlbEq x e = false) := hv
              clear hv
              go_wp2_with fail
              go_quiet (fail)
              go_wp2_with fail
              go_roundw
              case rel => exact ⟨k + 1, by omega, by go_num, by rw [HST.out, HV.out], _, rfl⟩
              case measure => simp [intOf]; omega
          · have h2' : (e.doom == x.doom) = false := by simpa using h2
            have hv : tlbEq x e = false := by
              simp only [tlbEq, sameB, Bool.and_eq_false_iff, beq_eq_false_iff_ne]; exact .inr (fun h => h2 h.symm)
            clear h0 h1 h2
            have HV : Hid (tlbEq x e = false) := hv
            clear hv
            go_wp2_with fail
            go_quiet (fail)
            go_wp2_with fail
            go_roundw
            case rel => exact ⟨k + 1, by omega, by go_num, by rw [HST.out, HV.out], _, rfl⟩
            case measure => simp [intOf]; omega
        · have h1' : (e.size == x.size) = false := by simpa using h1
          have hv : tlbEq x e = false := by
            simp only [tlbEq, sameB, Bool.and_eq_false_iff, decide_eq_false_iff_not]; exact .inl (.inl (.inl (.inr (fun h => h1 h.symm))))
          clear h0 h1
          have HV : Hid (tlbEq x e = false) := hv
          clear hv
          go_wp2_with fail
          go_quiet (fail)
          go_wp2_with fail
          go_roundw
          case rel => exact ⟨k + 1, by omega, by go_num, by rw [HST.out, HV.out], _, rfl⟩
          case measure => simp [intOf]; omega
      · have h0' : (e.page == x.page) = false := by simpa using h0
        have hv : tlbEq x e = false := by
          simp only [tlbEq, sameB, Bool.and_eq_false_iff, decide_eq_false_iff_not]; exact .inl (.inl (.inl (.inl (fun h => h0 h.symm))))
        clear h0
        have HV : Hid (tlbEq x e = false) := hv
        clear hv
        go_wp2_with fail
        go_quiet (fail)
        go_wp2_with fail
        go_roundw
        case rel => exact ⟨k + 1, by omega, by go_num, by rw [HST.out, HV.out], _, rfl⟩
        case measure => simp [intOf]; omega
    · have e0 : k = xs.length := by omega
      subst e0
      have L2 : ¬ (xs.length : Int) < (xs.length : Int) := by omega
      have HV : Hid _ := hany
      clear hany
      go_wp2_with fail
      go_ret
      exact ⟨_, rfl, by rw [HV.out]; decide, bDrewN HBB.out _⟩
theorem hasTen_any (v : Value) (B : Nat) (xs : List TlbE) (e : TlbE) (w : World) (hn : xs.length ≤ 256) (hv : ERow eTE w B v xs) :
    Calls Try.prog 197 #[v, tenV e] w fun r w' => r = .returned (.bool (anyR (fun i => tlbEq (eAt eTE xs i) e) xs.length)) ∧ Below w.heap.size w w' := by
  have hb1 : Below w.heap.size w (w.alloc (.cells #[.int .i64 (e.page), .int .i64 (e.size), .bool (e.doom), .int .i64 (e.out), .int .i64 (e.perm)] 193)) := (Below.refl _ _).alloc (Nat.le_refl _) _
  have h := idxTen_any v B xs e _ hn (hv.below hb1)
  obtain ⟨a, c, rfl, _⟩ := hv.form
  unfold tenV at h ⊢
  have HB1 : Hid _ := hb1
  clear hv hb1
  go_enter Try.func197, Try.ntmps197
  go_wp2_with fail
  refine h.mono ?_
  rintro r w1 ⟨k, rfl, hk, hb⟩
  have HB : Hid (Below w.heap.size w w1) := HB1.out.trans (hb.mono (by simp))
  clear hb h
  cases hR : anyR (fun i => tlbEq (eAt eTE xs i) e) xs.length <;> rw [hR] at hk <;> (have HR : Hid _ := hR) <;> clear hR
  · go_wp2_with fail
    go_ret
    exact ⟨by rw [HR.out]; rfl, HB.out⟩
  · go_wp2_with fail
    go_ret
    exact ⟨by rw [HR.out]; rfl, HB.out⟩
/-- The list with a new entry, if there is room and it isn't there yet. -/
def addTen (xs : List TlbE) (e : TlbE) : List TlbE := if anyR (fun i => tlbEq (eAt eTE xs i) e) xs.length || decide (256 ≤ xs.length) then xs else xs ++ [e]
set_option maxRecDepth 100000 in
theorem addTen_any (a : Option Addr) (c : Nat) (B : Nat) (xs : List TlbE) (e : TlbE) (w : World) (hn : xs.length ≤ 256) (hB : B ≤ w.heap.size) (hv : ERow eTE w B (.slice a xs.length c) xs) :
    Calls Try.prog 180 #[.slice a xs.length c, tenV e, .int .i64 256] w fun r w' => ∃ a' c', r = .returned (.slice a' (addTen xs e).length c') ∧ ERow eTE w' B (.slice a' (addTen xs e).length c') (addTen xs e) ∧ w.grownBy w' (oOf a) ∧ (∀ k, oOf a' = some k → oOf a = some k ∨ w.heap.size ≤ k) := by
  obtain ⟨iE, hiE, hz0, hz1, hz2⟩ := info_parts infoTE
  obtain ⟨wb, hwb⟩ : ∃ wb, wb = w.alloc (.cells #[.int .i64 (e.page), .int .i64 (e.size), .bool (e.doom), .int .i64 (e.out), .int .i64 (e.perm)] 193) := ⟨_, rfl⟩
  have hbb : Below w.heap.size w wb := by rw [hwb]; exact (Below.refl _ _).alloc (Nat.le_refl _) _
  have hzb : wb.heap.size = w.heap.size + 1 := by rw [hwb]; simp
  have hh := hasTen_any (.slice a xs.length c) B xs e wb hn (hv.below hbb)
  have keep : ∀ wX, Below w.heap.size w wX → addTen xs e = xs → ∃ a' c', Ending.returned (.slice a xs.length c) = .returned (.slice a' (addTen xs e).length c') ∧ ERow eTE wX B (.slice a' (addTen xs e).length c') (addTen xs e) ∧ w.grownBy wX (oOf a) ∧ (∀ k, oOf a' = some k → oOf a = some k ∨ w.heap.size ≤ k) := by
    intro wX hX he
    rw [he]
    exact ⟨a, c, rfl, hv.below hX, ⟨hX.os, hX.tape, hX.output, hX.size, fun k hk _ => hX.block k hk⟩, fun k hk => .inl hk⟩
  have HK : Hid _ := keep
  by_cases hf : 256 ≤ xs.length
  · have he : addTen xs e = xs := by unfold addTen; simp [hf]
    have L : (256 : Int) ≤ (xs.length : Int) := by omega
    have HE : Hid _ := he
    clear hh he keep
    unfold tenV
    rw [hwb] at hbb
    have HBB : Hid _ := hbb
    clear hwb hbb hzb
    go_enter Try.func180, Try.ntmps180
    go_wp2_with fail
    go_ret
    exact HK.out _ HBB.out HE.out
  · have L : (xs.length : Int) < 256 := by omega
    cases hR : anyR (fun i => tlbEq (eAt eTE xs i) e) xs.length
    · have he : addTen xs e = xs ++ [e] := by unfold addTen; simp [hR]; omega
      rw [hR] at hh
      rw [he]
      have hlen : (xs ++ [e]).length = xs.length + 1 := by simp
      rw [hlen]
      have HWB : Hid (wb = _) := hwb
      have HBB : Hid (Below _ w wb) := hbb
      have HV : Hid (ERow eTE w B _ xs) := hv
      have HLT : Hid (∀ k, oOf a = some k → k < w.heap.size) := fun k hk => (hv.ownA k hk).2
      rw [hwb] at hh
      clear hbb hv he hwb keep hR hlen
      unfold tenV at hh ⊢
      go_enter Try.func180, Try.ntmps180
      go_wp2_with fail
      refine hh.mono ?_
      rintro r w1 ⟨rfl, hb1'⟩
      have hb1 : Below wb.heap.size wb w1 := by rw [HWB.out]; exact hb1'
      have s1 := hb1.size
      clear hb1' hh
      have x0 : w1.cell? ⟨w.heap.size, 0, none⟩ = some (.int .i64 (e.page)) := (hb1.cell (p := ⟨w.heap.size, 0, none⟩) (by simp; omega)).trans (by rw [HWB.out]; simp [go_sem])
      have x1 : w1.cell? ⟨w.heap.size, 1, none⟩ = some (.int .i64 (e.size)) := (hb1.cell (p := ⟨w.heap.size, 1, none⟩) (by simp; omega)).trans (by rw [HWB.out]; simp [go_sem])
      have x2 : w1.cell? ⟨w.heap.size, 2, none⟩ = some (.bool (e.doom)) := (hb1.cell (p := ⟨w.heap.size, 2, none⟩) (by simp; omega)).trans (by rw [HWB.out]; simp [go_sem])
      have x3 : w1.cell? ⟨w.heap.size, 3, none⟩ = some (.int .i64 (e.out)) := (hb1.cell (p := ⟨w.heap.size, 3, none⟩) (by simp; omega)).trans (by rw [HWB.out]; simp [go_sem])
      have x4 : w1.cell? ⟨w.heap.size, 4, none⟩ = some (.int .i64 (e.perm)) := (hb1.cell (p := ⟨w.heap.size, 4, none⟩) (by simp; omega)).trans (by rw [HWB.out]; simp [go_sem])
      have hown : w1.ownsRow B 193 5 (.slice a xs.length c) xs.length (ecells eTE xs) := HV.out.below (HBB.out.trans (hb1.mono (by omega)))
      have HB1 : Hid (Below w.heap.size w w1) := HBB.out.trans (hb1.mono (by omega))
      have HEC : Hid (eTE.enc e = [.int .i64 (e.page), .int .i64 (e.size), .bool (e.doom), .int .i64 (e.out), .int .i64 (e.perm)]) := rfl
      have HOWN : Hid _ := hown
      clear hb1 hown
      go_wp2_with (at_builtin; refine wpList_append_lies _ rfl (.tmp 17) (.tmp 19) 94 rfl B 193 iE _ 5 40 Try.underlying94 hiE hz0 hz1 hz2 rfl (by omega) _ _ _ rfl (World.ownsRow.alloc HOWN.out _) ⟨w1.heap.size, 0, none⟩ 1 1 [.int .i64 (e.page), .int .i64 (e.size), .bool (e.doom), .int .i64 (e.out), .int .i64 (e.perm)] rfl rfl ?c1 ?c2 (by omega) ?c3 ?c4 ?c5 (w1.heap.size + 1) ?c6 ?_)
      case c1 => exact World.news_of_block (heap_alloc_new w1 (.cells #[.int .i64 (e.page), .int .i64 (e.size), .bool (e.doom), .int .i64 (e.out), .int .i64 (e.perm)] 193))
      case c2 => intro u hu; simp at hu; rcases hu with rfl | rfl | rfl | rfl | rfl <;> rfl
      case c3 => unfold maxLen; omega
      case c4 => omega
      case c5 => simp; omega
      case c6 => simp
      intro g1 cap1 wn hown hgrow hat hlt3
      rw [← HEC.out] at hown
      have hnew : ERow eTE wn B (.slice (some ⟨g1, 0, none⟩) (xs.length + 1) cap1) (xs ++ [e]) := by
        have h2 : ecells eTE (xs ++ [e]) = ecells eTE xs ++ eTE.enc e := by rw [ecells_append]; simp [ecells]
        unfold ERow
        rw [h2, List.length_append]
        exact hown
      have hg2 : w.grownBy wn (oOf a) := by
        rw [own_slice] at hgrow
        have hB1 := HB1.out
        exact ⟨hgrow.os.trans hB1.os, hgrow.tape.trans hB1.tape, hgrow.output.trans hB1.output, by have h3 := hgrow.size; have h4 := hB1.size; rw [World.size_alloc] at h3; omega, fun k hk hn => by
          have h3 := hgrow.block k (by have := hB1.size; simp; omega) hn
          rw [h3, heap_alloc_old w1 _ (by have := hB1.size; omega)]
          exact hB1.block k hk⟩
      have ho : ∀ k, oOf (some ⟨g1, 0, none⟩) = some k → oOf a = some k ∨ w.heap.size ≤ k := fun k hk => by
        rw [own_slice] at hat
        have : g1 = k := by simpa [oOf, Value.ownBlock] using hk
        subst this
        rcases hat with h' | h'
        · exact .inl h'
        · have := HB1.out.size; exact .inr (by omega)
      have HNEW : Hid _ := hnew
      have HG2 : Hid _ := hg2
      clear hown hgrow hat hnew hg2 x0 x1 x2 x3 x4
      go_wp2_with fail
      go_ret
      exact ⟨_, _, rfl, HNEW.out, HG2.out, ho⟩
    · have he : addTen xs e = xs := by unfold addTen; simp [hR]
      rw [hR] at hh
      have HWB : Hid (wb = _) := hwb
      have HBB : Hid (Below _ w wb) := hbb
      have HE : Hid _ := he
      rw [hwb] at hh
      clear hbb he hwb keep hR hv
      unfold tenV at hh ⊢
      go_enter Try.func180, Try.ntmps180
      go_wp2_with fail
      refine hh.mono ?_
      rintro r w1 ⟨rfl, hb1'⟩
      have hb1 : Below wb.heap.size wb w1 := by rw [HWB.out]; exact hb1'
      have HB1 : Hid (Below w.heap.size w w1) := HBB.out.trans (hb1.mono (by omega))
      clear hb1' hh hb1
      go_wp2_with fail
      go_ret
      exact HK.out _ HB1.out HE.out
end Go.Proofs.Ytnmhkgmmpkjjeab
