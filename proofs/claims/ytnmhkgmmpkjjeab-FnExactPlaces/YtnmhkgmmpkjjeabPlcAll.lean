import Derived.Test.YtnmhkgmmpkjjeabIAddB
import Derived.Test.YtnmhkgmmpkjjeabSPlcC
namespace Go.Proofs.Ytnmhkgmmpkjjeab
open Go.ChangeShapes Go.WideShapes Go.ChangeAt Go.RowKit
set_option linter.unusedVariables false

theorem psOk_plist (zs : List Int) (hz : OkMem zs) : PsOk zs (plist zs) := by
  have hm := nfr_mul zs.length hz.n0
  refine ⟨plist_length zs, ?_, ?_⟩
  · unfold plist
    rw [if_neg hz.n0]
    simp [belowL, downs]
  · intro i hi
    have hmem : pAt (plist zs) i ∈ plist zs := by
      unfold pAt
      rw [List.getD_eq_getElem?_getD, List.getElem?_eq_getElem hi]
      exact List.getElem_mem hi
    have e : plist zs = belowL zs (nfr zs.length) 2 ⟨0, 1, 0⟩ := by unfold plist; rw [if_neg hz.n0]
    rw [e] at hmem
    obtain ⟨d', h⟩ := belowL_ok 2 ⟨0, 1, 0⟩ ⟨rfl, by simp, by simp, by show (0 : Int) < _; omega, by simp, by simp⟩ _ hmem
    obtain ⟨_, _, a, b, _, _⟩ := h
    refine ⟨(pAt (plist zs) i).fr.toNat, ?_, ?_⟩
    · rw [e]; omega
    · rw [e]; omega

theorem okRoot (zs : List Int) (hz : OkMem zs) : OkP zs 2 ⟨0, 1, 0⟩ := by
  have hm := nfr_mul zs.length hz.n0
  exact ⟨rfl, by simp, by simp, by show (0 : Int) < _; omega, by simp, by simp⟩

/-- What both Places answer. -/
def PlacesPost (zs : List Int) (w : World) (e : Ending) (w' : World) : Prop :=
  ∃ a c', e = .returned (.tuple #[.slice a (plist zs).length c', .bool (ptree zs)]) ∧ PRow w' w.heap.size (.slice a (plist zs).length c') (plist zs) ∧ Below w.heap.size w w'

theorem specPlaces_any (g : Nat) (zs : List Int) (c : Nat) (hn : zs.length ≤ 1048576) (hr : ∀ i, 0 ≤ zs.getD i 0 ∧ zs.getD i 0 < 2 ^ 64) (w : World) (hg : CRow w g zs) :
    Calls Try.prog 13 #[.agg #[.slice (some ⟨g, 0, none⟩) zs.length c]] w fun e w' => PlacesPost zs w e w' := by
  unfold PlacesPost ptree
  by_cases h0 : nfr zs.length = 0
  · have e : plist zs = [] := by unfold plist; rw [if_pos h0]
    rw [e]
    simp only [h0, decide_true, Bool.not_true, Bool.false_and]
    exact specPlaces_no g zs.length c hn h0 w
  · have hz : OkMem zs := ⟨h0, hr⟩
    have hm := nfr_mul zs.length h0
    have hle := nfr_le zs.length
    have e : plist zs = belowL zs (nfr zs.length) 2 ⟨0, 1, 0⟩ := by unfold plist; rw [if_neg h0]
    simp only [h0, decide_false, Bool.not_false, Bool.true_and]
    refine specPlaces_yes g zs c (nfr zs.length) (plist zs) rfl h0 (by omega) (psOk_plist zs hz) ?_ ?_ w hg
    · intro i k hi hk w
      exact specDecode_any _ _ (hr _).1 (hr _).2 w
    · intro w hg
      have := specBelow_any g zs c hz 2 (by omega) ⟨0, 1, 0⟩ w (okRoot zs hz) hg
      rw [← e] at this
      exact this

theorem placesOf_any (g : Nat) (zs : List Int) (c : Nat) (hz : OkMem zs) (hcc : zs.length ≤ c) (w : World) (hg : CRow w g zs) :
    Calls Try.prog 55 #[.agg #[.slice (some ⟨g, 0, none⟩) zs.length c]] w fun e w' => ∃ g' c', e = .returned (.slice (some ⟨g', 0, none⟩) (plist zs).length c') ∧ PRow w' w.heap.size (.slice (some ⟨g', 0, none⟩) (plist zs).length c') (plist zs) ∧ Below w.heap.size w w' := by
  have e : plist zs = belowL zs (nfr zs.length) 2 ⟨0, 1, 0⟩ := by unfold plist; rw [if_neg hz.n0]
  have hadd := implAdd_any g zs c hz hcc w.heap.size hg.lt 2 (by omega) ⟨0, 1, 0⟩ (.slice none 0 0) []
  rw [← e] at hadd
  have hok := okRoot zs hz
  generalize plist zs = ps at *
  obtain ⟨wb, hwb⟩ : ∃ wb, wb = w.alloc (.cells #[.slice (some ⟨g, 0, none⟩) zs.length c] 29) := ⟨_, rfl⟩
  have hbb : Below w.heap.size w wb := by rw [hwb]; exact (Below.refl _ _).alloc (Nat.le_refl _) _
  have hzb : wb.heap.size = w.heap.size + 1 := by rw [hwb]; simp
  have h1 := hadd wb hok (hg.below hbb hg.lt) (by omega) (by simp) (World.ownsRow_nil _ _ _ _)
  have HBB : Hid (Below _ _ _) := hbb
  have HWB : Hid (wb = _) := hwb
  rw [hwb] at h1
  clear hadd hbb hwb e hok hz
  go_enter Try.func55, Try.ntmps55
  go_wp2_with fail
  refine h1.mono ?_
  rintro e w2 ⟨g2, c2, rfl, hp2, hgr2, _⟩
  have hgr2' : wb.grownBy w2 none := by rw [HWB.out]; exact hgr2
  have hb2 : Below wb.heap.size wb w2 := ⟨hgr2'.os, hgr2'.tape, hgr2'.output, hgr2'.size, fun k hk => hgr2'.block k hk (by simp)⟩
  have HP2 : Hid (PRow _ _ _ _) := hp2
  have HB2 : Hid (Below w.heap.size w w2) := HBB.out.trans (hb2.mono (by omega))
  clear hgr2 hgr2' hb2 hp2 h1
  go_wp2_with fail
  go_ret
  exact ⟨g2, c2, rfl, HP2.out, HB2.out⟩

end Go.Proofs.Ytnmhkgmmpkjjeab
