import Derived.Test.YtnmhkgmmpkjjeabPlcAll
import Derived.Test.YtnmhkgmmpkjjeabITree
namespace Go.Proofs.Ytnmhkgmmpkjjeab
open Go.ChangeShapes Go.WideShapes Go.ChangeAt Go.RowKit
set_option linter.unusedVariables false
attribute [local go_sem ↓] Go.wp_at_zero Go.wp_at_succ

theorem implPlaces_any (g : Nat) (zs : List Int) (c : Nat) (hn : zs.length ≤ 1048576) (hcc : zs.length ≤ c) (hr : ∀ i, 0 ≤ zs.getD i 0 ∧ zs.getD i 0 < 2 ^ 64) (w : World) (hg : CRow w g zs) :
    Calls Try.prog 15 #[.agg #[.slice (some ⟨g, 0, none⟩) zs.length c]] w fun e w' => PlacesPost zs w e w' := by
  have hvm := valid_any (some ⟨g, 0, none⟩) zs.length c (by omega)
  by_cases h0 : nfr zs.length = 0
  · have e : plist zs = [] := by unfold plist; rw [if_pos h0]
    have et : ptree zs = false := by unfold ptree; simp [h0]
    unfold PlacesPost
    rw [e, et]
    simp only [h0, decide_true, Bool.not_true] at hvm
    clear h0 e et
    go_enter Try.func15, Try.ntmps15
    go_wp2_with (go_at_call 54; refine (hvm _).mono ?_; rintro e w1 ⟨rfl, hb1⟩)
    go_ret2
    exact ⟨_, _, rfl, World.ownsRow_nil _ _ _ _, ((Below.refl _ _).alloc (Nat.le_refl _) _).trans (hb1.mono (by simp))⟩
  · have hz : OkMem zs := ⟨h0, hr⟩
    have hm := nfr_mul zs.length h0
    have hle := nfr_le zs.length
    have e : plist zs = belowL zs (nfr zs.length) 2 ⟨0, 1, 0⟩ := by unfold plist; rw [if_neg h0]
    have et : ptree zs = treeTo zs (nfr zs.length) (plist zs) (plist zs).length := by unfold ptree; simp [h0]
    have hps := psOk_plist zs hz
    have hadd := placesOf_any g zs c hz hcc
    have htree := isTree_any g zs c (plist zs) hps (by omega) hcc (nfr zs.length) hm.1 (by
      intro i w hi hg
      obtain ⟨F, hF, hF2⟩ := hps.ok i hi
      exact sound_any g zs c (pAt (plist zs) i) F hF hF2 (by omega) hcc (nfr zs.length) hm.1 (fun i hi w => implDecode_any _ _ (hr _).1 (hr _).2 w) w hg)
    rw [← et] at htree
    unfold PlacesPost
    simp only [h0, decide_false, Bool.not_false] at hvm
    generalize ptree zs = tr at *
    generalize plist zs = ps at *
    clear e et hps hm hle hz h0
    go_enter Try.func15, Try.ntmps15
    go_wp2_with (go_at_call 54; refine (hvm _).mono ?_; rintro e w1 ⟨rfl, hb1⟩; obtain ⟨hc1, hf1⟩ := bcell hb1)
    have hs1 := hb1.size
    simp at hs1
    have hbw1 : Below w.heap.size w w1 := ((Below.refl _ _).alloc (Nat.le_refl _) _).trans (hb1.mono (by simp))
    refine (hadd w1 (hg.below hbw1 hg.lt)).mono ?_
    rintro e w2 ⟨g2, c2, rfl, hp2', hb2⟩
    have hp2 : PRow w2 w.heap.size (.slice (some ⟨g2, 0, none⟩) ps.length c2) ps := hp2'.rebase (by omega)
    have hbx : w2.cell? ⟨w.heap.size, 0, none⟩ = some (.slice (some ⟨g, 0, none⟩) zs.length c) := by
      rw [hb2.cell (by simp; omega), hb1.cell (by simp)]; simp [go_sem]
    have hbw2 : Below w.heap.size w w2 := hbw1.trans (hb2.mono (by omega))
    have HP2 : Hid (PRow _ _ _ _) := hp2
    have HBW2 : Hid (Below _ _ _) := hbw2
    have hgw2 : CRow w2 g zs := hg.below hbw2 hg.lt
    have ht := htree (.slice (some ⟨g2, 0, none⟩) ps.length c2) w.heap.size w2 hgw2 hp2
    clear hadd hc1 hf1 hb1 hbw1 hp2 hp2' hb2 hbw2 hgw2 htree
    go_wp2_with fail
    refine ht.mono ?_
    rintro e w3 ⟨rfl, hb3⟩
    go_wp2_with fail
    go_ret2
    exact ⟨some ⟨g2, 0, none⟩, c2, rfl, HP2.out.below hb3, HBW2.out.trans (hb3.mono HBW2.out.size)⟩
end Go.Proofs.Ytnmhkgmmpkjjeab
