import Derived.Test.YtnmhkgmmpkjjeaaG19
import Derived.Test.YtnmhkgmmpkjjeaaG23
import Derived.Test.YtnmhkgmmpkjjeaaG22
import Derived.Test.YtnmhkgmmpkjjeaaG05
namespace Go.Proofs.Ytnmhkgmmpkjjeaa
open Go.ChangeShapes Go.WideShapes Go.ChangeAt Go.RowKit
set_option linter.unusedVariables false

theorem dKind_3 (x : Int) : dKind 3 x ≠ 1 := by
  unfold dKind
  rw [if_neg (by omega)]
  by_cases h1 : x % 2 = 0
  · rw [if_pos h1]; omega
  · rw [if_neg h1]
    by_cases h2 : x / 32 % 128 ≠ 0 ∨ x / 268435456 ≠ 0
    · rw [if_pos h2]; omega
    · rw [if_neg h2, if_neg (by omega), if_neg (by omega)]
      by_cases h3 : (3 : Int) = 3 ∧ x / 2 % 2 = 1 ∧ 0 < x / 4 % 8
      · rw [if_pos h3]; omega
      · rw [if_neg h3]; omega
theorem leads_3 (zs : List Int) (n : Int) (p : P3) (i : Nat) (h : p.lv = 3) : leads zs n p i = false := by
  unfold leads
  rw [h]
  simp [dKind_3]
theorem downs_3 (zs : List Int) (n : Int) (rec : P3 → List P3) (p : P3) (h : p.lv = 3) : ∀ k, downs zs n rec p k = [p]
  | 0 => rfl
  | k + 1 => by rw [downs_succ, downs_3 zs n rec p h k, leads_3 zs n p k h]; rfl

theorem implAdd_any (g : Nat) (zs : List Int) (c : Nat) (hz : OkMem zs) (hcc : zs.length ≤ c) (B : Nat) (hgB : g < B) : ∀ (d : Nat), d ≤ 2 → ∀ (p : P3) (v : Value) (qs : List P3) (w : World), OkP zs d p → CRow w g zs → B ≤ w.heap.size → qs.length ≤ 100000 - 10000 * d → PRow w B v qs →
    Calls Try.prog 136 #[v, .agg #[.slice (some ⟨g, 0, none⟩) zs.length c], .agg #[.int .i64 p.fr, .int .i64 p.lv, .int .i64 p.pg]] w fun e w' => Grew w B v (qs ++ belowL zs (nfr zs.length) d p) e w'
  | 0, _, p, v, qs, w, hp, hg, hB, hq, hv => by
    have hm := nfr_mul zs.length hz.n0
    have hle := nfr_le zs.length
    obtain ⟨a, b, c1, e, f, g1⟩ := hp
    have hl : p.lv = 3 := by omega
    exact add_last g zs c p hl B hgB 100000 (by omega) v qs (by omega) w hg hB hv
  | d + 1, hd, p, v, qs, w, hp, hg, hB, hq, hv => by
    have hm := nfr_mul zs.length hz.n0
    have hle := nfr_le zs.length
    have hp' := hp
    obtain ⟨a, b, c1, e, f, g1⟩ := hp'
    refine add_step g zs c p p.fr.toNat (by omega) (by omega) (by omega) hcc b (by omega) f g1 (belowL zs (nfr zs.length) d) ?_ (nfr zs.length) hm.1
      (fun i hi w => implDecode_any p.lv (wordAt zs p.fr i) (hz.rng _).1 (hz.rng _).2 w) B hgB (100000 - 10000 * (d + 1)) (by omega) ?_ v qs hq w hg hB hv
    · intro q
      have := belowL_length zs (nfr zs.length) d q
      have : bnd d ≤ 17 := by
        rcases (show d = 0 ∨ d = 1 by omega) with rfl | rfl <;> decide
      omega
    · intro i w v qs hi hl hg hB hq hv
      exact implAdd_any g zs c hz hcc B hgB d (by omega) (under zs p i) v qs w (okP_under hp i hi hl) hg hB (by omega) hv
end Go.Proofs.Ytnmhkgmmpkjjeaa
namespace Go.Proofs.Ytnmhkgmmpkjjeaa
open Go.ChangeShapes Go.WideShapes Go.ChangeAt Go.RowKit
set_option linter.unusedVariables false

theorem psOk_plist (zs : List Int) (hz : OkMem zs) : PsOk zs (plist zs) := by
  have hm := nfr_mul zs.length hz.n0
  refine ⟨plist_length zs, ?_, ?_⟩
  · unfold plist
    rw [if_neg hz.n0]
    simp [belowL, downs]
  · intro i hi
    have hmem : pAt (plist zs) i ∈ plist zs := by
      unfold pAt
      rw [List.getD_eq_getElem?_getD, List.getElem?_eq_getElem hi]
      exact List.getElem_mem hi
    have e : plist zs = belowL zs (nfr zs.length) 2 ⟨0, 1, 0⟩ := by unfold plist; rw [if_neg hz.n0]
    rw [e] at hmem
    obtain ⟨d', h⟩ := belowL_ok 2 ⟨0, 1, 0⟩ ⟨rfl, by simp, by simp, by show (0 : Int) < _; omega, by simp, by simp⟩ _ hmem
    obtain ⟨_, _, a, b, _, _⟩ := h
    refine ⟨(pAt (plist zs) i).fr.toNat, ?_, ?_⟩
    · rw [e]; omega
    · rw [e]; omega

theorem okRoot (zs : List Int) (hz : OkMem zs) : OkP zs 2 ⟨0, 1, 0⟩ := by
  have hm := nfr_mul zs.length hz.n0
  exact ⟨rfl, by simp, by simp, by show (0 : Int) < _; omega, by simp, by simp⟩

/-- What both Places answer. -/
def PlacesPost (zs : List Int) (w : World) (e : Ending) (w' : World) : Prop :=
  ∃ a c', e = .returned (.tuple #[.slice a (plist zs).length c', .bool (ptree zs)]) ∧ PRow w' w.heap.size (.slice a (plist zs).length c') (plist zs) ∧ Below w.heap.size w w'

theorem specPlaces_any (g : Nat) (zs : List Int) (c : Nat) (hn : zs.length ≤ 1048576) (hr : ∀ i, 0 ≤ zs.getD i 0 ∧ zs.getD i 0 < 2 ^ 64) (w : World) (hg : CRow w g zs) :
    Calls Try.prog 10 #[.agg #[.slice (some ⟨g, 0, none⟩) zs.length c]] w fun e w' => PlacesPost zs w e w' := by
  unfold PlacesPost ptree
  by_cases h0 : nfr zs.length = 0
  · have e : plist zs = [] := by unfold plist; rw [if_pos h0]
    rw [e]
    simp only [h0, decide_true, Bool.not_true, Bool.false_and]
    exact specPlaces_no g zs.length c hn h0 w
  · have hz : OkMem zs := ⟨h0, hr⟩
    have hm := nfr_mul zs.length h0
    have hle := nfr_le zs.length
    have e : plist zs = belowL zs (nfr zs.length) 2 ⟨0, 1, 0⟩ := by unfold plist; rw [if_neg h0]
    simp only [h0, decide_false, Bool.not_false, Bool.true_and]
    refine specPlaces_yes g zs c (nfr zs.length) (plist zs) rfl h0 (by omega) (psOk_plist zs hz) ?_ ?_ w hg
    · intro i k hi hk w
      exact specDecode_any _ _ (hr _).1 (hr _).2 w
    · intro w hg
      have := specBelow_any g zs c hz 2 (by omega) ⟨0, 1, 0⟩ w (okRoot zs hz) hg
      rw [← e] at this
      exact this

theorem placesOf_any (g : Nat) (zs : List Int) (c : Nat) (hz : OkMem zs) (hcc : zs.length ≤ c) (w : World) (hg : CRow w g zs) :
    Calls Try.prog 72 #[.agg #[.slice (some ⟨g, 0, none⟩) zs.length c]] w fun e w' => ∃ g' c', e = .returned (.slice (some ⟨g', 0, none⟩) (plist zs).length c') ∧ PRow w' w.heap.size (.slice (some ⟨g', 0, none⟩) (plist zs).length c') (plist zs) ∧ Below w.heap.size w w' := by
  have e : plist zs = belowL zs (nfr zs.length) 2 ⟨0, 1, 0⟩ := by unfold plist; rw [if_neg hz.n0]
  have hadd := implAdd_any g zs c hz hcc w.heap.size hg.lt 2 (by omega) ⟨0, 1, 0⟩ (.slice none 0 0) []
  rw [← e] at hadd
  have hok := okRoot zs hz
  generalize plist zs = ps at *
  obtain ⟨wb, hwb⟩ : ∃ wb, wb = w.alloc (.cells #[.slice (some ⟨g, 0, none⟩) zs.length c] 25) := ⟨_, rfl⟩
  have hbb : Below w.heap.size w wb := by rw [hwb]; exact (Below.refl _ _).alloc (Nat.le_refl _) _
  have hzb : wb.heap.size = w.heap.size + 1 := by rw [hwb]; simp
  have h1 := hadd wb hok (hg.below hbb hg.lt) (by omega) (by simp) (World.ownsRow_nil _ _ _ _)
  have HBB : Hid (Below _ _ _) := hbb
  have HWB : Hid (wb = _) := hwb
  rw [hwb] at h1
  clear hadd hbb hwb e hok hz
  go_enter Try.func72, Try.ntmps72
  go_wp2_with fail
  refine h1.mono ?_
  rintro e w2 ⟨g2, c2, rfl, hp2, hgr2, _⟩
  have hgr2' : wb.grownBy w2 none := by rw [HWB.out]; exact hgr2
  have hb2 : Below wb.heap.size wb w2 := ⟨hgr2'.os, hgr2'.tape, hgr2'.output, hgr2'.size, fun k hk => hgr2'.block k hk (by simp)⟩
  have HP2 : Hid (PRow _ _ _ _) := hp2
  have HB2 : Hid (Below w.heap.size w w2) := HBB.out.trans (hb2.mono (by omega))
  clear hgr2 hgr2' hb2 hp2 h1
  go_wp2_with fail
  go_ret
  exact ⟨g2, c2, rfl, HP2.out, HB2.out⟩

end Go.Proofs.Ytnmhkgmmpkjjeaa
namespace Go.Proofs.Ytnmhkgmmpkjjeaa
open Go.ChangeShapes Go.WideShapes Go.ChangeAt Go.RowKit
set_option linter.unusedVariables false
set_option maxRecDepth 100000
attribute [local go_sem ↓] Go.wp_at_zero Go.wp_at_succ

/-! A memory with one word changed, or its size. -/
def spW (zs : List Int) (at_ : Nat) (x : Int) : Int := bits .xor .u64 (zs.getD at_ 0) (1 + 2 * (x % 2) + 64 * (x % 3))
def spAt (zs : List Int) (at_ : Nat) (x : Int) : Nat := if (plist zs).length = 0 then at_ else ((pAt (plist zs) (x.toNat % (plist zs).length)).fr * 16 + ((at_ % 16 : Nat) : Int)).toNat
def spoilL (zs : List Int) (a : Int) (at_ : Nat) (x : Int) : List Int :=
  if a = 0 then zs ++ [0] else if a = 1 then [] else if a < 5 then zs.set (spAt zs at_ x) (encI 1 1 ((x + a) % ((zs.length / 16 : Nat) + 1)) 0)
  else zs.set at_ (spW zs at_ x)
def spoilZ (cs : List Int) (p : Nat) (zs : List Int) : List Int := spoilL zs (tkV cs p 8) (tkV cs (p + 1) zs.length).toNat (tkV cs (p + 2) 64)
theorem spW_bd (zs : List Int) (at_ : Nat) (x : Int) : 0 ≤ spW zs at_ x ∧ spW zs at_ x < 2 ^ 64 := by
  unfold spW
  have e : ∀ u v : Int, bits .xor .u64 u v = IntKind.u64.wrap ((BitVec.ofInt 64 u ^^^ BitVec.ofInt 64 v).toNat : Int) := fun u v => rfl
  rw [e, IntKind.wrap_u64]
  omega
theorem spoilL_ok (zs : List Int) (a : Int) (at_ : Nat) (x : Int) (h : Wrd zs) : Wrd (spoilL zs a at_ x) ∧ (spoilL zs a at_ x).length ≤ zs.length + 1 := by
  unfold spoilL
  split
  · refine ⟨fun i => ?_, by simp⟩
    rw [getD_app]
    split
    · omega
    · exact h i
  · split
    · exact ⟨fun i => by simp, by simp⟩
    · split
      · exact ⟨h.set _ _ (encI_bd _ _ _ _).1 (encI_bd _ _ _ _).2, by simp⟩
      · exact ⟨h.set _ _ (spW_bd _ _ _).1 (spW_bd _ _ _).2, by simp⟩

theorem ERow.setW {w : World} {b g c i : Nat} {zs : List Int} {v : Int} (h : ERow eWord w b (.slice (some ⟨g, 0, none⟩) zs.length c) zs) (hi : i < zs.length) : ERow eWord (w.setCell ⟨g, i, none⟩ (.int .u64 v)) b (.slice (some ⟨g, 0, none⟩) zs.length c) (zs.set i v) := by
  rcases h.2 with ⟨e, h0⟩ | ⟨g', cap, cur, e, hb, hg, hn, hm, hs, ht⟩
  · cases e
  · simp only [Value.slice.injEq, Option.some.injEq, Addr.mk.injEq, and_true, true_and] at e
    obtain ⟨rfl, rfl⟩ := e
    obtain ⟨a, c', e', hf⟩ := eWord_form h
    simp only [Value.slice.injEq, true_and] at e'
    obtain ⟨rfl, rfl⟩ := e'
    have hr : w.rowIs g 61 cur.size (fun i => cur.getD i (.bool false)) := ⟨cur, hg, rfl, fun i hi => by simp [hi]⟩
    have hs' : cur.size = c * eWord.sz := hs
    have hs1 : cur.size = c := by rw [hs']; show c * 1 = c; omega
    refine ERow.of_row (cap := c) (by simp) hb (hr.set i (.int .u64 v)) hs' (by simpa using hn) hm ?_
    intro j hj l hl
    have hl0 : l = 0 := by simp [eWord] at hl; omega
    subst hl0
    have e1 : j * eWord.sz + 0 = j := by show j * 1 + 0 = j; omega
    rw [e1]
    have e2 : eCell eWord (zs.set i v) j 0 = .int .u64 ((zs.set i v).getD j 0) := by simp [eCell, eWord, eAt]
    rw [e2, getD_set]
    by_cases eij : j = i
    · rw [if_pos eij, if_pos ⟨eij, hi⟩]
    · rw [if_neg eij, if_neg (by simp [eij])]
      obtain ⟨g2, N, f, p1, _, r, s, t⟩ := hf (by omega)
      simp only [Option.some.injEq, Addr.mk.injEq, and_true] at p1
      subst p1
      have h1 := r.cell (i := j) (by omega)
      have h2 := hr.cell (i := j) (by omega)
      rw [h1, t j (by simpa using hj)] at h2
      exact (Option.some.inj h2).symm
theorem eword_cell {w : World} {b g c i : Nat} {zs : List Int} (h : ERow eWord w b (.slice (some ⟨g, 0, none⟩) zs.length c) zs) (hi : i < zs.length) : w.cell? ⟨g, i, none⟩ = some (.int .u64 (zs.getD i 0)) ∧ w.frozen? ⟨g, i, none⟩ = false ∧ g < w.heap.size ∧ b ≤ g := by
  obtain ⟨a, c', e', hf⟩ := eWord_form h
  simp only [Value.slice.injEq, true_and] at e'
  obtain ⟨rfl, rfl⟩ := e'
  obtain ⟨g2, N, f, p1, hb, r, s, t⟩ := hf (by omega)
  simp only [Option.some.injEq, Addr.mk.injEq, and_true] at p1
  subst p1
  exact ⟨by rw [r.cell (i := i) (by omega), t i hi], r.frozen i, r.lt, hb⟩
theorem ERow.crow {w : World} {b g c : Nat} {zs : List Int} (h : ERow eWord w b (.slice (some ⟨g, 0, none⟩) zs.length c) zs) : CRow w g zs :=
  ⟨(h.own g rfl).2, fun i hi => (eword_cell h hi).1⟩

/-- The copy in the making. -/
structure CW (w wr : World) (g c k : Nat) (zs : List Int) : Prop where
  bel : Below w.heap.size w wr
  row : wr.ownsRow w.heap.size 61 1 (.slice (some ⟨g, 0, none⟩) k c) k (ecells eWord (zs.take k))
  le : k ≤ zs.length
theorem CW.all {w wr : World} {g c k : Nat} {zs : List Int} (h : CW w wr g c k zs) (hk : k = zs.length) : ERow eWord wr w.heap.size (.slice (some ⟨g, 0, none⟩) zs.length c) zs := by
  subst hk
  have := h.row
  rw [List.take_length] at this
  exact this
theorem CW.push {w wr wn : World} {g c k g1 c1 : Nat} {zs : List Int} {o : Obj} (h : CW w wr g c k zs) (hk : k < zs.length)
    (hown : wn.ownsRow w.heap.size 61 1 (.slice (some ⟨g1, 0, none⟩) (k + 1) c1) (k + 1) (ecells eWord (zs.take k) ++ [.int .u64 (zs.getD k 0)]))
    (hgrow : (wr.alloc o).grownBy wn (Value.ownBlock (.slice (some ⟨g, 0, none⟩) k c))) : CW w wn g1 c1 (k + 1) zs := by
  refine ⟨(h.bel.alloc h.bel.size _).grown hgrow (by have := h.bel.size; simp; omega) (fun q hq => (World.ownsRow.lt h.row q hq).1), ?_, hk⟩
  rw [take_snocE eWord zs k hk, ecells_append]
  exact hown
end Go.Proofs.Ytnmhkgmmpkjjeaa
