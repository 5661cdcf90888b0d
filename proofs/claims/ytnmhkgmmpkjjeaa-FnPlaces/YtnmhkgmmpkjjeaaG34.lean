import Derived.Test.YtnmhkgmmpkjjeaaG33
import Derived.Test.YtnmhkgmmpkjjeaaG14
import Derived.Test.YtnmhkgmmpkjjeaaG02
namespace Go.Proofs.Ytnmhkgmmpkjjeaa
open Go.ChangeShapes Go.WideShapes Go.ChangeAt Go.RowKit
set_option linter.unusedVariables false
set_option maxRecDepth 100000
attribute [local go_sem ↓] Go.wp_at_zero Go.wp_at_succ

/-! A memory with one word changed, or its size. -/
def spW (zs : List Int) (at_ : Nat) (x : Int) : Int := bits .xor .u64 (zs.getD at_ 0) (1 + 2 * (x % 2) + 64 * (x % 3))
def spAt (zs : List Int) (at_ : Nat) (x : Int) : Nat := if (plist zs).length = 0 then at_ else ((pAt (plist zs) (x.toNat % (plist zs).length)).fr * 16 + ((at_ % 16 : Nat) : Int)).toNat
def spoilL (zs : List Int) (a : Int) (at_ : Nat) (x : Int) : List Int :=
  if a = 0 then zs ++ [0] else if a = 1 then [] else if a < 5 then zs.set (spAt zs at_ x) (encI 1 1 ((x + a) % ((zs.length / 16 : Nat) + 1)) 0)
  else zs.set at_ (spW zs at_ x)
def spoilZ (cs : List Int) (p : Nat) (zs : List Int) : List Int := spoilL zs (tkV cs p 8) (tkV cs (p + 1) zs.length).toNat (tkV cs (p + 2) 64)
theorem spW_bd (zs : List Int) (at_ : Nat) (x : Int) : 0 ≤ spW zs at_ x ∧ spW zs at_ x < 2 ^ 64 := by
  unfold spW
  have e : ∀ u v : Int, bits .xor .u64 u v = IntKind.u64.wrap ((BitVec.ofInt 64 u ^^^ BitVec.ofInt 64 v).toNat : Int) := fun u v => rfl
  rw [e, IntKind.wrap_u64]
  omega
theorem spoilL_ok (zs : List Int) (a : Int) (at_ : Nat) (x : Int) (h : Wrd zs) : Wrd (spoilL zs a at_ x) ∧ (spoilL zs a at_ x).length ≤ zs.length + 1 := by
  unfold spoilL
  split
  · refine ⟨fun i => ?_, by simp⟩
    rw [getD_app]
    split
    · omega
    · exact h i
  · split
    · exact ⟨fun i => by simp, by simp⟩
    · split
      · exact ⟨h.set _ _ (encI_bd _ _ _ _).1 (encI_bd _ _ _ _).2, by simp⟩
      · exact ⟨h.set _ _ (spW_bd _ _ _).1 (spW_bd _ _ _).2, by simp⟩

theorem ERow.setW {w : World} {b g c i : Nat} {zs : List Int} {v : Int} (h : ERow eWord w b (.slice (some ⟨g, 0, none⟩) zs.length c) zs) (hi : i < zs.length) : ERow eWord (w.setCell ⟨g, i, none⟩ (.int .u64 v)) b (.slice (some ⟨g, 0, none⟩) zs.length c) (zs.set i v) := by
  rcases h.2 with ⟨e, h0⟩ | ⟨g', cap, cur, e, hb, hg, hn, hm, hs, ht⟩
  · cases e
  · simp only [Value.slice.injEq, Option.some.injEq, Addr.mk.injEq, and_true, true_and] at e
    obtain ⟨rfl, rfl⟩ := e
    obtain ⟨a, c', e', hf⟩ := eWord_form h
    simp only [Value.slice.injEq, true_and] at e'
    obtain ⟨rfl, rfl⟩ := e'
    have hr : w.rowIs g 61 cur.size (fun i => cur.getD i (.bool false)) := ⟨cur, hg, rfl, fun i hi => by simp [hi]⟩
    have hs' : cur.size = c * eWord.sz := hs
    have hs1 : cur.size = c := by rw [hs']; show c * 1 = c; omega
    refine ERow.of_row (cap := c) (by simp) hb (hr.set i (.int .u64 v)) hs' (by simpa using hn) hm ?_
    intro j hj l hl
    have hl0 : l = 0 := by simp [eWord] at hl; omega
    subst hl0
    have e1 : j * eWord.sz + 0 = j := by show j * 1 + 0 = j; omega
    rw [e1]
    have e2 : eCell eWord (zs.set i v) j 0 = .int .u64 ((zs.set i v).getD j 0) := by simp [eCell, eWord, eAt]
    rw [e2, getD_set]
    by_cases eij : j = i
    · rw [if_pos eij, if_pos ⟨eij, hi⟩]
    · rw [if_neg eij, if_neg (by simp [eij])]
      obtain ⟨g2, N, f, p1, _, r, s, t⟩ := hf (by omega)
      simp only [Option.some.injEq, Addr.mk.injEq, and_true] at p1
      subst p1
      have h1 := r.cell (i := j) (by omega)
      have h2 := hr.cell (i := j) (by omega)
      rw [h1, t j (by simpa using hj)] at h2
      exact (Option.some.inj h2).symm
theorem eword_cell {w : World} {b g c i : Nat} {zs : List Int} (h : ERow eWord w b (.slice (some ⟨g, 0, none⟩) zs.length c) zs) (hi : i < zs.length) : w.cell? ⟨g, i, none⟩ = some (.int .u64 (zs.getD i 0)) ∧ w.frozen? ⟨g, i, none⟩ = false ∧ g < w.heap.size ∧ b ≤ g := by
  obtain ⟨a, c', e', hf⟩ := eWord_form h
  simp only [Value.slice.injEq, true_and] at e'
  obtain ⟨rfl, rfl⟩ := e'
  obtain ⟨g2, N, f, p1, hb, r, s, t⟩ := hf (by omega)
  simp only [Option.some.injEq, Addr.mk.injEq, and_true] at p1
  subst p1
  exact ⟨by rw [r.cell (i := i) (by omega), t i hi], r.frozen i, r.lt, hb⟩
theorem ERow.crow {w : World} {b g c : Nat} {zs : List Int} (h : ERow eWord w b (.slice (some ⟨g, 0, none⟩) zs.length c) zs) : CRow w g zs :=
  ⟨(h.own g rfl).2, fun i hi => (eword_cell h hi).1⟩

/-- The copy in the making. -/
structure CW (w wr : World) (g c k : Nat) (zs : List Int) : Prop where
  bel : Below w.heap.size w wr
  row : wr.ownsRow w.heap.size 61 1 (.slice (some ⟨g, 0, none⟩) k c) k (ecells eWord (zs.take k))
  le : k ≤ zs.length
theorem CW.all {w wr : World} {g c k : Nat} {zs : List Int} (h : CW w wr g c k zs) (hk : k = zs.length) : ERow eWord wr w.heap.size (.slice (some ⟨g, 0, none⟩) zs.length c) zs := by
  subst hk
  have := h.row
  rw [List.take_length] at this
  exact this
theorem CW.push {w wr wn : World} {g c k g1 c1 : Nat} {zs : List Int} {o : Obj} (h : CW w wr g c k zs) (hk : k < zs.length)
    (hown : wn.ownsRow w.heap.size 61 1 (.slice (some ⟨g1, 0, none⟩) (k + 1) c1) (k + 1) (ecells eWord (zs.take k) ++ [.int .u64 (zs.getD k 0)]))
    (hgrow : (wr.alloc o).grownBy wn (Value.ownBlock (.slice (some ⟨g, 0, none⟩) k c))) : CW w wn g1 c1 (k + 1) zs := by
  refine ⟨(h.bel.alloc h.bel.size _).grown hgrow (by have := h.bel.size; simp; omega) (fun q hq => (World.ownsRow.lt h.row q hq).1), ?_, hk⟩
  rw [take_snocE eWord zs k hk, ecells_append]
  exact hown
end Go.Proofs.Ytnmhkgmmpkjjeaa
