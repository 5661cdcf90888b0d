import Derived.Test.YtnmhkgmmpkjjeabUState
import Derived.Laws.Cover3
namespace Go.Proofs.Ytnmhkgmmpkjjeab
open Go.ChangeShapes Go.WideShapes Go.ChangeAt Go.RowKit
set_option linter.unusedVariables false
attribute [local go_sem ↓] Go.wp_at_zero Go.wp_at_succ

theorem run_eql_slice_nil {P : Program} (w : World) (t e : TypeId) (a : Option Addr) (l c : Nat) (h : P.underlying t = some (.slice e)) : (binOp .eql t (.slice a l c) (.slice none 0 0)).run P w = .ok (.bool a.isNone) w := by
  simp [binOp, go_sem, run_equal_slice_nil w t e a l c h]
theorem addr_add (g j : Nat) : (⟨g, 0, none⟩ : Addr).add j = ⟨g, j, none⟩ := by
  unfold Addr.add
  split
  · rename_i h; subst h; rfl
  · simp
/-- The cells of a row, one by one, at its block. -/
theorem ERow.news {α : Type} {E : Elt α} {w : World} {base g n c : Nat} {xs : List α} (h : ERow E w base (.slice (some ⟨g, 0, none⟩) n c) xs) : n = xs.length ∧ ∀ j u, (ecells E xs)[j]? = some u → w.cell? ((⟨g, 0, none⟩ : Addr).add j) = some u := by
  rcases h.2 with ⟨e, _⟩ | ⟨g', cap, cur, e, hb, hg, hn, hm, hs, ht⟩
  · cases e
  · simp only [Value.slice.injEq, Option.some.injEq, Addr.mk.injEq, and_true] at e
    obtain ⟨rfl, rfl, rfl⟩ := e
    refine ⟨rfl, fun j u hj => ?_⟩
    rw [← ht, List.getElem?_take] at hj
    split at hj
    · simp only [Array.getElem?_toList] at hj
      rw [addr_add]
      simp [World.cell?, hg, hj]
    · cases hj

set_option maxRecDepth 100000 in
theorem cloneW_any (a : Option Addr) (c b : Nat) (xs : List Int) (w : World) (hn : xs.length ≤ 1048576) (h : ERow eWord w b (.slice a xs.length c) xs) :
    Calls Try.prog 142 #[.slice a xs.length c] w fun r w' => ∃ a' c', r = .returned (.slice a' xs.length c') ∧ ERow eWord w' w.heap.size (.slice a' xs.length c') xs ∧ Below w.heap.size w w' := by
  obtain ⟨iE, hiE, hz0, hz1, hz2⟩ := info_parts info_u64
  have h1 : ∀ u ∈ ecells eWord xs, u.oneCell' = true := by
    intro u hu
    simp only [ecells, List.mem_flatMap] at hu
    obtain ⟨x, _, hx⟩ := hu
    simp [eWord] at hx
    subst hx; rfl
  have hl := ecells_length eWord xs
  have hl' : (ecells eWord xs).length = xs.length * 1 := hl
  rcases h.2 with ⟨e, h0⟩ | ⟨g, cap, cur, e, hb, hg, hm, hmm, hs, ht⟩
  · simp only [Value.slice.injEq] at e
    obtain ⟨rfl, _, rfl⟩ := e
    have hx : xs = [] := List.length_eq_zero_iff.1 h0
    subst hx
    have heq : ∀ w, (binOp .eql 22 (.slice none 0 0) (.slice none 0 0)).run Try.prog w = .ok (.bool true) w := fun w => run_eql_slice_nil w _ _ _ _ _ Try.underlying22
    clear h h1 hl hl'
    go_enter Try.func142, Try.ntmps142
    go_wp2_with fail
    go_ret
    exact ⟨none, 0, rfl, ⟨by simp [ecells], .inl ⟨rfl, rfl⟩⟩, Below.refl _ _⟩
  · simp only [Value.slice.injEq] at e
    obtain ⟨rfl, _, rfl⟩ := e
    obtain ⟨_, hnews⟩ := h.news
    have hgl := (h.ownA g rfl).2
    have HN : Hid (∀ j u, (ecells eWord xs)[j]? = some u → (w.alloc (.cells #[] 84)).cell? ((⟨g, 0, none⟩ : Addr).add j) = some u) := fun j u hj => by
      have h3 := hnews j u hj
      rw [addr_add] at h3 ⊢
      rw [World.cell?_alloc_lt _ _ _ (by simpa using hgl)]
      exact h3
    have H1 : Hid _ := h1
    have HL : Hid ((ecells eWord xs).length = xs.length * 1) := hl'
    have HOWN : Hid ((w.alloc (.cells #[] 84)).ownsRow w.heap.size 84 1 (.slice (some ⟨w.heap.size, 0, none⟩) 0 0) 0 []) := ⟨rfl, .inr ⟨w.heap.size, 0, #[], rfl, Nat.le_refl _, heap_alloc_new w _, Nat.le_refl _, by unfold maxLen; omega, rfl, rfl⟩⟩
    have heq : ∀ w, (binOp .eql 22 (.slice (some ⟨g, 0, none⟩) xs.length c) (.slice none 0 0)).run Try.prog w = .ok (.bool false) w := fun w => run_eql_slice_nil w _ _ _ _ _ Try.underlying22
    clear h h1 hl hl' hnews hg ht hs hmm hm hb
    go_enter Try.func142, Try.ntmps142
    go_wp2_with (at_builtin; refine wpList_append_own _ rfl (.tmp 5) (.tmp 6) 22 rfl w.heap.size 84 iE _ 1 8 Try.underlying22 hiE hz0 hz1 hz2 rfl (by omega) _ 0 [] rfl HOWN.out ⟨g, 0, none⟩ xs.length c (ecells eWord xs) rfl HL.out HN.out H1.out (by unfold maxLen; omega) (by omega) (by simp) ?_)
    intro v' wn hown hgrow _
    have hnew : ERow eWord wn w.heap.size v' xs := hown
    have hbn : Below w.heap.size w wn := ((Below.refl _ _).alloc (Nat.le_refl _) _).grown hgrow (by simp) (fun q hq => by simp [Value.ownBlock] at hq; omega)
    obtain ⟨a', c', rfl, _⟩ := hnew.form
    have HNEW : Hid _ := hnew
    have HBN : Hid _ := hbn
    clear hown hgrow hnew hbn
    go_wp2_with fail
    go_ret
    exact ⟨a', c', rfl, HNEW.out, HBN.out⟩

set_option maxRecDepth 100000 in
theorem cloneP_any (a : Option Addr) (c b : Nat) (xs : List WriteE) (w : World) (hn : xs.length ≤ 1048576) (h : ERow eWrite w b (.slice a xs.length c) xs) :
    Calls Try.prog 143 #[.slice a xs.length c] w fun r w' => ∃ a' c', r = .returned (.slice a' xs.length c') ∧ ERow eWrite w' w.heap.size (.slice a' xs.length c') xs ∧ Below w.heap.size w w' := by
  obtain ⟨iE, hiE, hz0, hz1, hz2⟩ := info_parts infoWrite
  have h1 : ∀ u ∈ ecells eWrite xs, u.oneCell' = true := by
    intro u hu
    simp only [ecells, List.mem_flatMap] at hu
    obtain ⟨x, _, hx⟩ := hu
    simp [eWrite] at hx
    rcases hx with rfl | rfl <;> rfl
  have hl := ecells_length eWrite xs
  have hl' : (ecells eWrite xs).length = xs.length * 2 := hl
  rcases h.2 with ⟨e, h0⟩ | ⟨g, cap, cur, e, hb, hg, hm, hmm, hs, ht⟩
  · simp only [Value.slice.injEq] at e
    obtain ⟨rfl, _, rfl⟩ := e
    have hx : xs = [] := List.length_eq_zero_iff.1 h0
    subst hx
    have heq : ∀ w, (binOp .eql 47 (.slice none 0 0) (.slice none 0 0)).run Try.prog w = .ok (.bool true) w := fun w => run_eql_slice_nil w _ _ _ _ _ Try.underlying47
    clear h h1 hl hl'
    go_enter Try.func143, Try.ntmps143
    go_wp2_with fail
    go_ret
    exact ⟨none, 0, rfl, ⟨by simp [ecells], .inl ⟨rfl, rfl⟩⟩, Below.refl _ _⟩
  · simp only [Value.slice.injEq] at e
    obtain ⟨rfl, _, rfl⟩ := e
    obtain ⟨_, hnews⟩ := h.news
    have hgl := (h.ownA g rfl).2
    have HN : Hid (∀ j u, (ecells eWrite xs)[j]? = some u → (w.alloc (.cells #[] 178)).cell? ((⟨g, 0, none⟩ : Addr).add j) = some u) := fun j u hj => by
      have h3 := hnews j u hj
      rw [addr_add] at h3 ⊢
      rw [World.cell?_alloc_lt _ _ _ (by simpa using hgl)]
      exact h3
    have H1 : Hid _ := h1
    have HL : Hid ((ecells eWrite xs).length = xs.length * 2) := hl'
    have HOWN : Hid ((w.alloc (.cells #[] 178)).ownsRow w.heap.size 178 2 (.slice (some ⟨w.heap.size, 0, none⟩) 0 0) 0 []) := ⟨rfl, .inr ⟨w.heap.size, 0, #[], rfl, Nat.le_refl _, heap_alloc_new w _, Nat.le_refl _, by unfold maxLen; omega, rfl, rfl⟩⟩
    have heq : ∀ w, (binOp .eql 47 (.slice (some ⟨g, 0, none⟩) xs.length c) (.slice none 0 0)).run Try.prog w = .ok (.bool false) w := fun w => run_eql_slice_nil w _ _ _ _ _ Try.underlying47
    clear h h1 hl hl' hnews hg ht hs hmm hm hb
    go_enter Try.func143, Try.ntmps143
    go_wp2_with (at_builtin; refine wpList_append_own _ rfl (.tmp 5) (.tmp 6) 47 rfl w.heap.size 178 iE _ 2 16 Try.underlying47 hiE hz0 hz1 hz2 rfl (by omega) _ 0 [] rfl HOWN.out ⟨g, 0, none⟩ xs.length c (ecells eWrite xs) rfl HL.out HN.out H1.out (by unfold maxLen; omega) (by omega) (by simp) ?_)
    intro v' wn hown hgrow _
    have hnew : ERow eWrite wn w.heap.size v' xs := hown
    have hbn : Below w.heap.size w wn := ((Below.refl _ _).alloc (Nat.le_refl _) _).grown hgrow (by simp) (fun q hq => by simp [Value.ownBlock] at hq; omega)
    obtain ⟨a', c', rfl, _⟩ := hnew.form
    have HNEW : Hid _ := hnew
    have HBN : Hid _ := hbn
    clear hown hgrow hnew hbn
    go_wp2_with fail
    go_ret
    exact ⟨a', c', rfl, HNEW.out, HBN.out⟩
end Go.Proofs.Ytnmhkgmmpkjjeab
