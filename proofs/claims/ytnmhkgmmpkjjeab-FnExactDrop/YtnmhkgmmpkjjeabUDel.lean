import Derived.Test.YtnmhkgmmpkjjeabUState
import Derived.Test.YtnmhkgmmpkjjeabMDrop
import Derived.Deep.RegionHeld3
import Derived.Deep.RegionLaw
import Derived.Lib.SliceRun
namespace Go.Proofs.Ytnmhkgmmpkjjeab
open Go.ChangeShapes Go.WideShapes Go.ChangeAt Go.RowKit
set_option linter.unusedVariables false
attribute [local go_sem ↓] Go.wp_at_zero Go.wp_at_succ

theorem rowIs_setCells {b : Nat} {t : TypeId} {n : Nat} : ∀ (vs : List Value) (o : Nat) (w : World) (f : Nat → Value), w.rowIs b t n f → (w.setCells b o vs).rowIs b t n (fun j => if o ≤ j ∧ j < o + vs.length then vs.getD (j - o) (.bool false) else f j)
  | [], o, w, f, h => by
    refine h.congr (fun i hi => ?_)
    rw [if_neg (by simp only [List.length_nil]; omega)]
  | v :: r, o, w, f, h => by
    rw [World.setCells]
    refine (rowIs_setCells r (o + 1) _ _ (h.set o v)).congr (fun i hi => ?_)
    by_cases h1 : o + 1 ≤ i ∧ i < o + 1 + r.length
    · rw [if_pos h1, if_pos (by simp; omega)]
      obtain ⟨d, hd⟩ : ∃ d, i - o = d + 1 := ⟨i - o - 1, by omega⟩
      rw [hd, show i - (o + 1) = d by omega]
      simp
    · rw [if_neg h1]
      by_cases h2 : i = o
      · rw [if_pos h2, if_pos (by simp; omega), h2]
        simp
      · rw [if_neg h2, if_neg (by simp; omega)]
theorem grown_setCells (b : Nat) : ∀ (vs : List Value) (o : Nat) (w : World), w.grownBy (w.setCells b o vs) (some b)
  | [], o, w => ⟨rfl, rfl, rfl, Nat.le_refl _, fun _ _ _ => rfl⟩
  | v :: r, o, w => by
    rw [World.setCells]
    have h := grown_setCells b r (o + 1) (w.setCell ⟨b, o, none⟩ v)
    refine ⟨h.os, h.tape, h.output, by have := h.size; simpa using this, fun k hk hn => ?_⟩
    rw [h.block k (by simpa using hk) hn]
    exact Below.heap_setCell _ _ _ _ (fun e => hn (by simpa using e))
theorem grown_two {a b c : World} {row : Option Nat} (h : a.grownBy b row) (k : b.grownBy c row) : a.grownBy c row :=
  ⟨k.os.trans h.os, k.tape.trans h.tape, k.output.trans h.output, Nat.le_trans h.size k.size, fun i hi hn => (k.block i (Nat.lt_of_lt_of_le hi h.size) hn).trans (h.block i hi hn)⟩
theorem run_clear_one {P : Program} (w : World) (t e ty : TypeId) (z : Value) (zs : List Value) (ht : P.underlying t = some (.slice e)) (hv : ∀ w, (zeroValue e).run P w = .ok z w) (hz : (Builtin.zeroCells z.cells 1).toList = zs) (h1 : ∀ v ∈ zs, v.oneCell' = true) (b o c : Nat)
    (hc : ∀ j, j < zs.length → (w.cell? ⟨b, o + j, none⟩).isSome = true) (hf : ∀ j, j < zs.length → w.frozen? ⟨b, o + j, none⟩ = false) :
    (Builtin.clear_ #[t] ty #[.slice (some ⟨b, o, none⟩) 1 c]).run P w = .ok (.tuple #[]) (w.setCells b o zs) := by
  have hst := run_storeCells_cells (P := P) b o zs 0 w (by simpa using hc) (by simpa using hf) h1
  simp only [Nat.add_zero] at hst
  simp [Builtin.clear_, run_underlying ht, hv, hz, hst]
theorem eAt_cut {α : Type} (E : Elt α) (xs : List α) (k i : Nat) (hk : k < xs.length) (hi : i < xs.length - 1) : eAt E (xs.take k ++ xs.drop (k + 1)) i = eAt E xs (if i < k then i else i + 1) := by
  unfold eAt
  simp only [List.getD_eq_getElem?_getD]
  by_cases h : i < k
  · rw [if_pos h, List.getElem?_append_left (by rw [List.length_take]; omega), List.getElem?_take, if_pos h]
  · rw [if_neg h, List.getElem?_append_right (by rw [List.length_take]; omega), List.getElem?_drop, List.length_take, show k + 1 + (i - min k xs.length) = i + 1 by omega]
theorem cut_length {α : Type} (xs : List α) (k : Nat) (hk : k < xs.length) : (xs.take k ++ xs.drop (k + 1)).length = xs.length - 1 := by
  rw [List.length_append, List.length_take, List.length_drop]; omega

theorem oneT (ys : List TlbE) : ∀ u ∈ ecells eTE ys, u.oneCell' = true := by
  intro u hu
  unfold ecells at hu
  rw [List.mem_flatMap] at hu
  obtain ⟨x, _, hx⟩ := hu
  have hx' : u ∈ [.int .i64 x.page, .int .i64 x.size, .bool x.doom, .int .i64 x.out, .int .i64 x.perm] := hx
  simp only [List.mem_cons, List.not_mem_nil, or_false] at hx'
  rcases hx' with rfl | rfl | rfl | rfl | rfl <;> rfl
theorem zeroT (w : World) : (zeroValue 193).run Try.prog w = .ok (.agg #[.int .i64 0, .int .i64 0, .bool false, .int .i64 0, .int .i64 0]) w := by
  obtain ⟨iE, hiE, hz0, hz1, hz2⟩ := info_parts infoTE
  simp [zeroValue, typeInfo, hiE, hz0]
set_option maxRecDepth 100000 in
set_option maxHeartbeats 2000000 in
theorem delT_any (g cap k B n1 : Nat) (xs : List TlbE) (w : World) (hn1 : xs.length = n1 + 1) (hk : k < n1 + 1) (hn : n1 + 1 ≤ 256) (hv : ERow eTE w B (.slice (some ⟨g, 0, none⟩) xs.length cap) xs) :
    Calls Try.prog 186 #[.slice (some ⟨g, 0, none⟩) (n1 + 1) cap, .int .i64 (k : Int), .int .i64 ((k : Int) + 1)] w fun r w' => r = .returned (.slice (some ⟨g, 0, none⟩) n1 cap) ∧ ERow eTE w' B (.slice (some ⟨g, 0, none⟩) n1 cap) (xs.take k ++ xs.drop (k + 1)) ∧ w.grownBy w' (some g) := by
  obtain ⟨iE, hiE, hz0, hz1, hz2⟩ := info_parts infoTE
  obtain ⟨hB, hnc0, hmx, f, hr, hf⟩ : B ≤ g ∧ xs.length ≤ cap ∧ cap ≤ maxLen ∧ ∃ f, w.rowIs g 193 (cap * 5) f ∧ ∀ i, i < xs.length → ∀ j, j < 5 → f (i * 5 + j) = eCell eTE xs i j := by
    rcases hv.2 with ⟨e, _⟩ | ⟨g', cap', cur, e, hb, hg, h1, h2, h3, h4⟩
    · cases e
    · simp only [Value.slice.injEq, Option.some.injEq, Addr.mk.injEq] at e
      obtain ⟨⟨rfl, _⟩, _, rfl⟩ := e
      refine ⟨hb, h1, h2, fun i => cur.getD i (.bool false), ⟨cur, hg, h3, fun i hi => ?_⟩, fun i hi j hj => ?_⟩
      · rw [Array.getElem?_eq_getElem (by rw [h3]; exact hi)]
        simp [Array.getD_eq_getD_getElem?, Array.getElem?_eq_getElem (show i < cur.size by rw [h3]; exact hi)]
      · have hu := ecells_at eTE xs i hi j hj
        have hlt : i * 5 + j < xs.length * 5 := by omega
        have ht : cur.toList.take (xs.length * 5) = ecells eTE xs := h4
        have hu' : (ecells eTE xs)[i * 5 + j]? = (eTE.enc (eAt eTE xs i))[j]? := hu
        rw [← ht, List.getElem?_take, if_pos hlt] at hu'
        simp only [Array.getElem?_toList] at hu'
        simp [Array.getD_eq_getD_getElem?, hu', eCell]
  have hnc : n1 + 1 ≤ cap := by omega
  obtain ⟨news, hnews⟩ : ∃ news, news = ecells eTE (xs.drop (k + 1)) := ⟨_, rfl⟩
  have hnl : news.length = (n1 + 1 - (k + 1)) * 5 := by
    rw [hnews, ecells_length, List.length_drop, hn1]
    rfl
  have hone : ∀ u ∈ news, u.oneCell' = true := by rw [hnews]; exact oneT _
  have hnat : ∀ q j, q < n1 - k → j < 5 → news.getD (q * 5 + j) (.bool false) = eCell eTE xs (k + 1 + q) j := by
    intro q j hq hj
    have h1 := ecells_at eTE (xs.drop (k + 1)) q (by rw [List.length_drop]; omega) j hj
    have h2 : eAt eTE (xs.drop (k + 1)) q = eAt eTE xs (k + 1 + q) := by
      unfold eAt
      simp only [List.getD_eq_getElem?_getD, List.getElem?_drop]
    have h1' : news[q * 5 + j]? = (eTE.enc (eAt eTE xs (k + 1 + q)))[j]? := by rw [hnews, ← h2]; exact h1
    rw [List.getD_eq_getElem?_getD, h1']
    rfl
  obtain ⟨AD, hAD⟩ : ∃ AD : Addr, (if cap = k + 1 then some (⟨g, 0, none⟩ : Addr) else some ⟨g, (k + 1) * 5, none⟩) = some AD := by
    by_cases h : cap = k + 1
    · exact ⟨_, if_pos h⟩
    · exact ⟨_, if_neg h⟩
  have hADF : 0 < n1 - k → AD = ⟨g, (k + 1) * 5, none⟩ := fun h => by
    rw [if_neg (by omega)] at hAD
    simpa using hAD.symm
  have hc1 : ∀ j u, news[j]? = some u → w.cell? (AD.add j) = some u := by
    intro j u hu
    have hj : j < news.length := (List.getElem?_eq_some_iff.1 hu).1
    rw [hADF (by omega)]
    have e : j = j / 5 * 5 + j % 5 := by omega
    have h1 := hnat (j / 5) (j % 5) (by omega) (by omega)
    rw [← e, List.getD_eq_getElem?_getD, hu] at h1
    have h2 := hr.cell (i := (k + 1) * 5 + j) (by omega)
    have h3 := hf (k + 1 + j / 5) (by omega) (j % 5) (by omega)
    rw [show (k + 1 + j / 5) * 5 + j % 5 = (k + 1) * 5 + j by omega] at h3
    rw [h3, ← h1] at h2
    rw [add_plain]
    exact h2
  have hc2 : ∀ j, j < news.length → (w.cell? ⟨g, 0 + k * 5 + j, none⟩).isSome = true ∧ w.frozen? ⟨g, 0 + k * 5 + j, none⟩ = false := fun j hj =>
    ⟨by rw [hr.cell (i := 0 + k * 5 + j) (by omega)]; rfl, hr.frozen _⟩
  have HC1 : Hid _ := hc1
  have HC2 : Hid _ := hc2
  have HNAT : Hid _ := hnat
  have a1 : (0 : Int) ≤ (k : Int) := by omega
  have a2 : (k : Int) ≤ (k : Int) + 1 := by omega
  have a3 : (k : Int) + 1 ≤ (n1 : Int) + 1 := by omega
  have a4 : (n1 : Int) + 1 ≤ (cap : Int) := by omega
  have a5 : ((k : Int) == (k : Int) + 1) = false := by simp only [beq_eq_false_iff_ne]; omega
  have a6 : (0 : Int) ≤ (k : Int) + 1 := by omega
  have b1 : k ≤ cap := by omega
  have b2 : k + 1 ≤ n1 + 1 := by omega
  have b3 : k ≤ n1 := by omega
  have HF : Hid _ := hf
  have HR : Hid (w.rowIs g 193 (cap * 5) f) := hr
  have HN1 : Hid (xs.length = n1 + 1) := hn1
  have HADF : Hid _ := hADF
  clear hv hf hr hnews hnat hc1 hc2 hn1 hADF hnc0
  go_enter Try.func186, Try.ntmps186
  go_upto_region 5 with fail
  refine wp_region_held_drew (S := fun _ => True) (by kernel_rfl) (trivial) (fun hHeld => ?_)
  refine tk 0 ?_
  refine tk 1 ?_
  refine tk 2 ?_
  refine tk 3 ?_
  refine tk 4 ?_
  refine tk 5 ?_
  refine wpAnyH_ready (rs := [6]) (by kernel_rfl) (by simp) ?_
  refine AllReadyH.cons rfl (fun K hK => ?_) AllReadyH.nil
  refine step_append_room rfl (.tmp 22) (.tmp 25) 94 rfl 193 iE 5 Try.underlying94 hiE hz1 g 0 k cap rfl AD _ _ news rfl (by rw [hnl]; first | rfl | (simp; done) | omega) HC1.out hone (by omega) HC2.out ?_
  refine hK.out _ _ trivial (fun _ => ?_)
  clear hK K
  refine tk 7 ?_
  refine wpAnyH_done (by kernel_rfl) ?_ _
  obtain ⟨w1, hw1⟩ : ∃ w1, w1 = w.drew.setCells g (0 + k * 5) news := ⟨_, rfl⟩
  rw [← hw1]
  have hr1 : w1.rowIs g 193 (cap * 5) (fun j => if 0 + k * 5 ≤ j ∧ j < 0 + k * 5 + news.length then news.getD (j - (0 + k * 5)) (.bool false) else f j) := by
    rw [hw1]
    exact rowIs_setCells news _ w.drew f HR.out.drew
  have hg1 : w.grownBy w1 (some g) := by
    rw [hw1]
    have h := grown_setCells g news (0 + k * 5) w.drew
    exact ⟨h.os, h.tape, h.output, h.size, h.block⟩
  have hclr : ∀ ty, (Builtin.clear_ #[94] ty #[.slice (some ⟨g, n1 * 5, none⟩) 1 (cap - n1)]).run Try.prog w1 = .ok (.tuple #[]) (w1.setCells g (n1 * 5) [.int .i64 0, .int .i64 0, .bool false, .int .i64 0, .int .i64 0]) := fun ty =>
    run_clear_one w1 94 193 ty (.agg #[.int .i64 0, .int .i64 0, .bool false, .int .i64 0, .int .i64 0]) [.int .i64 0, .int .i64 0, .bool false, .int .i64 0, .int .i64 0] Try.underlying94 zeroT (by first | kernel_rfl | (simp [Builtin.zeroCells, Value.cells]; done)) (by intro v hv; simp only [List.mem_cons, List.not_mem_nil, or_false] at hv; rcases hv with rfl | rfl | rfl | rfl | rfl <;> rfl) g (n1 * 5) (cap - n1)
      (fun j hj => by
        have hj' : j < 5 := hj
        rw [hr1.cell (i := n1 * 5 + j) (by omega)]; rfl) (fun j hj => hr1.frozen _)
  have c1 : (0 : Int) ≤ (n1 : Int) := by omega
  have c2 : (n1 : Int) ≤ (n1 : Int) + 1 := by omega
  have c3 : ¬ cap = n1 := by omega
  have HR1 : Hid (w1.rowIs g _ _ _) := hr1
  have HG1 : Hid (w.grownBy w1 (some g)) := hg1
  have HNL : Hid (news.length = _) := hnl
  clear hr1 hg1 hw1 hnl hAD hone
  go_wp2_with fail
  go_ret
  refine ⟨rfl, ?_, grown_two HG1.out (grown_setCells g _ _ w1)⟩
  have hl := cut_length xs k (by have := HN1.out; omega)
  have hlen : (xs.take k ++ xs.drop (k + 1)).length = n1 := by rw [hl, HN1.out]; omega
  refine ERow.of_row (N := cap * 5) hlen hB (rowIs_setCells [.int .i64 0, .int .i64 0, .bool false, .int .i64 0, .int .i64 0] (n1 * 5) w1 _ HR1.out) rfl (by omega) hmx (fun i hi j hj => ?_)
  have hj' : j < 5 := hj
  have hsz : eTE.sz = 5 := rfl
  have hx : eCell eTE (xs.take k ++ xs.drop (k + 1)) i j = eCell eTE xs (if i < k then i else i + 1) j := by
    unfold eCell
    rw [eAt_cut eTE xs k i (by have := HN1.out; omega) (by have := HN1.out; omega)]
  rw [hx, hsz]
  have hNL := HNL.out
  rw [if_neg (by simp only [List.length_cons, List.length_nil]; omega)]
  by_cases h : i < k
  · rw [if_pos h, if_neg (by omega)]
    exact HF.out i (by have := HN1.out; omega) j hj'
  · rw [if_neg h, if_pos (by omega), show i * 5 + j - (0 + k * 5) = (i - k) * 5 + j by omega, HNAT.out (i - k) j (by omega) hj', show k + 1 + (i - k) = i + 1 by omega]

theorem oneW (ys : List WcE) : ∀ u ∈ ecells eWE ys, u.oneCell' = true := by
  intro u hu
  unfold ecells at hu
  rw [List.mem_flatMap] at hu
  obtain ⟨x, _, hx⟩ := hu
  have hx' : u ∈ [.int .i64 x.page, .int .i64 (16 * cov x.level), .bool x.doom, .int .i64 x.level, .int .i64 x.table] := hx
  simp only [List.mem_cons, List.not_mem_nil, or_false] at hx'
  rcases hx' with rfl | rfl | rfl | rfl | rfl <;> rfl
theorem zeroW (w : World) : (zeroValue 170).run Try.prog w = .ok (.agg #[.int .i64 0, .int .i64 0, .bool false, .int .i64 0, .int .i64 0]) w := by
  obtain ⟨iE, hiE, hz0, hz1, hz2⟩ := info_parts infoWE
  simp [zeroValue, typeInfo, hiE, hz0]
set_option maxRecDepth 100000 in
set_option maxHeartbeats 2000000 in
theorem delW_any (g cap k B n1 : Nat) (xs : List WcE) (w : World) (hn1 : xs.length = n1 + 1) (hk : k < n1 + 1) (hn : n1 + 1 ≤ 256) (hv : ERow eWE w B (.slice (some ⟨g, 0, none⟩) xs.length cap) xs) :
    Calls Try.prog 187 #[.slice (some ⟨g, 0, none⟩) (n1 + 1) cap, .int .i64 (k : Int), .int .i64 ((k : Int) + 1)] w fun r w' => r = .returned (.slice (some ⟨g, 0, none⟩) n1 cap) ∧ ERow eWE w' B (.slice (some ⟨g, 0, none⟩) n1 cap) (xs.take k ++ xs.drop (k + 1)) ∧ w.grownBy w' (some g) := by
  obtain ⟨iE, hiE, hz0, hz1, hz2⟩ := info_parts infoWE
  obtain ⟨hB, hnc0, hmx, f, hr, hf⟩ : B ≤ g ∧ xs.length ≤ cap ∧ cap ≤ maxLen ∧ ∃ f, w.rowIs g 170 (cap * 5) f ∧ ∀ i, i < xs.length → ∀ j, j < 5 → f (i * 5 + j) = eCell eWE xs i j := by
    rcases hv.2 with ⟨e, _⟩ | ⟨g', cap', cur, e, hb, hg, h1, h2, h3, h4⟩
    · cases e
    · simp only [Value.slice.injEq, Option.some.injEq, Addr.mk.injEq] at e
      obtain ⟨⟨rfl, _⟩, _, rfl⟩ := e
      refine ⟨hb, h1, h2, fun i => cur.getD i (.bool false), ⟨cur, hg, h3, fun i hi => ?_⟩, fun i hi j hj => ?_⟩
      · rw [Array.getElem?_eq_getElem (by rw [h3]; exact hi)]
        simp [Array.getD_eq_getD_getElem?, Array.getElem?_eq_getElem (show i < cur.size by rw [h3]; exact hi)]
      · have hu := ecells_at eWE xs i hi j hj
        have hlt : i * 5 + j < xs.length * 5 := by omega
        have ht : cur.toList.take (xs.length * 5) = ecells eWE xs := h4
        have hu' : (ecells eWE xs)[i * 5 + j]? = (eWE.enc (eAt eWE xs i))[j]? := hu
        rw [← ht, List.getElem?_take, if_pos hlt] at hu'
        simp only [Array.getElem?_toList] at hu'
        simp [Array.getD_eq_getD_getElem?, hu', eCell]
  have hnc : n1 + 1 ≤ cap := by omega
  obtain ⟨news, hnews⟩ : ∃ news, news = ecells eWE (xs.drop (k + 1)) := ⟨_, rfl⟩
  have hnl : news.length = (n1 + 1 - (k + 1)) * 5 := by
    rw [hnews, ecells_length, List.length_drop, hn1]
    rfl
  have hone : ∀ u ∈ news, u.oneCell' = true := by rw [hnews]; exact oneW _
  have hnat : ∀ q j, q < n1 - k → j < 5 → news.getD (q * 5 + j) (.bool false) = eCell eWE xs (k + 1 + q) j := by
    intro q j hq hj
    have h1 := ecells_at eWE (xs.drop (k + 1)) q (by rw [List.length_drop]; omega) j hj
    have h2 : eAt eWE (xs.drop (k + 1)) q = eAt eWE xs (k + 1 + q) := by
      unfold eAt
      simp only [List.getD_eq_getElem?_getD, List.getElem?_drop]
    have h1' : news[q * 5 + j]? = (eWE.enc (eAt eWE xs (k + 1 + q)))[j]? := by rw [hnews, ← h2]; exact h1
    rw [List.getD_eq_getElem?_getD, h1']
    rfl
  obtain ⟨AD, hAD⟩ : ∃ AD : Addr, (if cap = k + 1 then some (⟨g, 0, none⟩ : Addr) else some ⟨g, (k + 1) * 5, none⟩) = some AD := by
    by_cases h : cap = k + 1
    · exact ⟨_, if_pos h⟩
    · exact ⟨_, if_neg h⟩
  have hADF : 0 < n1 - k → AD = ⟨g, (k + 1) * 5, none⟩ := fun h => by
    rw [if_neg (by omega)] at hAD
    simpa using hAD.symm
  have hc1 : ∀ j u, news[j]? = some u → w.cell? (AD.add j) = some u := by
    intro j u hu
    have hj : j < news.length := (List.getElem?_eq_some_iff.1 hu).1
    rw [hADF (by omega)]
    have e : j = j / 5 * 5 + j % 5 := by omega
    have h1 := hnat (j / 5) (j % 5) (by omega) (by omega)
    rw [← e, List.getD_eq_getElem?_getD, hu] at h1
    have h2 := hr.cell (i := (k + 1) * 5 + j) (by omega)
    have h3 := hf (k + 1 + j / 5) (by omega) (j % 5) (by omega)
    rw [show (k + 1 + j / 5) * 5 + j % 5 = (k + 1) * 5 + j by omega] at h3
    rw [h3, ← h1] at h2
    rw [add_plain]
    exact h2
  have hc2 : ∀ j, j < news.length → (w.cell? ⟨g, 0 + k * 5 + j, none⟩).isSome = true ∧ w.frozen? ⟨g, 0 + k * 5 + j, none⟩ = false := fun j hj =>
    ⟨by rw [hr.cell (i := 0 + k * 5 + j) (by omega)]; rfl, hr.frozen _⟩
  have HC1 : Hid _ := hc1
  have HC2 : Hid _ := hc2
  have HNAT : Hid _ := hnat
  have a1 : (0 : Int) ≤ (k : Int) := by omega
  have a2 : (k : Int) ≤ (k : Int) + 1 := by omega
  have a3 : (k : Int) + 1 ≤ (n1 : Int) + 1 := by omega
  have a4 : (n1 : Int) + 1 ≤ (cap : Int) := by omega
  have a5 : ((k : Int) == (k : Int) + 1) = false := by simp only [beq_eq_false_iff_ne]; omega
  have a6 : (0 : Int) ≤ (k : Int) + 1 := by omega
  have b1 : k ≤ cap := by omega
  have b2 : k + 1 ≤ n1 + 1 := by omega
  have b3 : k ≤ n1 := by omega
  have HF : Hid _ := hf
  have HR : Hid (w.rowIs g 170 (cap * 5) f) := hr
  have HN1 : Hid (xs.length = n1 + 1) := hn1
  have HADF : Hid _ := hADF
  clear hv hf hr hnews hnat hc1 hc2 hn1 hADF hnc0
  go_enter Try.func187, Try.ntmps187
  go_upto_region 5 with fail
  refine wp_region_held_drew (S := fun _ => True) (by kernel_rfl) (trivial) (fun hHeld => ?_)
  refine tk 0 ?_
  refine tk 1 ?_
  refine tk 2 ?_
  refine tk 3 ?_
  refine tk 4 ?_
  refine tk 5 ?_
  refine wpAnyH_ready (rs := [6]) (by kernel_rfl) (by simp) ?_
  refine AllReadyH.cons rfl (fun K hK => ?_) AllReadyH.nil
  refine step_append_room rfl (.tmp 22) (.tmp 25) 95 rfl 170 iE 5 Try.underlying95 hiE hz1 g 0 k cap rfl AD _ _ news rfl (by rw [hnl]; first | rfl | (simp; done) | omega) HC1.out hone (by omega) HC2.out ?_
  refine hK.out _ _ trivial (fun _ => ?_)
  clear hK K
  refine tk 7 ?_
  refine wpAnyH_done (by kernel_rfl) ?_ _
  obtain ⟨w1, hw1⟩ : ∃ w1, w1 = w.drew.setCells g (0 + k * 5) news := ⟨_, rfl⟩
  rw [← hw1]
  have hr1 : w1.rowIs g 170 (cap * 5) (fun j => if 0 + k * 5 ≤ j ∧ j < 0 + k * 5 + news.length then news.getD (j - (0 + k * 5)) (.bool false) else f j) := by
    rw [hw1]
    exact rowIs_setCells news _ w.drew f HR.out.drew
  have hg1 : w.grownBy w1 (some g) := by
    rw [hw1]
    have h := grown_setCells g news (0 + k * 5) w.drew
    exact ⟨h.os, h.tape, h.output, h.size, h.block⟩
  have hclr : ∀ ty, (Builtin.clear_ #[95] ty #[.slice (some ⟨g, n1 * 5, none⟩) 1 (cap - n1)]).run Try.prog w1 = .ok (.tuple #[]) (w1.setCells g (n1 * 5) [.int .i64 0, .int .i64 0, .bool false, .int .i64 0, .int .i64 0]) := fun ty =>
    run_clear_one w1 95 170 ty (.agg #[.int .i64 0, .int .i64 0, .bool false, .int .i64 0, .int .i64 0]) [.int .i64 0, .int .i64 0, .bool false, .int .i64 0, .int .i64 0] Try.underlying95 zeroW (by first | kernel_rfl | (simp [Builtin.zeroCells, Value.cells]; done)) (by intro v hv; simp only [List.mem_cons, List.not_mem_nil, or_false] at hv; rcases hv with rfl | rfl | rfl | rfl | rfl <;> rfl) g (n1 * 5) (cap - n1)
      (fun j hj => by
        have hj' : j < 5 := hj
        rw [hr1.cell (i := n1 * 5 + j) (by omega)]; rfl) (fun j hj => hr1.frozen _)
  have c1 : (0 : Int) ≤ (n1 : Int) := by omega
  have c2 : (n1 : Int) ≤ (n1 : Int) + 1 := by omega
  have c3 : ¬ cap = n1 := by omega
  have HR1 : Hid (w1.rowIs g _ _ _) := hr1
  have HG1 : Hid (w.grownBy w1 (some g)) := hg1
  have HNL : Hid (news.length = _) := hnl
  clear hr1 hg1 hw1 hnl hAD hone
  go_wp2_with fail
  go_ret
  refine ⟨rfl, ?_, grown_two HG1.out (grown_setCells g _ _ w1)⟩
  have hl := cut_length xs k (by have := HN1.out; omega)
  have hlen : (xs.take k ++ xs.drop (k + 1)).length = n1 := by rw [hl, HN1.out]; omega
  refine ERow.of_row (N := cap * 5) hlen hB (rowIs_setCells [.int .i64 0, .int .i64 0, .bool false, .int .i64 0, .int .i64 0] (n1 * 5) w1 _ HR1.out) rfl (by omega) hmx (fun i hi j hj => ?_)
  have hj' : j < 5 := hj
  have hsz : eWE.sz = 5 := rfl
  have hx : eCell eWE (xs.take k ++ xs.drop (k + 1)) i j = eCell eWE xs (if i < k then i else i + 1) j := by
    unfold eCell
    rw [eAt_cut eWE xs k i (by have := HN1.out; omega) (by have := HN1.out; omega)]
  rw [hx, hsz]
  have hNL := HNL.out
  rw [if_neg (by simp only [List.length_cons, List.length_nil]; omega)]
  by_cases h : i < k
  · rw [if_pos h, if_neg (by omega)]
    exact HF.out i (by have := HN1.out; omega) j hj'
  · rw [if_neg h, if_pos (by omega), show i * 5 + j - (0 + k * 5) = (i - k) * 5 + j by omega, HNAT.out (i - k) j (by omega) hj', show k + 1 + (i - k) = i + 1 by omega]

theorem woT_any (a : Option Addr) (c B : Nat) (xs : List TlbE) (i : Int) (w : World) (hn : xs.length ≤ 256) (hv : ERow eTE w B (.slice a xs.length c) xs) :
    Calls Try.prog 148 #[.slice a xs.length c, .int .i64 i] w fun r w' => r = .returned (.slice a (keepTo eTE true i xs xs.length).length c) ∧ ERow eTE w' B (.slice a (keepTo eTE true i xs xs.length).length c) (keepTo eTE true i xs xs.length) ∧ w.grownBy w' (oOf a) := by
  have hself : w.grownBy w (oOf a) := ⟨rfl, rfl, rfl, Nat.le_refl _, fun _ _ _ => rfl⟩
  by_cases h0 : i < 0
  · rw [keepTo_all eTE true i xs (.inr (.inl h0))]
    have d0 : decide (i < 0) = true := by simpa using h0
    have HV : Hid (ERow _ _ _ _ _) := hv
    clear hv
    go_enter Try.func148, Try.ntmps148
    go_wp2_with fail
    go_ret
    exact ⟨rfl, HV.out, hself⟩
  · have d0 : decide (i < 0) = false := by simpa using h0
    by_cases h1 : (xs.length : Int) ≤ i
    · rw [keepTo_all eTE true i xs (.inr (.inr h1))]
      have d1 : decide ((xs.length : Int) ≤ i) = true := by simpa using h1
      have HV : Hid (ERow _ _ _ _ _) := hv
      clear hv
      go_enter Try.func148, Try.ntmps148
      go_wp2_with fail
      go_ret
      exact ⟨rfl, HV.out, hself⟩
    · obtain ⟨k, rfl⟩ : ∃ k : Nat, i = (k : Int) := ⟨i.toNat, by omega⟩
      have hk : k < xs.length := by omega
      obtain ⟨n1, hn1⟩ : ∃ n1, xs.length = n1 + 1 := ⟨xs.length - 1, by omega⟩
      obtain ⟨ga, ca, hae, haf⟩ := hv.form
      obtain ⟨g, N, f, hag, _⟩ := haf (by omega)
      have hga : a = some ⟨g, 0, none⟩ := by
        simp only [Value.slice.injEq] at hae
        exact hae.1.trans hag
      subst hga
      have hd := delT_any g c k B n1 xs w hn1 (by omega) (by omega) hv
      have hl := cut_length xs k hk
      rw [keepTo_at eTE k xs hk, hl, hn1]
      have d1 : decide ((n1 : Int) + 1 ≤ (k : Int)) = false := by simp; omega
      have W1 : IntKind.i64.wrap ((k : Int) + 1) = (k : Int) + 1 := by rw [IntKind.wrap_i64]; omega
      clear hv hae haf hag hl hk h1 h0 hself hn1
      go_enter Try.func148, Try.ntmps148
      go_wp2_with fail
      refine hd.mono ?_
      rintro r w1 ⟨rfl, hr, hg⟩
      have HR : Hid (ERow _ w1 _ _ _) := hr
      have HG : Hid (w.grownBy w1 _) := hg
      clear hr hg
      go_wp2_with fail
      go_ret
      exact ⟨by simp, HR.out, HG.out⟩
theorem keepT_E (i : Int) (xs : List TlbE) : ∀ k, keepTo eTE true i xs k = keepTo eTlb true i xs k
  | 0 => rfl
  | k + 1 => by
    unfold keepTo
    rw [keepT_E i xs k]
    rfl
set_option maxHeartbeats 1000000 in
theorem dropT_any (gu b0 B : Nat) (L : Bool) (u : UV) (M : Mach) (i : Int) (w : World) (hn : M.tlb.length ≤ 256) (h : UM w gu b0 B L u M) :
    Calls Try.prog 88 #[.pointer (some ⟨gu, 0, none⟩), .int .i64 i] w fun r w' => r = .returned (.tuple #[]) ∧ ∃ u', UStep w w' gu b0 B L u u' ⟨M.mem, M.pend, keepTo eTlb true i M.tlb M.tlb.length, M.wc⟩ := by
  have hw := woT_any u.a4 u.c4 B M.tlb i w hn h.t
  rw [keepT_E] at hw
  have q := h.q3
  have fz := h.f3
  have hlt := h.lt
  have HUM : Hid (UM w gu b0 B L u M) := h
  clear h
  go_enter Try.func88, Try.ntmps88
  go_wp2_with fail
  refine hw.mono ?_
  rintro r w1 ⟨rfl, hr, hg⟩
  have hb := hg.block gu hlt (fun e => HUM.out.ap.g4 e.symm)
  have q1 := (World.cell?_of_block (a := ⟨gu, 3, none⟩) hb).trans q
  have f1 := (World.frozen?_of_block (a := ⟨gu, 3, none⟩) hb).trans fz
  have HST : Hid _ := HUM.out.newTlb hg u.a4 u.c4 _ hr (fun k hk => .inl hk)
  clear hr hg hb hw
  go_wp2_with fail
  refine bodyPost_end (v := .tuple #[]) (by simp [results, Try.results88, go_sem]) rfl ?_
  exact ⟨rfl, _, HST.out⟩

theorem woW_any (a : Option Addr) (c B : Nat) (xs : List WcE) (i : Int) (w : World) (hn : xs.length ≤ 256) (hv : ERow eWE w B (.slice a xs.length c) xs) :
    Calls Try.prog 149 #[.slice a xs.length c, .int .i64 i] w fun r w' => r = .returned (.slice a (keepTo eWE true i xs xs.length).length c) ∧ ERow eWE w' B (.slice a (keepTo eWE true i xs xs.length).length c) (keepTo eWE true i xs xs.length) ∧ w.grownBy w' (oOf a) := by
  have hself : w.grownBy w (oOf a) := ⟨rfl, rfl, rfl, Nat.le_refl _, fun _ _ _ => rfl⟩
  by_cases h0 : i < 0
  · rw [keepTo_all eWE true i xs (.inr (.inl h0))]
    have d0 : decide (i < 0) = true := by simpa using h0
    have HV : Hid (ERow _ _ _ _ _) := hv
    clear hv
    go_enter Try.func149, Try.ntmps149
    go_wp2_with fail
    go_ret
    exact ⟨rfl, HV.out, hself⟩
  · have d0 : decide (i < 0) = false := by simpa using h0
    by_cases h1 : (xs.length : Int) ≤ i
    · rw [keepTo_all eWE true i xs (.inr (.inr h1))]
      have d1 : decide ((xs.length : Int) ≤ i) = true := by simpa using h1
      have HV : Hid (ERow _ _ _ _ _) := hv
      clear hv
      go_enter Try.func149, Try.ntmps149
      go_wp2_with fail
      go_ret
      exact ⟨rfl, HV.out, hself⟩
    · obtain ⟨k, rfl⟩ : ∃ k : Nat, i = (k : Int) := ⟨i.toNat, by omega⟩
      have hk : k < xs.length := by omega
      obtain ⟨n1, hn1⟩ : ∃ n1, xs.length = n1 + 1 := ⟨xs.length - 1, by omega⟩
      obtain ⟨ga, ca, hae, haf⟩ := hv.form
      obtain ⟨g, N, f, hag, _⟩ := haf (by omega)
      have hga : a = some ⟨g, 0, none⟩ := by
        simp only [Value.slice.injEq] at hae
        exact hae.1.trans hag
      subst hga
      have hd := delW_any g c k B n1 xs w hn1 (by omega) (by omega) hv
      have hl := cut_length xs k hk
      rw [keepTo_at eWE k xs hk, hl, hn1]
      have d1 : decide ((n1 : Int) + 1 ≤ (k : Int)) = false := by simp; omega
      have W1 : IntKind.i64.wrap ((k : Int) + 1) = (k : Int) + 1 := by rw [IntKind.wrap_i64]; omega
      clear hv hae haf hag hl hk h1 h0 hself hn1
      go_enter Try.func149, Try.ntmps149
      go_wp2_with fail
      refine hd.mono ?_
      rintro r w1 ⟨rfl, hr, hg⟩
      have HR : Hid (ERow _ w1 _ _ _) := hr
      have HG : Hid (w.grownBy w1 _) := hg
      clear hr hg
      go_wp2_with fail
      go_ret
      exact ⟨by simp, HR.out, HG.out⟩
theorem keepW_E (i : Int) (xs : List WcE) : ∀ k, keepTo eWE true i xs k = keepTo eWc true i xs k
  | 0 => rfl
  | k + 1 => by
    unfold keepTo
    rw [keepW_E i xs k]
    rfl
set_option maxHeartbeats 1000000 in
theorem dropW_any (gu b0 B : Nat) (L : Bool) (u : UV) (M : Mach) (i : Int) (w : World) (hn : M.wc.length ≤ 256) (h : UM w gu b0 B L u M) :
    Calls Try.prog 89 #[.pointer (some ⟨gu, 0, none⟩), .int .i64 i] w fun r w' => r = .returned (.tuple #[]) ∧ ∃ u', UStep w w' gu b0 B L u u' ⟨M.mem, M.pend, M.tlb, keepTo eWc true i M.wc M.wc.length⟩ := by
  have hw := woW_any u.a5 u.c5 B M.wc i w hn h.c
  rw [keepW_E] at hw
  have q := h.q4
  have fz := h.f4
  have hlt := h.lt
  have HUM : Hid (UM w gu b0 B L u M) := h
  clear h
  go_enter Try.func89, Try.ntmps89
  go_wp2_with fail
  refine hw.mono ?_
  rintro r w1 ⟨rfl, hr, hg⟩
  have hb := hg.block gu hlt (fun e => HUM.out.ap.g5 e.symm)
  have q1 := (World.cell?_of_block (a := ⟨gu, 4, none⟩) hb).trans q
  have f1 := (World.frozen?_of_block (a := ⟨gu, 4, none⟩) hb).trans fz
  have HST : Hid _ := HUM.out.newWc hg u.a5 u.c5 _ hr (fun k hk => .inl hk)
  clear hr hg hb hw
  go_wp2_with fail
  refine bodyPost_end (v := .tuple #[]) (by simp [results, Try.results89, go_sem]) rfl ?_
  exact ⟨rfl, _, HST.out⟩
end Go.Proofs.Ytnmhkgmmpkjjeab
