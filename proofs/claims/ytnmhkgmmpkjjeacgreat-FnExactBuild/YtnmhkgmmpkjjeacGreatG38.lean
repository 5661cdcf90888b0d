import Derived.Test.YtnmhkgmmpkjjeacGreatG37
namespace Go.Proofs.YtnmhkgmmpkjjeacGreat
open Go.ChangeShapes Go.WideShapes Go.ChangeAt Go.RowKit
set_option linter.unusedVariables false
set_option maxRecDepth 100000
attribute [local go_sem ↓] Go.wp_at_zero Go.wp_at_succ

/-- The pages so far. -/
def pagInv (wp : World) (G B : Nat) (zs : List Int) (H : Nat → Ht) (all : List P3) (S : Nat → Prop) (es : List En) (w : World) : Prop :=
  (∃ a c, SetAt w G 0 B a c (numsL (mkB zs H all es) 4096) ∧ S = (fun k => k = G ∨ oB a = some k)) ∧ Below wp.heap.size wp w
theorem pag_ok (wp : World) (G B : Nat) (zs : List Int) (H : Nat → Ht) (all : List P3) (hzr : ∀ i, 0 ≤ zs.getD i 0 ∧ zs.getD i 0 < 18446744073709551616) (hlo : wp.heap.size ≤ G) (hB : wp.heap.size ≤ B) : VisOk 101 G zs H all wp (pagInv wp G B zs H all) := by
  refine ⟨fun a b w => ?_, ?_, ?_, ?_, ?_⟩
  · kernel_rfl
  · rintro S es e wX ⟨⟨a, c, ho, rfl⟩, hb⟩ ⟨lv, pg, ad, rfl, h1, h3, h4, h5⟩ hes
    refine (pagVis_any G B c a (mkB zs H all es) (mkB zs H all (es ++ [⟨lv, pg, ad⟩])) zs H all lv pg ad wX h1 h3 h4 (hzr _) (fun q => ?_) ho).mono ?_
    · rw [mkB_succ]
      congr 2
      dsimp only
      rw [cov_epg lv]
      by_cases hh : pg ≤ q ∧ q < pg + epg lv
      · rw [decide_eq_true hh, decide_eq_true (by omega)]
      · rw [decide_eq_false hh, decide_eq_false (by omega)]
    rintro r w' ⟨rfl, a', c', h6, h7, h8⟩
    refine ⟨rfl, fun k => k = G ∨ oB a' = some k, ⟨⟨a', c', h6, rfl⟩, ?_⟩, h7, ?_⟩
    · refine ((Tch.of_below (S := fun k => wp.heap.size ≤ k) hb).then h7 (fun k hk hh => ?_)).below (fun k hk hh => by omega)
      rcases hh with e | e
      · omega
      · have := (ho.row.own k (by rw [own_sl]; exact e)).1; omega
    · intro k hk hh
      rcases hh with e | e
      · exact .inl e
      · rcases h8 with e2 | ⟨j, e2, hj⟩
        · exact .inr (by rw [← e2]; exact e)
        · rw [e] at e2; simp only [Option.some.injEq] at e2; omega
  · rintro S es wX wY ⟨⟨a, c, ho, rfl⟩, hb⟩ hX
    exact ⟨⟨a, c, ho.tch (Tch.of_below (S := fun _ => False) hX) (fun f => f) (fun _ _ f => f), rfl⟩, hb.trans (hX.mono hb.size)⟩
  · rintro S es wX ⟨_, hb⟩
    exact hb
  · rintro S es wX ⟨⟨a, c, ho, rfl⟩, hb⟩ k hk
    rcases hk with e | e
    · rw [e]; exact ho.lt
    · exact (ho.row.own k (by rw [own_sl]; exact e)).2
def opT (r : Nat × Nat) : OpE := ⟨3, r.1, r.2, 0⟩
theorem tlb_map (mk : Nat → Bool) : tlbOps mk = (runsL mk 4096 4096).map opT := rfl
theorem run_cells {w : World} {b g c n : Nat} {xs : List (Nat × Nat)} (h : ERow eRun w b (.slice (some ⟨g, 0, none⟩) n c) xs) (i : Nat) (hi : i < xs.length) : g < w.heap.size ∧ w.cell? ⟨g, i * 2, none⟩ = some (.int .i64 ((eAt eRun xs i).1 : Nat)) ∧ w.cell? ⟨g, i * 2 + 1, none⟩ = some (.int .i64 ((eAt eRun xs i).2 : Nat)) := by
  obtain ⟨hB, hc, hm, f, hr, hf⟩ := run_row h
  obtain ⟨a0, a1⟩ := hf i hi
  exact ⟨hr.lt, by rw [hr.cell (i := i * 2) (by omega), a0], by rw [hr.cell (i := i * 2 + 1) (by omega), a1]⟩
theorem takeT_snoc (xs : List (Nat × Nat)) (i : Nat) (hi : i < xs.length) : (xs.take (i + 1)).map opT = (xs.take i).map opT ++ [opT (eAt eRun xs i)] := by
  rw [take_snocE eRun xs i hi, List.map_append]
  rfl
theorem runsL_len (mk : Nat → Bool) (n : Nat) : (runsL mk n n).length ≤ n := by
  have h : ∀ k, (runsL mk n k).length ≤ k := by
    intro k
    induction k with
    | zero => exact Nat.zero_le _
    | succ k ih =>
      rw [runsL_succ, List.length_append]
      split
      · simp; omega
      · simp; omega
  exact h n
theorem mkB_nil (zs : List Int) (H : Nat → Ht) (all : List P3) : numsL (mkB zs H all []) 4096 = [] := by
  unfold numsL
  have : (List.range 4096).filter (mkB zs H all []) = [] := by
    rw [List.filter_eq_nil_iff]
    intro a _ h
    cases h
  rw [this]
  rfl
set_option maxHeartbeats 4000000 in
theorem invP_any (wp : World) (gp gz cz gl M OP PV c : Nat) (a : Option Addr) (l : List OpE) (zs : List Int) (H : Nat → Ht) (kept fs : List P3) (w : World) (hzr : ∀ i, 0 ≤ zs.getD i 0 ∧ zs.getD i 0 < 18446744073709551616) (hl : l.length ≤ 700000) (hP : PSt wp gp gz cz gl M zs H (hmOf kept fs)) (hK : KOk zs H kept fs) (h : Emit wp w gp OP PV a c l) :
    Calls Tryz.prog 100 #[putV OP, .pointer (some ⟨PV, 0, none⟩)] w (PutP OP wp.heap.size a (l ++ tlbOps (mkB zs H (kept ++ fs) (enTo kept 4096))) w) := by
  obtain ⟨wb, hwb⟩ : ∃ wb, wb = w.alloc (.cells #[.slice none 0 0] 92) := ⟨_, rfl⟩
  have hb0 : Below w.heap.size w wb := by rw [hwb]; exact bal
  have hwl : wp.heap.size ≤ w.heap.size := h.pl.size
  have hev := pag_ok wp w.heap.size (w.heap.size + 1) zs H (kept ++ fs) hzr hwl (by omega)
  have hset : SetAt wb w.heap.size 0 (w.heap.size + 1) none 0 [] := by
    rw [hwb]
    exact ⟨by simp, by simp [go_sem], by simp [go_sem], ⟨by simp [ecells], .inl ⟨rfl, rfl⟩⟩, by simp [oB, Value.ownBlock], by simp⟩
  have hst : pagInv wp w.heap.size (w.heap.size + 1) zs H (kept ++ fs) (fun k => k = w.heap.size ∨ oB none = some k) [] wb := by
    refine ⟨⟨none, 0, ?_, rfl⟩, (h.below hb0).pl⟩
    rw [mkB_nil]
    exact hset
  have hek := eachKept_any hev hP hK _ wb hst
  have p1 := h.pv
  have hvl := h.vlt
  obtain ⟨mk, hmk⟩ : ∃ mk, mkB zs H (kept ++ fs) (enTo kept 4096) = mk := ⟨_, rfl⟩
  obtain ⟨ns, hns⟩ : ∃ ns, (List.range 4096).filter mk = ns := ⟨_, rfl⟩
  have hn1 : ns.length ≤ 4096 := by
    rw [← hns]
    exact Nat.le_trans (List.length_filter_le _ _) (by rw [List.length_range]; omega)
  have hn2 : ∀ x ∈ ns, x < 4096 := fun x hx => by
    rw [← hns] at hx
    exact List.mem_range.1 (List.mem_filter.1 hx).1
  have hrq : ns.foldl runPut [] = runsL mk 4096 4096 := by rw [← hns]; exact runs_eq mk 4096
  have HNM : Hid (numsL mk 4096 = ns.map (fun k => ((k : Nat) : Int))) := hidOf <| by rw [← hns]; rfl
  have hrl : (ns.foldl runPut []).length ≤ 4096 := by rw [hrq]; exact runsL_len mk 4096
  have HLQ : Hid (l ++ tlbOps mk = l ++ (ns.foldl runPut []).map opT) := hidOf <| by rw [hrq]; rfl
  -- what the visit leaves
  have HE : Hid (∀ r w', VPost (pagInv wp w.heap.size (w.heap.size + 1) zs H (kept ++ fs)) (fun k => k = w.heap.size ∨ oB none = some k) (enTo kept 4096) wb r w' → r = .returned (.tuple #[]) ∧ (∃ a1 c1, w'.cell? ⟨w.heap.size, 0, none⟩ = some (.slice a1 ns.length c1) ∧ ERow eInt w' (w.heap.size + 1) (.slice a1 (ns.map (fun k => ((k : Nat) : Int))).length c1) (ns.map (fun k => ((k : Nat) : Int)))) ∧ Below w.heap.size w w' ∧ w.heap.size < w'.heap.size) := hidOf <| by
    rintro r w' ⟨rfl, S', ⟨⟨a1, c1, ho, rfl⟩, hb⟩, ht, hs⟩
    rw [hmk, HNM.out] at ho
    have hl9 : (ns.map (fun k => ((k : Nat) : Int))).length = ns.length := List.length_map _
    refine ⟨rfl, ⟨a1, c1, by rw [← hl9]; exact ho.cell, ho.row⟩, ?_, ho.lt⟩
    refine ((Tch.of_below (S := fun k => w.heap.size ≤ k) hb0).then ht (fun k hk hh => ?_)).below (fun k hk hh => by omega)
    rcases hh with e | e
    · omega
    · cases e
  have HEM : Hid (Emit wp w gp OP PV a c l) := h
  rw [hmk, HLQ.out]
  have HRO : Hid (∀ (w1 : World) a1 c1, ERow eInt w1 (w.heap.size + 1) (.slice a1 (ns.map (fun k => ((k : Nat) : Int))).length c1) (ns.map (fun k => ((k : Nat) : Int))) → Calls Tryz.prog 103 #[.slice a1 ns.length c1] w1 fun r w' => ∃ a' c', r = .returned (.slice a' (ns.foldl runPut []).length c') ∧ ERow eRun w' w1.heap.size (.slice a' (ns.foldl runPut []).length c') (ns.foldl runPut []) ∧ Below w1.heap.size w1 w') := fun w1 a1 c1 hr => runsOf_any a1 c1 _ ns w1 hn1 hn2 hr
  clear HLQ hrq
  generalize ns.foldl runPut [] = RS at hrl HRO ⊢
  have HWB : Hid (wb = _) := hwb
  clear hwb hb0 hev hset hst h hP hK hmk hns hn2 hwl HNM
  unfold putV
  go_enter Tryz.func100, Tryz.ntmps100
  go_wp2_with fail
  rw [← HWB.out]
  refine hek.mono ?_
  rintro r w1 hv
  obtain ⟨rfl, ⟨a1, c1, k0, hrow⟩, hb1, hlt1⟩ := HE.out _ _ hv
  have hro := HRO.out w1 a1 c1 hrow
  have HB1 : Hid (Below w.heap.size w w1) := hb1
  clear hek hv hrow hb1 HRO HE
  go_wp2_with fail
  refine hro.mono ?_
  rintro r w2 ⟨a2, c2, rfl, hr2, hb2⟩
  have HB2 : Hid (Below w.heap.size w w2) := HB1.out.trans (hb2.mono HB1.out.size)
  have hw12 := HB1.out.size
  have hop := HEM.out.ops.lt
  have hoa := HEM.out.ops.own
  have HRR : Hid (∀ wX, Tch (fun k => k = OP ∨ oB a = some k) w2 wX → ERow eRun wX w1.heap.size (.slice a2 RS.length c2) RS) := hidOf <| fun wX hX => hr2.tch hX (fun k hk hh => by
    have h9 := (hr2.own k (by rw [own_sl]; exact hk)).1
    rcases hh with e | e
    · omega
    · have := (hoa k e).2; omega)
  have HST : Hid (EmitR wp w2 w2 gp OP PV a (l ++ (RS.take 0).map opT)) := hidOf <| by
    rw [List.take_zero, List.map_nil, List.append_nil]
    exact EmitR.start (HEM.out.below HB2.out) (Below.refl _ _)
  clear hro hr2 hb2 k0 hoa
  go_wp2_with fail
  go_loopw [13] (fun iv wr => ∃ i : Nat, i ≤ RS.length ∧ iv = .int .i64 i ∧ EmitR wp w2 wr gp OP PV a (l ++ (RS.take i).map opT)) (fun iv _ => RS.length - (intOf iv).toNat)
  case atStart => exact ⟨0, Nat.zero_le _, rfl, HST.out⟩
  case round =>
    obtain ⟨i, hi, rfl, a3, c3, he, ht, hn⟩ := hrel
    by_cases hlt : i < RS.length
    · have hrw := HRR.out wr ht
      obtain ⟨g, rfl⟩ : ∃ g, a2 = some ⟨g, 0, none⟩ := by
        obtain ⟨a', c', e, h1⟩ := hrw.form
        obtain ⟨g, N, f, e2, _⟩ := h1 (by omega)
        simp only [Value.slice.injEq] at e
        exact ⟨g, by rw [e.1, e2]⟩
      obtain ⟨hgl, x0, x1⟩ := run_cells hrw i hlt
      obtain ⟨ll, hll⟩ : ∃ ll, l ++ (RS.take i).map opT = ll := ⟨_, rfl⟩
      have hlen : ll.length ≤ 720000 := by rw [← hll, List.length_append, List.length_map, List.length_take]; omega
      rw [hll] at he
      have HL : Hid (l ++ (RS.take (i + 1)).map opT = ll ++ [⟨3, ((eAt eRun RS i).1 : Nat), ((eAt eRun RS i).2 : Nat), 0⟩]) := hidOf <| by rw [takeT_snoc RS i hlt, ← List.append_assoc, hll]; rfl
      generalize (eAt eRun RS i).1 = f at x0 HL
      generalize (eAt eRun RS i).2 = k at x1 HL
      have HPUT : Hid (∀ wX, Below wr.heap.size wr wX → Calls Tryz.prog 75 #[.agg #[.int .i64 3, .int .i64 f, .int .i64 k, .int .u64 0], .pointer (some ⟨OP, 0, none⟩)] wX (PutP OP wp.heap.size a3 (ll ++ [⟨3, f, k, 0⟩]) wX)) := fun wX hX => put_any OP wp.heap.size c3 a3 ll ⟨3, f, k, 0⟩ wX (by omega) (he.ops.below hX)
      have hput := HPUT.out (wr.alloc (.cells #[.int .i64 f, .int .i64 k] 169)) bal
      have L1 : (0 : Int) ≤ (i : Int) := by omega
      have L2 : (i : Int) < (RS.length : Int) := by omega
      have HEE : Hid _ := he
      have HT : Hid _ := ht
      have HN : Hid (∀ k, oB a3 = some k → oB a = some k ∨ w2.heap.size ≤ k) := hn
      clear he ht hn hrw hll HPUT
      go_wp2_with fail
      refine hput.mono ?_
      rintro r w4 hp
      obtain ⟨rfl, hr2⟩ := EmitR.put HEE.out HT.out HN.out (PutP.pre (c := c3) (l := ll) bal hp)
      clear hput hp
      go_wp2_with fail
      go_roundw
      case rel => exact ⟨i + 1, by omega, by go_num, by rw [HL.out]; exact hr2⟩
      case measure => simp [intOf]; omega
    · have ei : i = RS.length := by omega
      subst ei
      rw [List.take_length] at he
      go_wp2_with fail
      refine bodyPost_end (v := .tuple #[]) (by simp [results, Tryz.results100, go_sem]) rfl ?_
      exact PutP.pre (c := c) (l := l) HB2.out (EmitR.fin ⟨a3, c3, he, ht, hn⟩)
end Go.Proofs.YtnmhkgmmpkjjeacGreat
