import Derived.Test.YtnmhkgmmpkjjeacGreatG25
namespace Go.Proofs.YtnmhkgmmpkjjeacGreat
open Go.ChangeShapes Go.WideShapes Go.ChangeAt Go.RowKit
set_option linter.unusedVariables false
set_option maxRecDepth 100000
attribute [local go_sem ↓] Go.wp_at_zero Go.wp_at_succ

theorem bitZ_any (x : Int) (h0 : 0 ≤ x) (h1 : x < 18446744073709551616) (w : World) :
    Calls Tryz.prog 36 #[.int .u64 x, .int .i64 0] w fun e w' => e = .returned (.int .i64 (x % 2)) ∧ w' = w := by
  have hfl : ∀ w : World, Calls Tryz.prog 62 #[.int .u64 x, .int .i64 0, .int .i64 1] w fun e w' => e = .returned (.int .u64 (x % 2)) ∧ w' = w := fun w => by
    go_enter Tryz.func62, Tryz.ntmps62
    go_wp2_with fail
    go_ret
    exact ⟨rfl, rfl⟩
  have hm : 0 ≤ x % 2 ∧ x % 2 < 2 := by omega
  go_enter Tryz.func36, Tryz.ntmps36
  go_wp2_with (go_at_call 62; refine (hfl _).mono ?_; rintro e w1 ⟨rfl, hw1⟩; obtain rfl := hw1.symm)
  go_ret
  exact ⟨rfl, rfl⟩
/-- What a plan answers: the operations and the code. -/
def planF (zs : List Int) (xs : List SpanE) : List OpE × Int :=
  if ptree zs = false then ([], 1) else if vsB xs = false then ([], 2) else if nfr zs.length < ((wPre (lay xs) 256).length : Nat) then ([], 3)
  else (planL zs (nfr zs.length).toNat (lay xs) (plist zs), 0)
theorem planF_1 {zs : List Int} {xs : List SpanE} (h : ptree zs = false) : planF zs xs = ([], 1) := by unfold planF; rw [if_pos h]
theorem planF_2 {zs : List Int} {xs : List SpanE} (h : ptree zs = true) (h2 : vsB xs = false) : planF zs xs = ([], 2) := by unfold planF; rw [if_neg (by rw [h]; decide), if_pos h2]
theorem planF_3 {zs : List Int} {xs : List SpanE} (h : ptree zs = true) (h2 : vsB xs = true) (h3 : nfr zs.length < ((wPre (lay xs) 256).length : Nat)) : planF zs xs = ([], 3) := by unfold planF; rw [if_neg (by rw [h]; decide), if_neg (by rw [h2]; decide), if_pos h3]
theorem planF_0 {zs : List Int} {xs : List SpanE} (h : ptree zs = true) (h2 : vsB xs = true) (h3 : ¬ nfr zs.length < ((wPre (lay xs) 256).length : Nat)) : planF zs xs = (planL zs (nfr zs.length).toNat (lay xs) (plist zs), 0) := by unfold planF; rw [if_neg (by rw [h]; decide), if_neg (by rw [h2]; decide), if_neg h3]
/-- What both plans leave. -/
def PlanPost (w : World) (r : List OpE × Int) (e : Ending) (w' : World) : Prop :=
  ∃ a c, e = .returned (.tuple #[.slice a r.1.length c, .int .i64 r.2]) ∧ ERow eOp w' w.heap.size (.slice a r.1.length c) r.1 ∧ Below w.heap.size w w'
/-- One round of the frames of new tables. -/
theorem frTo_room {H : Nat → Ht} {n : Nat} {ps : List P3} (hn : 0 < n) (h : PlcOk n ps) (hw : (wPre H 256).length ≤ n) (k : Nat) (hk : k ≤ (wPre H 256).length) : (keptL H ps ++ frTo (keptL H ps) (wPre H 256) k).length ≤ 1100 := by
  have h1 := kept_le (H := H) (n := n) (by omega) h
  have h2 := List.countP_le_length (p := isK (keptL H ps)) (l := wPre H 256)
  have h3 := frTo_len (keptL H ps) (wPre H 256) k hk
  have h4 := wPre_len H 256
  rw [List.length_append]
  omega
theorem asP_at (s : List (Nat × Nat)) (k : Nat) (hk : k < s.length) : pAt (asP s) k = ⟨-1, (s[k]).1, (s[k]).2⟩ := by
  unfold pAt asP
  rw [List.getD_eq_getElem?_getD, List.getElem?_map, List.getElem?_eq_getElem hk]
  rfl
/-- Two lists of operations and a row of marks in the making. -/
structure Thr (w wr : World) (v1 v2 : Value) (l1 l2 : List OpE) (gm : Nat) (mk : Nat → Bool) : Prop where
  two : Two eOp eOp w wr v1 v2 l1 l2
  ne : ∀ g n c, (v1 = .slice (some ⟨g, 0, none⟩) n c ∨ v2 = .slice (some ⟨g, 0, none⟩) n c) → gm ≠ g
  mark : wr.rowIs gm 4 4096 (fun p => .bool (mk p))
  lo : w.heap.size ≤ gm
theorem Thr.below {w wr w1 : World} {v1 v2 : Value} {l1 l2 : List OpE} {gm : Nat} {mk : Nat → Bool} (h : Thr w wr v1 v2 l1 l2 gm mk) (hb : Below wr.heap.size wr w1) : Thr w w1 v1 v2 l1 l2 gm mk :=
  ⟨h.two.below hb, h.ne, h.mark.of_block (hb.block gm h.mark.lt), h.lo⟩
theorem Thr.push1 {w w1 wn : World} {g1 c1 g1' c1' : Nat} {v2 : Value} {l1 l2 : List OpE} {x : OpE} {o : Obj} {gm : Nat} {mk : Nat → Bool} (h : Thr w w1 (.slice (some ⟨g1, 0, none⟩) l1.length c1) v2 l1 l2 gm mk) (hown : wn.ownsRow w.heap.size eOp.T eOp.sz (.slice (some ⟨g1', 0, none⟩) (l1.length + 1) c1') (l1.length + 1) (ecells eOp l1 ++ eOp.enc x)) (hgrow : (w1.alloc o).grownBy wn (Value.ownBlock (.slice (some ⟨g1, 0, none⟩) l1.length c1))) (hat : Value.ownBlock (.slice (some ⟨g1, 0, none⟩) l1.length c1) = some g1' ∨ g1' = w1.heap.size + 1) :
    Thr w wn (.slice (some ⟨g1', 0, none⟩) (l1.length + 1) c1') v2 (l1 ++ [x]) l2 gm mk := by
  have hl := h.mark.lt
  refine ⟨Two.push1 h.two hown hgrow hat, ?_, ?_, h.lo⟩
  · intro g n c hh
    rcases hh with hh | hh
    · simp only [Value.slice.injEq, Option.some.injEq, Addr.mk.injEq, and_true] at hh
      obtain ⟨rfl, _⟩ := hh
      rcases hat with e | e
      · have e' : some g1 = some g1' := e
        simp only [Option.some.injEq] at e'
        rw [← e']
        exact h.ne g1 _ _ (.inl rfl)
      · omega
    · exact h.ne g n c (.inr hh)
  · have hne : some gm ≠ Value.ownBlock (.slice (some ⟨g1, 0, none⟩) l1.length c1) := fun e => h.ne g1 _ _ (.inl rfl) (by have e' : some gm = some g1 := e; simpa using e')
    exact h.mark.of_block ((hgrow.block gm (by simp; omega) hne).trans (Below.heap_alloc _ _ _ hl))
theorem Thr.swap {w wr : World} {v1 v2 : Value} {l1 l2 : List OpE} {gm : Nat} {mk : Nat → Bool} (h : Thr w wr v1 v2 l1 l2 gm mk) : Thr w wr v2 v1 l2 l1 gm mk := ⟨h.two.swap, fun g n c hh => h.ne g n c hh.symm, h.mark, h.lo⟩
theorem Thr.push2 {w w1 wn : World} {g2 c2 g2' c2' : Nat} {v1 : Value} {l1 l2 : List OpE} {x : OpE} {o : Obj} {gm : Nat} {mk : Nat → Bool} (h : Thr w w1 v1 (.slice (some ⟨g2, 0, none⟩) l2.length c2) l1 l2 gm mk) (hown : wn.ownsRow w.heap.size eOp.T eOp.sz (.slice (some ⟨g2', 0, none⟩) (l2.length + 1) c2') (l2.length + 1) (ecells eOp l2 ++ eOp.enc x)) (hgrow : (w1.alloc o).grownBy wn (Value.ownBlock (.slice (some ⟨g2, 0, none⟩) l2.length c2))) (hat : Value.ownBlock (.slice (some ⟨g2, 0, none⟩) l2.length c2) = some g2' ∨ g2' = w1.heap.size + 1) :
    Thr w wn v1 (.slice (some ⟨g2', 0, none⟩) (l2.length + 1) c2') l1 (l2 ++ [x]) gm mk := (Thr.push1 h.swap hown hgrow hat).swap
theorem Thr.set {w wr : World} {v1 v2 : Value} {l1 l2 : List OpE} {gm : Nat} {mk mk' : Nat → Bool} {p : Nat} (h : Thr w wr v1 v2 l1 l2 gm mk) (hm : ∀ q, mk' q = (mk q || decide (q = p))) : Thr w (wr.setCell ⟨gm, p, none⟩ (.bool true)) v1 v2 l1 l2 gm mk' := by
  obtain ⟨⟨⟨g1, c1, g2, c2, e1, e2, h1, h2, hne⟩, hbel⟩, hn, hmk, hlo⟩ := h
  have n1 : gm ≠ g1 := hn g1 _ _ (.inl e1)
  have n2 : gm ≠ g2 := hn g2 _ _ (.inr e2)
  have hg : wr.grownBy (wr.setCell ⟨gm, p, none⟩ (.bool true)) (some gm) := eGrown_set (World.grownBy.refl _ _) _ _
  refine ⟨⟨⟨g1, c1, g2, c2, e1, e2, h1.kept hg ?_, h2.kept hg ?_, hne⟩, hbel.setCell hlo _⟩, hn, ?_, hlo⟩
  · intro k hk e
    have hk' : some g1 = some k := hk
    rw [← hk'] at e
    simp only [Option.some.injEq] at e
    exact n1 e.symm
  · intro k hk e
    have hk' : some g2 = some k := hk
    rw [← hk'] at e
    simp only [Option.some.injEq] at e
    exact n2 e.symm
  · have h5 := hmk.set p (.bool true)
    refine (show (wr.setCell ⟨gm, p, none⟩ (.bool true)).rowIs gm 4 4096 (fun q => .bool (mk' q)) from ?_)
    have e : (fun q => Value.bool (mk' q)) = (fun q => if q = p then Value.bool true else Value.bool (mk q)) := by
      funext q
      rw [hm q]
      by_cases hq : q = p
      · rw [if_pos hq, decide_eq_true hq, Bool.or_true]
      · rw [if_neg hq, decide_eq_false hq, Bool.or_false]
    rw [e]
    exact h5
theorem brkOps_succ (zs : List Int) (H : Nat → Ht) (all : List P3) (es : List En) (e : En) : brkOps zs H all (es ++ [e]) = brkOps zs H all es ++ (if brk zs H all e then [⟨1, e.ad, 0, 0⟩] else []) := by
  unfold brkOps
  rw [List.filter_append, List.map_append]
  cases h : brk zs H all e <;> simp [h]
theorem lnkOps_succ (zs : List Int) (H : Nat → Ht) (all : List P3) (es : List En) (e : En) : lnkOps zs H all (es ++ [e]) = lnkOps zs H all es ++ (if lnk zs H all e then [⟨1, e.ad, 0, rgt H all e.lv e.pg⟩] else []) := by
  unfold lnkOps
  rw [List.filter_append, List.map_append]
  cases h : lnk zs H all e <;> simp [h]
theorem mkB_succ (zs : List Int) (H : Nat → Ht) (all : List P3) (es : List En) (e : En) (p : Nat) : mkB zs H all (es ++ [e]) p = (mkB zs H all es p || (brk zs H all e && decide (e.pg ≤ p ∧ (p : Int) < e.pg + cov e.lv))) := by
  unfold mkB
  rw [List.any_append]
  simp
theorem brkOps_len (zs : List Int) (H : Nat → Ht) (all : List P3) (es : List En) : (brkOps zs H all es).length ≤ es.length := by
  unfold brkOps; rw [List.length_map]; exact List.length_filter_le _ _
theorem lnkOps_len (zs : List Int) (H : Nat → Ht) (all : List P3) (es : List En) : (lnkOps zs H all es).length ≤ es.length := by
  unfold lnkOps; rw [List.length_map]; exact List.length_filter_le _ _
theorem frOf_lt {n : Nat} {ps : List P3} (H : Nat → Ht) (hn : 0 < n) (h : PlcOk n ps) (lv pg : Int) : frOf (keptL H ps) lv pg < n := by
  by_cases h0 : 0 ≤ frOf (keptL H ps) lv pg
  · obtain ⟨q, hq, _, _, e⟩ := frOf_mem h0
    rw [← e]
    exact (h.fr (by omega) (kept_mem.1 hq).1).2
  · omega
/-- The entries of the kept tables: their levels, pages and addresses. -/
theorem ent_at {n : Nat} {ps : List P3} (H : Nat → Ht) (hn : 0 < n) (h : PlcOk n ps) (i : Nat) (hi : i < (enTo (keptL H ps) 4096).length) : ∃ lv pg ad : Nat, eAt eEn (enTo (keptL H ps) 4096) i = ⟨lv, pg, ad⟩ ∧ 1 ≤ lv ∧ lv ≤ 3 ∧ pg + epg lv ≤ 4096 ∧ ad < n * 16 := by
  have hm : eAt eEn (enTo (keptL H ps) 4096) i ∈ enTo (keptL H ps) 4096 := by
    unfold eAt
    rw [List.getD_eq_getElem?_getD, List.getElem?_eq_getElem hi]
    exact List.getElem_mem hi
  obtain ⟨page, lv, hp, h1, h3, hmod, e1, e2, h0, e3⟩ := enTo_mem hm
  have hf := frOf_lt H hn h lv (page - page % (epg lv * 16) : Nat)
  obtain ⟨F, hF⟩ : ∃ F : Nat, frOf (keptL H ps) lv (page - page % (epg lv * 16) : Nat) = F := ⟨(frOf (keptL H ps) lv (page - page % (epg lv * 16) : Nat)).toNat, by omega⟩
  rw [hF] at e3 hf
  refine ⟨lv, page, F * 16 + page / epg lv % 16, ?_, h1, h3, ?_, ?_⟩
  · rcases hx : eAt eEn (enTo (keptL H ps) 4096) i with ⟨a, b, c⟩
    rw [hx] at e1 e2 e3
    dsimp only at e1 e2 e3
    rw [e1, e2, e3]
    simp
  · rcases (show lv = 1 ∨ lv = 2 ∨ lv = 3 by omega) with rfl | rfl | rfl
    · have : page % 256 = 0 := hmod
      show page + 256 ≤ 4096
      omega
    · have : page % 16 = 0 := hmod
      show page + 16 ≤ 4096
      omega
    · show page + 1 ≤ 4096
      omega
  · have : page / epg lv % 16 < 16 := Nat.mod_lt _ (by decide)
    omega
theorem eOp_new (w : World) (x : OpE) : ERow eOp (w.alloc (.cells #[.int .i64 x.kind, .int .i64 x.a, .int .i64 x.b, .int .u64 x.word] 74)) w.heap.size (.slice (some ⟨w.heap.size, 0, none⟩) 1 1) [x] :=
  ⟨by simp [ecells, eOp], .inr ⟨w.heap.size, 1, #[.int .i64 x.kind, .int .i64 x.a, .int .i64 x.b, .int .u64 x.word], rfl, Nat.le_refl _, heap_alloc_new w _, Nat.le_refl _, by unfold maxLen; omega, by simp [eOp], by simp [ecells, eOp]⟩⟩
/-- An append onto the list in the making. -/
theorem appL (w wr : World) (v : Value) (l : List OpE) (a2 : Option Addr) (c2 b2 : Nat) (ys : List OpE) (hlen : l.length + ys.length ≤ 100000) (h : LSt eOp w wr v l) (h2 : ERow eOp wr b2 (.slice a2 ys.length c2) ys) (hne : ∀ k, Value.ownBlock (.slice a2 ys.length c2) = some k → ∀ g n c, v = .slice (some ⟨g, 0, none⟩) n c → k ≠ g) :
    Calls Tryz.prog 38 #[v, .slice a2 ys.length c2] wr fun e w' => ∃ v', e = .returned v' ∧ LSt eOp w w' v' (l ++ ys) ∧ (∀ k, k < wr.heap.size → (∀ g n c, v = .slice (some ⟨g, 0, none⟩) n c → k ≠ g) → w'.heap[k]? = wr.heap[k]?) ∧ wr.heap.size ≤ w'.heap.size ∧ (∀ g n c, v' = .slice (some ⟨g, 0, none⟩) n c → wr.heap.size ≤ g ∨ ∃ n c, v = .slice (some ⟨g, 0, none⟩) n c) := by
  obtain ⟨⟨g, c, rfl, hr⟩, hbel⟩ := h
  refine (l5Append_any g c w.heap.size l a2 c2 b2 ys wr hlen hbel.size hr h2 (fun k hk => hne k hk g _ _ rfl)).mono fun e w' ⟨v', he, hg⟩ => ?_
  obtain ⟨⟨g', c', e', hr', hg'⟩, hgr⟩ := hg
  have hgl := (hr.own g rfl).1
  refine ⟨v', he, ⟨⟨g', c', e', hr'⟩, ⟨hgr.os.trans hbel.os, hgr.tape.trans hbel.tape, hgr.output.trans hbel.output, Nat.le_trans hbel.size hgr.size, fun k hk => ?_⟩⟩, fun k hk hn => hgr.block k hk (fun e => hn g _ _ rfl (by simpa using e)), hgr.size, fun g0 n0 c0 e0 => ?_⟩
  · have h1 := hbel.size
    exact (hgr.block k (by omega) (fun e => by have h9 : k = g := (by simpa using e); omega)).trans (hbel.block k hk)
  · rw [e'] at e0
    simp only [Value.slice.injEq, Option.some.injEq, Addr.mk.injEq, and_true] at e0
    obtain ⟨rfl, _⟩ := e0
    rcases hg' with e | e
    · exact .inr ⟨_, _, by rw [e]⟩
    · exact .inl e
theorem freeTo_succ (gone : List P3) (t : Nat) : freeOps (t + 1) gone = freeOps t gone ++ (if hasFr gone (t : Nat) then [⟨4, (t : Nat), 0, 0⟩] else []) := by
  unfold freeOps
  rw [List.range_succ, List.filter_append, List.map_append]
  cases h : hasFr gone (t : Nat) <;> simp [h]
theorem freeOps_len (gone : List P3) (t : Nat) : (freeOps t gone).length ≤ t := by
  unfold freeOps
  rw [List.length_map]
  exact Nat.le_trans (List.length_filter_le _ _) (by rw [List.length_range]; omega)
theorem fillOne_succ (H : Nat → Ht) (all : List P3) (t : P3) (k : Nat) : fillOne H all t (k + 1) = fillOne H all t k ++ [⟨1, t.fr * 16 + (k : Nat), 0, rgt H all t.lv (t.pg + (k : Nat) * cov t.lv)⟩] := by
  unfold fillOne
  rw [List.range_succ, List.map_append]
  rfl
theorem fillOne_len (H : Nat → Ht) (all : List P3) (t : P3) (k : Nat) : (fillOne H all t k).length = k := by unfold fillOne; simp
theorem fillTo_succ (H : Nat → Ht) (all fs : List P3) (t : Nat) (ht : t < fs.length) : fillOps H all (fs.take (t + 1)) = fillOps H all (fs.take t) ++ fillOne H all (pAt fs t) 16 := by
  unfold fillOps
  rw [take_snocP fs t ht, List.flatMap_append]
  simp
theorem fillOps_len (H : Nat → Ht) (all fs : List P3) : (fillOps H all fs).length = fs.length * 16 := by
  unfold fillOps
  induction fs with
  | nil => rfl
  | cons p r ih => rw [List.flatMap_cons, List.length_append, ih, fillOne_len, List.length_cons]; omega
theorem fillOps_nil (H : Nat → Ht) (all fs : List P3) : fillOps H all fs = [] ↔ fs = [] := by
  constructor
  · intro h
    have := fillOps_len H all fs
    rw [h] at this
    simp at this
    exact List.eq_nil_of_length_eq_zero (by omega)
  · intro h; rw [h]; rfl
theorem headQ {BR T : List OpE} (h : ¬ BR = []) : (if BR.isEmpty then [] else ((BR ++ [dsbO]) ++ T) ++ [dsbO]) = (([] ++ BR ++ [dsbO]) ++ T) ++ [dsbO] := by
  rw [if_neg (by rw [List.isEmpty_iff]; exact h), List.nil_append]
theorem posB {α : Type} {BR : List α} (h : ¬ BR = []) : decide ((0 : Int) < (BR.length : Int)) = true := decide_eq_true (by have := List.length_pos_iff.2 h; omega)
theorem posB2 {α : Type} {BR : List α} (h : ¬ BR = []) : decide (0 < BR.length) = true := decide_eq_true (List.length_pos_iff.2 h)
theorem noB {α : Type} {BR : List α} (h : BR = []) : decide ((0 : Int) < (BR.length : Int)) = false ∧ decide (0 < BR.length) = false := by subst h; exact ⟨rfl, rfl⟩
theorem sealF0 (H : Nat → Ht) (AL FR : List P3) (O2 : List OpE) (h : FR = []) : O2 ++ sealO (fillOps H AL FR) = O2 ++ fillOps H AL FR := by rw [(fillOps_nil H AL FR).2 h, sealO_nil]
theorem sealF1 (H : Nat → Ht) (AL FR : List P3) (O2 : List OpE) (h : ¬ FR = []) : O2 ++ sealO (fillOps H AL FR) = (O2 ++ fillOps H AL FR) ++ [dsbO] := by rw [sealO_cons (fun e => h ((fillOps_nil H AL FR).1 e)), List.append_assoc]
end Go.Proofs.YtnmhkgmmpkjjeacGreat
