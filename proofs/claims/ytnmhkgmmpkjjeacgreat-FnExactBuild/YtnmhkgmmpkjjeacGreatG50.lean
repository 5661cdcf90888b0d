import Derived.Test.YtnmhkgmmpkjjeacGreatG03
import Derived.Test.YtnmhkgmmpkjjeacGreatG07
import Derived.Test.YtnmhkgmmpkjjeacGreatG43
import Derived.Test.YtnmhkgmmpkjjeacGreatG46
namespace Go.Proofs.YtnmhkgmmpkjjeacGreat
open Go.ChangeShapes Go.WideShapes Go.ChangeAt Go.RowKit
set_option linter.unusedVariables false
attribute [local go_sem ↓] Go.wp_at_zero Go.wp_at_succ

def eWord : Elt Int := ⟨70, 1, fun x => [.int .u64 x], 0, by omega, fun _ => rfl⟩
theorem IRow.erow {w : World} {g base : Nat} {zs : List Int} (h : IRow w g zs) (hb : base ≤ g) (hn : zs.length ≤ 1048576) : ERow eWord w base (.slice (some ⟨g, 0, none⟩) zs.length zs.length) zs := by
  refine ERow.of_row (cap := zs.length) rfl hb h (by simp [eWord]) (Nat.le_refl _) (by unfold maxLen; omega) ?_
  intro i hi j hj
  have : j = 0 := by simp [eWord] at hj; omega
  subst this
  simp [eCell, eWord, eAt]
/-- A slice of words, cell by cell. -/
theorem eWord_form {w : World} {base : Nat} {v : Value} {zs : List Int} (h : ERow eWord w base v zs) : ∃ a cap, v = .slice a zs.length cap ∧ (0 < zs.length → ∃ g N f, a = some ⟨g, 0, none⟩ ∧ base ≤ g ∧ w.rowIs g 70 N f ∧ zs.length ≤ N ∧ ∀ i, i < zs.length → f i = .int .u64 (zs.getD i 0)) := by
  obtain ⟨a, c, e, ha⟩ := h.form
  refine ⟨a, c, e, fun h0 => ?_⟩
  obtain ⟨g, N, f, p, q, r, s, t⟩ := ha h0
  refine ⟨g, N, f, p, q, r, by simpa [eWord] using s, fun i hi => ?_⟩
  have := t i hi 0 (by decide)
  simpa [eCell, eWord, eAt] using this

theorem eqU64S_same (v u : Value) (bv bu : Nat) (zs : List Int) (w : World) (hn : zs.length ≤ 1048576) (hv : ERow eWord w bv v zs) (hu : ERow eWord w bu u zs) :
    Calls Tryz.prog 50 #[v, u] w fun e w' => e = .returned (.bool true) ∧ Below w.heap.size w w' := by
  obtain ⟨a, c, rfl, ha⟩ := eWord_form hv
  obtain ⟨b, d, rfl, hb⟩ := eWord_form hu
  clear hv hu
  go_enter Tryz.func50, Tryz.ntmps50
  go_wp2
  go_loopw [5] (fun i wr => ∃ k : Nat, k ≤ zs.length ∧ i = .int .i64 k ∧ Below w.heap.size w wr) (fun i _ => zs.length - (intOf i).toNat)
  case atStart => exact ⟨0, Nat.zero_le _, rfl, Below.refl _ _⟩
  case round =>
    obtain ⟨k, hk, rfl, hbl⟩ := hrel
    by_cases hlt : k < zs.length
    · obtain ⟨g, N, f, rfl, _, hr, hN, hf⟩ := ha (by omega)
      obtain ⟨h, M, f', rfl, _, hr', hM, hf'⟩ := hb (by omega)
      have hr1 : wr.rowIs g 70 N f := hr.of_block (hbl.block g hr.lt)
      have hr2 : wr.rowIs h 70 M f' := hr'.of_block (hbl.block h hr'.lt)
      have c1 := hr1.cell (i := k) (by omega)
      have c2 := hr2.cell (i := k) (by omega)
      rw [hf k hlt] at c1
      rw [hf' k hlt] at c2
      generalize zs.getD k 0 = Z at *
      have L1 : (0 : Int) ≤ (k : Int) := by omega
      have L2 : (k : Int) < (zs.length : Int) := by omega
      have HB : Hid (Below _ _ _) := hbl
      clear ha hb hr hr' hr1 hr2 hf hf' hbl
      go_wp2
      go_quiet (fail)
      go_wp2
      go_roundw
      case rel => exact ⟨k + 1, by omega, by go_num, bDrewN HB.out _⟩
      case measure => simp [intOf]; omega
    · go_wp2
      go_ret
      exact ⟨rfl, hbl⟩
theorem eqMemE_same (v u : Value) (bv bu : Nat) (zs : List Int) (w : World) (hn : zs.length ≤ 1048576) (hv : ERow eWord w bv v zs) (hu : ERow eWord w bu u zs) :
    Calls Tryz.prog 13 #[.agg #[v], .agg #[u]] w fun e w' => e = .returned (.bool true) ∧ Below w.heap.size w w' := by
  have he := fun wX (hX : Below w.heap.size w wX) => eqU64S_same v u bv bu zs wX hn (hv.below hX) (hu.below hX)
  obtain ⟨a, c, rfl, _⟩ := eWord_form hv
  obtain ⟨b, d, rfl, _⟩ := eWord_form hu
  have HE : Hid _ := he
  clear he
  go_enter Tryz.func13, Tryz.ntmps13
  go_wp2_with fail
  refine (HE.out _ ?_).mono ?_
  · exact ((Below.refl _ _).alloc (Nat.le_refl _) _).alloc (by simp) _
  rintro e w1 ⟨rfl, hb⟩
  go_wp2
  go_ret
  exact ⟨rfl, (((Below.refl _ _).alloc (Nat.le_refl _) _).alloc (by simp) _).trans (hb.mono (by simp <;> omega))⟩

def markWord (s : Int) (i _j : Nat) : Value := .int .u64 (s + i)
theorem markU64S_any (v : Value) (bv : Nat) (zs : List Int) (s : Int) (w : World) (hs0 : 0 ≤ s) (hs1 : s ≤ 100000000) (hn : zs.length ≤ 1048576) (hv : ERow eWord w bv v zs) :
    Calls Tryz.prog 52 #[v, .int .i64 s] w fun e w' => e = .returned (.int .i64 (s + zs.length)) ∧ EHas eWord w' v zs.length (markWord s) ∧ w.grownBy w' v.ownBlock := by
  obtain ⟨a, c, rfl, ha⟩ := eWord_form hv
  by_cases h0 : zs.length = 0
  · rw [h0]
    clear ha hv
    go_enter Tryz.func52, Tryz.ntmps52
    go_wp2
    go_loopw [1, 5] (fun m i wr => i = .int .i64 0 ∧ m = .int .i64 s ∧ wr = w) (fun _ i _ => 0)
    case atStart => exact ⟨rfl, rfl, rfl⟩
    case round =>
      obtain ⟨rfl, rfl, rfl⟩ := hrel
      go_wp2
      go_ret
      exact ⟨by simp, ⟨a, c, rfl, fun h => absurd h (by omega)⟩, World.grownBy.refl _ _⟩
  · obtain ⟨g, N, f, rfl, _, hr, hN, hf⟩ := ha (by omega)
    clear ha hf hv
    go_enter Tryz.func52, Tryz.ntmps52
    go_wp2
    go_loopw [1, 5] (fun m i wr => ∃ k : Nat, k ≤ zs.length ∧ i = .int .i64 k ∧ m = .int .i64 (s + k) ∧ (∃ f, wr.rowIs g 70 N f ∧ ∀ i, i < k → f i = .int .u64 (s + i)) ∧ w.grownBy wr (some g)) (fun _ i _ => zs.length - (intOf i).toNat)
    case atStart => exact ⟨0, Nat.zero_le _, rfl, by simp, ⟨_, hr, fun i hi => absurd hi (by omega)⟩, World.grownBy.refl _ _⟩
    case round =>
      obtain ⟨k, hk, rfl, rfl, ⟨f, hrow, hf⟩, hb⟩ := hrel
      by_cases hlt : k < zs.length
      · have HF : Hid _ := hf
        have HROW : Hid (wr.rowIs g _ N f) := hrow
        have HB : Hid (w.grownBy wr _) := hb
        have f0 := hrow.frozen k
        have o0 := hrow.cell (i := k) (by omega)
        generalize f k = u100 at o0
        have L1 : (0 : Int) ≤ (k : Int) := by omega
        have L2 : (k : Int) < (zs.length : Int) := by omega
        clear hf hrow hb hr
        go_wp2
        go_roundw
        case rel =>
          refine ⟨k + 1, by omega, by go_num, by go_num, ⟨_, HROW.out.set k _, ?_⟩, eGrown_set HB.out _ _⟩
          intro i hi
          by_cases e : i = k
          · subst e; simp
          · rw [if_neg e]; exact HF.out i (by omega)
        case measure => simp [intOf]; omega
      · have e : k = zs.length := by omega
        subst e
        go_wp2
        go_ret
        refine ⟨rfl, ⟨_, c, rfl, fun _ => ⟨g, N, f, rfl, hrow, by simpa [eWord] using hN, fun i hi j hj => ?_⟩⟩, hb⟩
        have : j = 0 := by simp [eWord] at hj; omega
        subst this
        simpa [eWord, markWord] using hf i hi
theorem markMemE_any (v : Value) (bv : Nat) (zs : List Int) (s : Int) (w : World) (hs0 : 0 ≤ s) (hs1 : s ≤ 100000000) (hn : zs.length ≤ 1048576) (hv : ERow eWord w bv v zs) :
    Calls Tryz.prog 15 #[.agg #[v], .int .i64 s] w fun e w' => e = .returned (.int .i64 (s + zs.length)) ∧ EHas eWord w' v zs.length (markWord s) ∧ w.grownBy w' v.ownBlock := by
  have he := fun wX (hX : Below w.heap.size w wX) => markU64S_any v bv zs s wX hs0 hs1 hn (hv.below hX)
  obtain ⟨a, c, rfl, _⟩ := eWord_form hv
  have HE : Hid _ := he
  clear he
  go_enter Tryz.func15, Tryz.ntmps15
  go_wp2_with fail
  refine (HE.out _ ?_).mono ?_
  · exact (Below.refl _ _).alloc (Nat.le_refl _) _
  rintro e w1 ⟨rfl, hh, hb⟩
  have HH : Hid (EHas _ _ _ _ _) := hh
  clear hh
  go_wp2
  go_ret
  refine ⟨rfl, HH.out, hb.os, hb.tape, hb.output, ?_, fun j hj hne => ?_⟩
  · have := hb.size; simp at this; omega
  · exact (hb.block j (by simp; omega) hne).trans (Below.heap_alloc _ _ _ hj)

theorem heldU64S_any (v : Value) (n : Nat) (s : Int) (w : World) (hs0 : 0 ≤ s) (hs1 : s ≤ 100000000) (hn : n ≤ 1048576) (hv : EHas eWord w v n (markWord s)) :
    Calls Tryz.prog 53 #[v, .int .i64 s] w fun e w' => e = .returned (.int .i64 (s + n)) ∧ Below w.heap.size w w' := by
  obtain ⟨a, c, rfl, ha⟩ := hv
  go_enter Tryz.func53, Tryz.ntmps53
  go_wp2
  go_loopw [1, 5] (fun m i wr => ∃ k : Nat, k ≤ n ∧ i = .int .i64 k ∧ m = .int .i64 (s + k) ∧ Below w.heap.size w wr) (fun _ i _ => n - (intOf i).toNat)
  case atStart => exact ⟨0, Nat.zero_le _, rfl, by simp, Below.refl _ _⟩
  case round =>
    obtain ⟨k, hk, rfl, rfl, hb⟩ := hrel
    by_cases hlt : k < n
    · obtain ⟨g, N, f, rfl, hr, hN, hf⟩ := ha (by omega)
      have hN' : n ≤ N := by simpa [eWord] using hN
      have hr1 : wr.rowIs g 70 N f := hr.of_block (hb.block g hr.lt)
      have c0 := hr1.cell (i := k) (by omega)
      have e0 : f k = .int .u64 (s + k) := by simpa [eWord, markWord] using hf k hlt 0 (by decide)
      rw [e0] at c0
      have L1 : (0 : Int) ≤ (k : Int) := by omega
      have L2 : (k : Int) < (n : Int) := by omega
      clear hf ha hr hr1 hN e0
      go_wp2
      go_roundw
      case rel => exact ⟨k + 1, by omega, by go_num, by go_num, hb⟩
      case measure => simp [intOf]; omega
    · have e : k = n := by omega
      subst e
      go_wp2
      go_ret
      exact ⟨rfl, hb⟩
theorem heldMemE_any (v : Value) (n : Nat) (s : Int) (w : World) (hs0 : 0 ≤ s) (hs1 : s ≤ 100000000) (hn : n ≤ 1048576) (hv : EHas eWord w v n (markWord s)) :
    Calls Tryz.prog 21 #[.agg #[v], .int .i64 s] w fun e w' => e = .returned (.int .i64 (s + n)) ∧ Below w.heap.size w w' := by
  have he := fun wX (hX : Below w.heap.size w wX) => heldU64S_any v n s wX hs0 hs1 hn (hv.below hX)
  obtain ⟨a, c, rfl, _⟩ := hv
  have HE : Hid _ := he
  clear he
  go_enter Tryz.func21, Tryz.ntmps21
  go_wp2_with fail
  refine (HE.out _ ?_).mono ?_
  · exact (Below.refl _ _).alloc (Nat.le_refl _) _
  rintro e w1 ⟨rfl, hb⟩
  go_wp2
  go_ret
  exact ⟨rfl, ((Below.refl _ _).alloc (Nat.le_refl _) _).trans (hb.mono (by simp))⟩
end Go.Proofs.YtnmhkgmmpkjjeacGreat
namespace Go.Proofs.YtnmhkgmmpkjjeacGreat
open Go.ChangeShapes Go.WideShapes Go.ChangeAt Go.RowKit
set_option linter.unusedVariables false

/-! The writes of a program over a memory. -/
def wr1 (zs : List Int) (o : OpE) : List Int := if o.kind = 1 then zs.set o.a.toNat o.word else zs
def wrs (zs : List Int) (l : List OpE) : List Int := l.foldl wr1 zs
theorem wr1_len (zs : List Int) (o : OpE) : (wr1 zs o).length = zs.length := by unfold wr1; split <;> simp
theorem wrs_len (l : List OpE) : ∀ zs : List Int, (wrs zs l).length = zs.length := by
  induction l with
  | nil => intro zs; rfl
  | cons o r ih =>
    intro zs
    show (wrs (wr1 zs o) r).length = zs.length
    rw [ih, wr1_len]
theorem wrs_succ (zs : List Int) (l : List OpE) (i : Nat) (hi : i < l.length) : wrs zs (l.take (i + 1)) = wr1 (wrs zs (l.take i)) (eAt eOp l i) := by
  unfold wrs
  rw [take_snocE eOp l i hi, List.foldl_append]
  rfl
/-- Each write is into the memory. -/
def OpsIn (n : Nat) (l : List OpE) : Prop := ∀ o ∈ l, o.kind = 1 → 0 ≤ o.a ∧ o.a < n
theorem OpsIn.app {n : Nat} {l m : List OpE} (h1 : OpsIn n l) (h2 : OpsIn n m) : OpsIn n (l ++ m) := fun o ho => (List.mem_append.1 ho).elim (h1 o) (h2 o)
theorem OpsIn.seal {n : Nat} {l : List OpE} (h : OpsIn n l) : OpsIn n (sealO l) := by
  unfold sealO
  split
  · intro o ho; cases ho
  · refine h.app (fun o ho hk => ?_)
    rw [List.mem_singleton] at ho
    subst ho
    cases hk
theorem ent_in {n : Nat} {ps : List P3} (H : Nat → Ht) (hn : 0 < n) (h : PlcOk n ps) {e : En} (he : e ∈ entL H ps) : 0 ≤ e.ad ∧ e.ad < (n * 16 : Nat) := by
  obtain ⟨page, lv, hp, h1, h3, hmod, e1, e2, h0, e3⟩ := enTo_mem he
  have hf := frOf_lt H hn h lv (page - page % (epg lv * 16) : Nat)
  have hm : page / epg lv % 16 < 16 := Nat.mod_lt _ (by decide)
  rw [e3]
  omega
theorem planL_in {xs : List SpanE} {zs : List Int} {n : Nat} {ps : List P3} (hn : 0 < n) (h : PlcOk n ps) (hw : (wPre (lay xs) 256).length ≤ n) : OpsIn (n * 16) (planL zs n (lay xs) ps) := by
  unfold planL
  refine OpsIn.app (OpsIn.seal (fun o ho hk => ?_)) (OpsIn.app (OpsIn.seal (fun o ho hk => ?_)) (OpsIn.app (fun o ho hk => ?_) (OpsIn.app (OpsIn.seal (fun o ho hk => ?_)) (OpsIn.seal (fun o ho hk => ?_)))))
  · unfold brkOps at ho
    obtain ⟨e, he, rfl⟩ := List.mem_map.1 ho
    exact ent_in (lay xs) hn h (List.mem_filter.1 he).1
  · unfold tlbOps at ho
    obtain ⟨e, he, rfl⟩ := List.mem_map.1 ho
    cases hk
  · unfold freeOps at ho
    obtain ⟨e, he, rfl⟩ := List.mem_map.1 ho
    cases hk
  · unfold fillOps at ho
    obtain ⟨t, ht, ho⟩ := List.mem_flatMap.1 ho
    unfold fillOne at ho
    obtain ⟨i, hi, rfl⟩ := List.mem_map.1 ho
    obtain ⟨F, lv, pg, rfl, _, _, _, _, _, hF⟩ := all_mem hn h hw (List.mem_append_right _ ht)
    have := List.mem_range.1 hi
    show 0 ≤ (F : Int) * 16 + (i : Nat) ∧ (F : Int) * 16 + (i : Nat) < _
    omega
  · unfold lnkOps at ho
    obtain ⟨e, he, rfl⟩ := List.mem_map.1 ho
    exact ent_in (lay xs) hn h (List.mem_filter.1 he).1
theorem planF_in (zs : List Int) (xs : List SpanE) : OpsIn zs.length (planF zs xs).1 := by
  by_cases hpt : ptree zs = true
  · by_cases hvb : vsB xs = true
    · by_cases hfr : nfr zs.length < ((wPre (lay xs) 256).length : Nat)
      · rw [planF_3 hpt hvb hfr]; intro o ho; cases ho
      · rw [planF_0 hpt hvb hfr]
        have hnf := ptree_nfr hpt
        obtain ⟨hnm, hn1⟩ := nfr_mul zs.length hnf
        obtain ⟨n, hnn⟩ : ∃ n : Nat, nfr zs.length = n := ⟨(nfr zs.length).toNat, by omega⟩
        have hpo : PlcOk n (plist zs) := by rw [← hnn]; exact plcOk_plist zs hnf
        have hT : (nfr zs.length).toNat = n := by rw [hnn]; rfl
        rw [hT]
        have := planL_in (xs := xs) (zs := zs) (n := n) (ps := plist zs) (by omega) hpo (by omega)
        rwa [show n * 16 = zs.length by omega] at this
    · have hvb' : vsB xs = false := by simpa using hvb
      rw [planF_2 hpt hvb']; intro o ho; cases ho
  · have hpt' : ptree zs = false := by simpa using hpt
    rw [planF_1 hpt']; intro o ho; cases ho
theorem planF_len0 (zs : List Int) (xs : List SpanE) : (planF zs xs).1.length ≤ 200000 := by
  by_cases hpt : ptree zs = true
  · by_cases hvb : vsB xs = true
    · by_cases hfr : nfr zs.length < ((wPre (lay xs) 256).length : Nat)
      · rw [planF_3 hpt hvb hfr]; exact Nat.zero_le _
      · rw [planF_0 hpt hvb hfr]
        have hnl := nfr_le zs.length
        have hn0 := (nfr_mul zs.length (ptree_nfr hpt)).2
        have hlen : (newL (lay xs) (plist zs)).length ≤ (wPre (lay xs) 256).length := frTo_len (keptL (lay xs) (plist zs)) (wPre (lay xs) 256) _ (Nat.le_refl _)
        have := xAcc_len zs (lay xs) (nfr zs.length).toNat (keptL (lay xs) (plist zs)) (goneL (lay xs) (plist zs)) (newL (lay xs) (plist zs)) (by have := ret_len (goneL (lay xs) (plist zs)) (nfr zs.length).toNat; omega) (by omega) 5
        rw [planL_acc] at this
        show (planL zs (nfr zs.length).toNat (lay xs) (plist zs)).length ≤ 200000
        omega
    · have hvb' : vsB xs = false := by simpa using hvb
      rw [planF_2 hpt hvb']; exact Nat.zero_le _
  · have hpt' : ptree zs = false := by simpa using hpt
    rw [planF_1 hpt']; exact Nat.zero_le _
def zeroZ (F : Nat) : List Int := List.replicate (F * 16) 0
theorem zeroZ_len (F : Nat) : (zeroZ F).length = F * 16 := by unfold zeroZ; simp
theorem zeroZ_at (F i : Nat) : (zeroZ F).getD i 0 = 0 := by
  unfold zeroZ
  rw [List.getD_eq_getElem?_getD, List.getElem?_replicate]
  split <;> rfl
/-- What Build answers: the words and the code. -/
def buildF (xs : List SpanE) (fr : Int) : List Int × Int :=
  if vsB xs = false then ([], 1) else if fr < 1 ∨ 512 < fr then ([], 2) else if (planF (zeroZ fr.toNat) xs).2 ≠ 0 then ([], 3)
  else (wrs (zeroZ fr.toNat) (planF (zeroZ fr.toNat) xs).1, 0)
theorem buildF_len (xs : List SpanE) (fr : Int) : (buildF xs fr).1.length ≤ 8192 := by
  unfold buildF
  split
  · exact Nat.zero_le _
  · split
    · exact Nat.zero_le _
    · split
      · exact Nat.zero_le _
      · show (wrs _ _).length ≤ 8192
        rw [wrs_len, zeroZ_len]
        omega
def BuildPost (w : World) (r : List Int × Int) (e : Ending) (w' : World) : Prop :=
  ∃ a c, e = .returned (.tuple #[.agg #[.slice a r.1.length c], .int .i64 r.2]) ∧ ERow eWord w' w.heap.size (.slice a r.1.length c) r.1 ∧ Below w.heap.size w w'
theorem eWord_nil (w : World) (B : Nat) : ERow eWord w B (.slice none 0 0) [] := ⟨by simp [ecells], .inl ⟨rfl, rfl⟩⟩
theorem IRow.put {w : World} {g k : Nat} {zs : List Int} {x : Int} (h : IRow w g zs) : IRow (w.setCell ⟨g, k, none⟩ (.int .u64 x)) g (zs.set k x) := by
  unfold IRow at h ⊢
  rw [List.length_set]
  refine (World.rowIs.set h k (.int .u64 x)).congr (fun i hi => ?_)
  rw [List.getD_eq_getElem?_getD, List.getD_eq_getElem?_getD, List.getElem?_set]
  by_cases e : i = k
  · rw [if_pos e, if_pos e.symm, if_pos (by omega)]; rfl
  · rw [if_neg e, if_neg (fun e2 => e e2.symm)]
theorem IRow.tch {w w' : World} {g : Nat} {zs : List Int} {S : Nat → Prop} (h : IRow w g zs) (hg : Tch S w w') (hn : ¬ S g) : IRow w' g zs := World.rowIs.of_block h (hg.block g h.lt hn)
theorem op_cells {w : World} {b g c n : Nat} {xs : List OpE} (h : ERow eOp w b (.slice (some ⟨g, 0, none⟩) n c) xs) (i : Nat) (hi : i < xs.length) : g < w.heap.size ∧ w.cell? ⟨g, i * 4, none⟩ = some (.int .i64 (eAt eOp xs i).kind) ∧ w.cell? ⟨g, i * 4 + 1, none⟩ = some (.int .i64 (eAt eOp xs i).a) ∧ w.cell? ⟨g, i * 4 + 2, none⟩ = some (.int .i64 (eAt eOp xs i).b) ∧ w.cell? ⟨g, i * 4 + 3, none⟩ = some (.int .u64 (eAt eOp xs i).word) := by
  obtain ⟨a, c', e, h1⟩ := h.form
  obtain ⟨g', N, f, e2, _, hr, hN, hf⟩ := h1 (by omega)
  have hN' : xs.length * 4 ≤ N := hN
  simp only [Value.slice.injEq] at e
  obtain ⟨e, _, _⟩ := e
  rw [e2] at e
  simp only [Option.some.injEq, Addr.mk.injEq, and_true] at e
  subst e
  have a0 : f (i * 4 + 0) = eCell eOp xs i 0 := hf i hi 0 (by decide)
  have a1 : f (i * 4 + 1) = eCell eOp xs i 1 := hf i hi 1 (by decide)
  have a2 : f (i * 4 + 2) = eCell eOp xs i 2 := hf i hi 2 (by decide)
  have a3 : f (i * 4 + 3) = eCell eOp xs i 3 := hf i hi 3 (by decide)
  exact ⟨hr.lt, (hr.cell (by omega)).trans (congrArg some a0), (hr.cell (by omega)).trans (congrArg some a1), (hr.cell (by omega)).trans (congrArg some a2), (hr.cell (by omega)).trans (congrArg some a3)⟩
end Go.Proofs.YtnmhkgmmpkjjeacGreat
