import Derived.Test.YtnmhkgmmpkjjeacGreatG18
import Derived.Test.YtnmhkgmmpkjjeacGreatG07
import Derived.Test.YtnmhkgmmpkjjeacGreatG02
import Derived.Test.YtnmhkgmmpkjjeacGreatG20
namespace Go.Proofs.YtnmhkgmmpkjjeacGreat
set_option linter.unusedVariables false

/-! The seats that are wanted, against those that are kept; the frames of the new tables. -/
def skey (s : Nat × Nat) : Nat := s.2 * 4 + s.1
theorem wOne_mem {H : Nat → Ht} {g : Nat} {s : Nat × Nat} (h : s ∈ wOne H g) : (s = (2, g * 16) ∧ g % 16 = 0 ∧ nd H 2 (g * 16) = true) ∨ (s = (3, g * 16) ∧ nd H 3 (g * 16) = true) := by
  unfold wOne st at h
  rcases List.mem_append.1 h with h | h
  · split at h
    · rename_i hh
      rw [List.mem_singleton] at h
      exact .inl ⟨h, hh⟩
    · cases h
  · split at h
    · rename_i hh
      rw [List.mem_singleton] at h
      exact .inr ⟨h, hh⟩
    · cases h
theorem wOne_sorted (H : Nat → Ht) (g : Nat) : (wOne H g).Pairwise (fun a b => skey a < skey b) := by
  unfold wOne st
  split <;> split <;> simp [skey]
theorem wPre_facts (H : Nat → Ht) : ∀ g, (∀ s ∈ wPre H g, skey s < g * 64 + 2) ∧ (wPre H g).Pairwise (fun a b => skey a < skey b)
  | 0 => by
    have e : wPre H 0 = [(1, 0)] := rfl
    rw [e]
    exact ⟨fun s hs => by rw [List.mem_singleton] at hs; subst hs; decide, List.pairwise_singleton _ _⟩
  | g + 1 => by
    obtain ⟨h1, h2⟩ := wPre_facts H g
    rw [wPre_succ]
    have hk : ∀ s ∈ wOne H g, g * 64 + 2 ≤ skey s ∧ skey s < (g + 1) * 64 + 2 := fun s hs => by
      rcases wOne_mem hs with ⟨rfl, _⟩ | ⟨rfl, _⟩ <;> (unfold skey; dsimp only; omega)
    refine ⟨fun s hs => ?_, ?_⟩
    · rcases List.mem_append.1 hs with hs | hs
      · have := h1 s hs; omega
      · exact (hk s hs).2
    · rw [List.pairwise_append]
      refine ⟨h2, wOne_sorted H g, fun a ha b hb => ?_⟩
      have := h1 a ha
      have := (hk b hb).1
      omega
theorem wPre_sorted (H : Nat → Ht) (g : Nat) : (wPre H g).Pairwise (fun a b => skey a < skey b) := (wPre_facts H g).2
theorem wPre_mem {H : Nat → Ht} {n : Nat} {s : Nat × Nat} : s ∈ wPre H n ↔ s = (1, 0) ∨ ∃ g, g < n ∧ s ∈ wOne H g := by
  unfold wPre
  rw [List.mem_cons, List.mem_flatMap]
  exact or_congr Iff.rfl ⟨fun ⟨g, a, b⟩ => ⟨g, List.mem_range.1 a, b⟩, fun ⟨g, a, b⟩ => ⟨g, List.mem_range.2 a, b⟩⟩
/-- The seat of each wanted table. -/
theorem wanted_cases {H : Nat → Ht} {s : Nat × Nat} (h : s ∈ wPre H 256) : 1 ≤ s.1 ∧ s.1 ≤ 3 ∧ s.2 + tpg s.1 ≤ 4096 ∧ nd H s.1 s.2 = true ∧ (s.1 = 1 → s.2 = 0) ∧ s.2 % tpg s.1 = 0 := by
  rcases wPre_mem.1 h with rfl | ⟨g, hg, hs⟩
  · exact ⟨by decide, by decide, by decide, nd_one H 0, fun _ => rfl, by decide⟩
  · rcases wOne_mem hs with ⟨rfl, hm, hn⟩ | ⟨rfl, hn⟩
    · exact ⟨show 1 ≤ 2 by decide, show 2 ≤ 3 by decide, show g * 16 + 256 ≤ 4096 by omega, hn, fun h => absurd (show (2 : Nat) = 1 from h) (by decide), show g * 16 % 256 = 0 by omega⟩
    · exact ⟨show 1 ≤ 3 by decide, show 3 ≤ 3 by decide, show g * 16 + 16 ≤ 4096 by omega, hn, fun h => absurd (show (3 : Nat) = 1 from h) (by decide), show g * 16 % 16 = 0 by omega⟩
theorem wanted_2 {H : Nat → Ht} {i : Nat} (hi : i < 16) (h : nd H 2 (i * 256) = true) : (2, i * 256) ∈ wPre H 256 := by
  refine wPre_mem.2 (.inr ⟨i * 16, by omega, ?_⟩)
  unfold wOne
  rw [show i * 16 * 16 = i * 256 by omega, if_pos ⟨by omega, h⟩]
  exact List.mem_append_left _ (List.mem_singleton.2 rfl)
theorem wanted_3 {H : Nat → Ht} {g : Nat} (hg : g < 256) (h : nd H 3 (g * 16) = true) : (3, g * 16) ∈ wPre H 256 := by
  refine wPre_mem.2 (.inr ⟨g, hg, ?_⟩)
  unfold wOne st
  rw [h]
  exact List.mem_append_right _ (List.mem_singleton.2 rfl)
/-- Each kept table is wanted. -/
theorem kept_wanted {H : Nat → Ht} {n : Int} {ps : List P3} (h : PlcOk n ps) {q : P3} (hq : q ∈ keptL H ps) : (q.lv.toNat, q.pg.toNat) ∈ wPre H 256 ∧ ((q.lv.toNat : Nat) : Int) = q.lv ∧ ((q.pg.toNat : Nat) : Int) = q.pg := by
  obtain ⟨h1, h2⟩ := kept_mem.1 hq
  unfold ndP at h2
  rcases h.mem q h1 with e | ⟨i, hi, e1, e2, _⟩ | ⟨i, j, hi, hj, e1, e2, _⟩
  · rw [e]
    exact ⟨wPre_mem.2 (.inl rfl), rfl, rfl⟩
  · rw [e1, e2] at h2 ⊢
    have e3 : (2 : Int).toNat = 2 := rfl
    have e4 : ((i * 256 : Nat) : Int).toNat = i * 256 := rfl
    rw [e3, e4] at h2 ⊢
    exact ⟨wanted_2 hi h2, rfl, rfl⟩
  · rw [e1, e2] at h2 ⊢
    have e3 : (3 : Int).toNat = 3 := rfl
    have e4 : ((i * 256 + j * 16 : Nat) : Int).toNat = i * 256 + j * 16 := rfl
    rw [e3, e4] at h2 ⊢
    rw [show i * 256 + j * 16 = (i * 16 + j) * 16 by omega] at h2 ⊢
    exact ⟨wanted_3 (by omega) h2, rfl, rfl⟩
theorem sub_len {α : Type} [BEq α] [LawfulBEq α] : ∀ (l m : List α), l.Pairwise (fun a b => a ≠ b) → (∀ x ∈ l, x ∈ m) → l.length ≤ m.length
  | [], m, _, _ => Nat.zero_le _
  | x :: r, m, hp, hs => by
    obtain ⟨h1, h2⟩ := List.pairwise_cons.1 hp
    have hx : x ∈ m := hs x (List.mem_cons_self ..)
    have := sub_len r (m.erase x) h2 (fun y hy => (List.mem_erase_of_ne (fun e => h1 y hy e.symm)).2 (hs y (List.mem_cons_of_mem _ hy)))
    rw [List.length_erase_of_mem hx] at this
    have hpos : 0 < m.length := List.length_pos_of_mem hx
    rw [List.length_cons]
    omega
def isK (kept : List P3) (s : Nat × Nat) : Bool := decide (0 ≤ frOf kept s.1 s.2)
theorem kept_le {H : Nat → Ht} {n : Int} {ps : List P3} (hn : 0 < n) (h : PlcOk n ps) : (keptL H ps).length ≤ (wPre H 256).countP (isK (keptL H ps)) := by
  have hs := kept_sorted H h
  have hl : ((keptL H ps).map (fun q => (q.lv.toNat, q.pg.toNat))).length ≤ ((wPre H 256).filter (isK (keptL H ps))).length := by
    refine sub_len _ _ ?_ ?_
    · rw [List.pairwise_map]
      refine List.Pairwise.imp_of_mem ?_ hs
      intro a b ha hb hlt e
      obtain ⟨_, a1, a2⟩ := kept_wanted h ha
      obtain ⟨_, b1, b2⟩ := kept_wanted h hb
      simp only [Prod.mk.injEq] at e
      unfold key at hlt
      rw [← a1, ← a2, ← b1, ← b2, e.1, e.2] at hlt
      omega
    · intro x hx
      obtain ⟨q, hq, rfl⟩ := List.mem_map.1 hx
      obtain ⟨h1, h2, h3⟩ := kept_wanted h hq
      refine List.mem_filter.2 ⟨h1, ?_⟩
      unfold isK
      dsimp only
      rw [h2, h3, frOf_at hs hq]
      exact decide_eq_true (h.fr hn (kept_mem.1 hq).1).1
  rwa [List.length_map, ← List.countP_eq_length_filter] at hl
theorem frTo_count (kept : List P3) (ws : List (Nat × Nat)) : ∀ k, k ≤ ws.length → (frTo kept ws k).length + (ws.take k).countP (isK kept) = k
  | 0, _ => by rw [frTo_zero]; simp
  | k + 1, h => by
    have ih := frTo_count kept ws k (by omega)
    rw [frTo_succ kept ws k (by omega), List.take_succ_eq_append_getElem (by omega), List.countP_append]
    unfold frStep
    by_cases hc : frOf kept (ws[k]'(by omega)).1 (ws[k]'(by omega)).2 < 0
    · rw [if_pos hc, List.length_append, List.length_singleton]
      have : List.countP (isK kept) [ws[k]'(by omega)] = 0 := by
        rw [List.countP_singleton]
        unfold isK
        rw [if_neg (by simp; omega)]
      omega
    · rw [if_neg hc]
      have : List.countP (isK kept) [ws[k]'(by omega)] = 1 := by
        rw [List.countP_singleton]
        unfold isK
        rw [if_pos (by simp; omega)]
      omega
/-- There is a frame for each new table. -/
theorem fresh_room {H : Nat → Ht} {n : Int} {ps : List P3} (hn : 0 < n) (h : PlcOk n ps) (k : Nat) (hk : k < (wPre H 256).length) (hf : frOf (keptL H ps) ((wPre H 256)[k]).1 ((wPre H 256)[k]).2 < 0) : (keptL H ps ++ frTo (keptL H ps) (wPre H 256) k).length < (wPre H 256).length := by
  have h1 := kept_le (H := H) hn h
  have h2 := frTo_count (keptL H ps) (wPre H 256) k (by omega)
  have e : (wPre H 256).countP (isK (keptL H ps)) = ((wPre H 256).take k).countP (isK (keptL H ps)) + ((wPre H 256).drop k).countP (isK (keptL H ps)) := by
    rw [← List.countP_append, List.take_append_drop]
  have e2 : (wPre H 256).drop k = (wPre H 256)[k] :: (wPre H 256).drop (k + 1) := List.drop_eq_getElem_cons hk
  have e3 : ((wPre H 256).drop k).countP (isK (keptL H ps)) ≤ (wPre H 256).length - (k + 1) := by
    rw [e2, List.countP_cons_of_neg (by unfold isK; simp; omega)]
    have := List.countP_le_length (p := isK (keptL H ps)) (l := (wPre H 256).drop (k + 1))
    rwa [List.length_drop] at this
  rw [List.length_append]
  omega
/-- The new tables: their seats are wanted and not kept, their frames are there. -/
theorem fresh_mem {H : Nat → Ht} {n : Nat} {ps : List P3} (hn : 0 < n) (h : PlcOk n ps) (hw : (wPre H 256).length ≤ n) : ∀ k, k ≤ (wPre H 256).length → ∀ q ∈ frTo (keptL H ps) (wPre H 256) k, ∃ j, ∃ hj : j < k, ∃ hj2 : j < (wPre H 256).length, q.lv = ((wPre H 256)[j]).1 ∧ q.pg = ((wPre H 256)[j]).2 ∧ frOf (keptL H ps) q.lv q.pg < 0 ∧ ∃ F : Nat, q.fr = F ∧ F < n
  | 0, _, q, hq => by rw [frTo_zero] at hq; cases hq
  | k + 1, hk, q, hq => by
    rw [frTo_succ _ _ k (by omega)] at hq
    unfold frStep at hq
    split at hq
    · rename_i hf
      rcases List.mem_append.1 hq with hq | hq
      · obtain ⟨j, hj, r⟩ := fresh_mem hn h hw k (by omega) q hq
        exact ⟨j, by omega, r⟩
      · rw [List.mem_singleton] at hq
        have hr := fresh_room (H := H) (n := n) (by omega) h k (by omega) hf
        have hl := (lowF_spec (keptL H ps ++ frTo (keptL H ps) (wPre H 256) k)).1
        subst hq
        exact ⟨k, by omega, by omega, rfl, rfl, hf, _, rfl, by omega⟩
    · obtain ⟨j, hj, r⟩ := fresh_mem hn h hw k (by omega) q hq
      exact ⟨j, by omega, r⟩
end Go.Proofs.YtnmhkgmmpkjjeacGreat
namespace Go.Proofs.YtnmhkgmmpkjjeacGreat
open Go.ChangeShapes Go.WideShapes Go.ChangeAt Go.RowKit
set_option linter.unusedVariables false

/-- An operation. -/
structure OpE where
  kind : Int
  a : Int
  b : Int
  word : Int
def eOp : Elt OpE := ⟨74, 4, fun x => [.int .i64 x.kind, .int .i64 x.a, .int .i64 x.b, .int .u64 x.word], ⟨0, 0, 0, 0⟩, by omega, fun _ => rfl⟩
theorem infoOp : (Tryz.prog.info? 74).map (fun i => (i.zero, i.size, i.bytes)) = some (some (.agg #[.int .i64 0, .int .i64 0, .int .i64 0, .int .u64 0]), 4, 32) := by kernel_rfl

end Go.Proofs.YtnmhkgmmpkjjeacGreat
namespace Go.Proofs.YtnmhkgmmpkjjeacGreat
set_option linter.unusedVariables false

/-! The program of a plan. -/
def rgt (H : Nat → Ht) (all : List P3) (lv pg : Int) : Int :=
  if lv = 3 then (if (H pg.toNat).k = 1 then encI 3 3 (H pg.toNat).o (H pg.toNat).p else 0)
  else if lv = 2 ∧ (H pg.toNat).s = 16 then encI 2 2 (H pg.toNat).o (H pg.toNat).p
  else if frOf all (lv + 1) pg < 0 then 0 else encI lv 1 (frOf all (lv + 1) pg) 0
def wOf (zs : List Int) (ad : Int) : Int := zs.getD ad.toNat 0
def brk (zs : List Int) (H : Nat → Ht) (all : List P3) (e : En) : Bool := decide (wOf zs e.ad % 2 = 1 ∧ ¬ wOf zs e.ad = rgt H all e.lv e.pg)
def lnk (zs : List Int) (H : Nat → Ht) (all : List P3) (e : En) : Bool := decide (¬ rgt H all e.lv e.pg = 0 ∧ ¬ rgt H all e.lv e.pg = wOf zs e.ad)
def mkB (zs : List Int) (H : Nat → Ht) (all : List P3) (es : List En) (p : Nat) : Bool := es.any fun e => brk zs H all e && decide (e.pg ≤ p ∧ (p : Int) < e.pg + cov e.lv)
def dsbO : OpE := ⟨2, 0, 0, 0⟩
def sealO (l : List OpE) : List OpE := if l.isEmpty then [] else l ++ [dsbO]
def brkOps (zs : List Int) (H : Nat → Ht) (all : List P3) (es : List En) : List OpE := (es.filter (brk zs H all)).map fun e => ⟨1, e.ad, 0, 0⟩
def tlbOps (mk : Nat → Bool) : List OpE := (runsL mk 4096 4096).map fun r => ⟨3, r.1, r.2, 0⟩
def freeOps (n : Nat) (gone : List P3) : List OpE := ((List.range n).filter (fun f => hasFr gone (f : Nat))).map fun f => ⟨4, (f : Nat), 0, 0⟩
def fillOne (H : Nat → Ht) (all : List P3) (t : P3) (k : Nat) : List OpE := (List.range k).map fun i => ⟨1, t.fr * 16 + (i : Nat), 0, rgt H all t.lv (t.pg + (i : Nat) * cov t.lv)⟩
def fillOps (H : Nat → Ht) (all fresh : List P3) : List OpE := fresh.flatMap fun t => fillOne H all t 16
def lnkOps (zs : List Int) (H : Nat → Ht) (all : List P3) (es : List En) : List OpE := (es.filter (lnk zs H all)).map fun e => ⟨1, e.ad, 0, rgt H all e.lv e.pg⟩
/-- All new tables; all tables that there will be. -/
def newL (H : Nat → Ht) (ps : List P3) : List P3 := frTo (keptL H ps) (wPre H 256) (wPre H 256).length
def allL (H : Nat → Ht) (ps : List P3) : List P3 := keptL H ps ++ newL H ps
def entL (H : Nat → Ht) (ps : List P3) : List En := enTo (keptL H ps) 4096
def planL (zs : List Int) (n : Nat) (H : Nat → Ht) (ps : List P3) : List OpE :=
  sealO (brkOps zs H (allL H ps) (entL H ps)) ++ (sealO (tlbOps (mkB zs H (allL H ps) (entL H ps))) ++ (freeOps n (goneL H ps) ++ (sealO (fillOps H (allL H ps) (newL H ps)) ++ sealO (lnkOps zs H (allL H ps) (entL H ps)))))
theorem sealO_nil : sealO [] = [] := rfl
theorem sealO_cons {l : List OpE} (h : l ≠ []) : sealO l = l ++ [dsbO] := by
  unfold sealO
  rw [if_neg (by rw [List.isEmpty_iff]; exact h)]
theorem enTo_mem {kept : List P3} {n : Nat} {e : En} (h : e ∈ enTo kept n) : ∃ page lv : Nat, page < n ∧ 1 ≤ lv ∧ lv ≤ 3 ∧ page % epg lv = 0 ∧ e.lv = lv ∧ e.pg = page ∧ 0 ≤ frOf kept lv (page - page % (epg lv * 16) : Nat) ∧ e.ad = frOf kept lv (page - page % (epg lv * 16) : Nat) * 16 + (page / epg lv % 16 : Nat) := by
  unfold enTo at h
  obtain ⟨page, hp, h⟩ := List.mem_flatMap.1 h
  have hp' := List.mem_range.1 hp
  unfold eAll at h
  have one : ∀ lv : Nat, 1 ≤ lv → lv ≤ 3 → e ∈ eOne kept page lv → ∃ page lv : Nat, page < n ∧ 1 ≤ lv ∧ lv ≤ 3 ∧ page % epg lv = 0 ∧ e.lv = lv ∧ e.pg = page ∧ 0 ≤ frOf kept lv (page - page % (epg lv * 16) : Nat) ∧ e.ad = frOf kept lv (page - page % (epg lv * 16) : Nat) * 16 + (page / epg lv % 16 : Nat) := by
    intro lv h1 h3 hm
    unfold eOne at hm
    split at hm
    · rename_i hh
      rw [List.mem_singleton] at hm
      subst hm
      exact ⟨page, lv, hp', h1, h3, hh.1, rfl, rfl, hh.2, rfl⟩
    · cases hm
  rcases List.mem_append.1 h with h | h
  · exact one 1 (by decide) (by decide) h
  · rcases List.mem_append.1 h with h | h
    · exact one 2 (by decide) (by decide) h
    · exact one 3 (by decide) (by decide) h
theorem cov_epg (lv : Nat) : cov lv = epg lv := by
  unfold cov epg
  by_cases h1 : lv = 1
  · subst h1; rfl
  · by_cases h2 : lv = 2
    · subst h2; rfl
    · rw [if_neg (by omega), if_neg (by omega), if_neg h1, if_neg h2]; rfl
theorem epg_pos (lv : Nat) : 1 ≤ epg lv := by unfold epg; split <;> (try split) <;> omega
theorem runs_nil {mk : Nat → Bool} {m : Nat} (h : runsL mk m m = []) : ∀ p, p < m → mk p = false := by
  intro p hp
  cases hm : mk p
  · rfl
  · obtain ⟨q, hq1, hq2, _⟩ := last_start mk p hm
    have : (q, runLen mk m q) ∈ runsL mk m m := by
      unfold runsL
      refine List.mem_flatMap.2 ⟨q, List.mem_range.2 (by omega), ?_⟩
      rw [if_pos hq2]
      exact List.mem_singleton.2 rfl
    rw [h] at this
    cases this
/-- Something is broken just if something is invalidated. -/
theorem brk_tlb (zs : List Int) (H : Nat → Ht) (ps : List P3) : brkOps zs H (allL H ps) (entL H ps) = [] ↔ tlbOps (mkB zs H (allL H ps) (entL H ps)) = [] := by
  unfold brkOps tlbOps
  rw [List.map_eq_nil_iff, List.map_eq_nil_iff]
  constructor
  · intro h
    have hm : ∀ p, mkB zs H (allL H ps) (entL H ps) p = false := by
      intro p
      unfold mkB
      rw [List.any_eq_false]
      intro e he
      cases hb : brk zs H (allL H ps) e
      · simp
      · have : e ∈ (entL H ps).filter (brk zs H (allL H ps)) := List.mem_filter.2 ⟨he, hb⟩
        rw [h] at this
        cases this
    unfold runsL
    rw [List.flatMap_eq_nil_iff]
    intro p hp
    unfold starts
    rw [hm p]
    simp
  · intro h
    rw [List.filter_eq_nil_iff]
    intro e he hb
    obtain ⟨page, lv, hp, h1, h3, _, e1, e2, _⟩ := enTo_mem he
    have := runs_nil h page hp
    unfold mkB at this
    rw [List.any_eq_false] at this
    have h4 := this e he
    have hc := cov_epg lv
    have hc2 := epg_pos lv
    rw [hb, e1, e2, hc] at h4
    simp at h4
    omega
theorem planL_eq (zs : List Int) (n : Nat) (H : Nat → Ht) (ps : List P3) : planL zs n H ps =
    (if (brkOps zs H (allL H ps) (entL H ps)).isEmpty then [] else ((brkOps zs H (allL H ps) (entL H ps) ++ [dsbO]) ++ tlbOps (mkB zs H (allL H ps) (entL H ps))) ++ [dsbO]) ++ (freeOps n (goneL H ps) ++ (sealO (fillOps H (allL H ps) (newL H ps)) ++ sealO (lnkOps zs H (allL H ps) (entL H ps)))) := by
  unfold planL
  by_cases h : brkOps zs H (allL H ps) (entL H ps) = []
  · rw [(brk_tlb zs H ps).1 h, h]
    simp [sealO_nil]
  · have h2 : tlbOps (mkB zs H (allL H ps) (entL H ps)) ≠ [] := fun e => h ((brk_tlb zs H ps).2 e)
    rw [sealO_cons h, sealO_cons h2, if_neg (by rw [List.isEmpty_iff]; exact h)]
    simp
end Go.Proofs.YtnmhkgmmpkjjeacGreat
namespace Go.Proofs.YtnmhkgmmpkjjeacGreat
open Go.ChangeShapes Go.WideShapes Go.ChangeAt Go.RowKit
set_option linter.unusedVariables false

/-! Sets of numbers as rising lists: what they have. -/
def addL (xs : List Int) (e : Int) : List Int := if foundB xs e then xs else insL xs (posOf xs e) e
def remL (xs : List Int) (e : Int) : List Int := if foundB xs e then cutL xs (posOf xs e) else xs
theorem pos_cons_lt {x : Int} {r : List Int} {e : Int} (h : x < e) : posOf (x :: r) e = posOf r e + 1 := by
  unfold posOf
  rw [List.countP_cons_of_pos (by exact decide_eq_true h)]
theorem pos_cons_ge {x : Int} {r : List Int} {e : Int} (hr : Rising (x :: r)) (h : ¬ x < e) : posOf (x :: r) e = 0 := by
  unfold posOf
  rw [List.countP_eq_zero]
  intro y hy
  rcases List.mem_cons.1 hy with rfl | hy
  · simpa using h
  · have := (List.pairwise_cons.1 hr).1 y hy
    simp only [decide_eq_true_eq]
    omega
theorem found_iff {e : Int} : ∀ {xs : List Int}, Rising xs → (foundB xs e = true ↔ e ∈ xs)
  | [], _ => by simp [foundB]
  | x :: r, hr => by
    obtain ⟨h1, h2⟩ := List.pairwise_cons.1 hr
    unfold foundB
    rw [decide_eq_true_eq]
    by_cases h : x < e
    · have ih := found_iff (e := e) h2
      unfold foundB at ih
      rw [decide_eq_true_eq] at ih
      rw [pos_cons_lt h, List.mem_cons, List.length_cons]
      have e1 : eAt eInt (x :: r) (posOf r e + 1) = eAt eInt r (posOf r e) := rfl
      rw [e1]
      constructor
      · rintro ⟨a, b⟩
        exact .inr (ih.1 ⟨by omega, b⟩)
      · rintro (rfl | hm)
        · omega
        · have := ih.2 hm
          exact ⟨by omega, this.2⟩
    · rw [pos_cons_ge hr h]
      have e1 : eAt eInt (x :: r) 0 = x := rfl
      rw [e1, List.mem_cons, List.length_cons]
      constructor
      · rintro ⟨_, b⟩
        exact .inl b.symm
      · rintro (rfl | hm)
        · exact ⟨by omega, rfl⟩
        · have := h1 e hm
          omega
theorem pos_le (xs : List Int) (e : Int) : posOf xs e ≤ xs.length := List.countP_le_length
theorem ins_mem (xs : List Int) (i : Nat) (e x : Int) : x ∈ insL xs i e ↔ x = e ∨ x ∈ xs := by
  unfold insL
  rw [List.mem_append, List.mem_cons]
  have : x ∈ xs ↔ x ∈ xs.take i ∨ x ∈ xs.drop i := by
    rw [← List.mem_append, List.take_append_drop]
  rw [this]
  constructor
  · rintro (a | a | a)
    · exact .inr (.inl a)
    · exact .inl a
    · exact .inr (.inr a)
  · rintro (a | a | a)
    · exact .inr (.inl a)
    · exact .inl a
    · exact .inr (.inr a)
theorem rising_ins {e : Int} : ∀ {xs : List Int}, Rising xs → e ∉ xs → Rising (insL xs (posOf xs e) e)
  | [], _, _ => List.pairwise_singleton _ _
  | x :: r, hr, hm => by
    obtain ⟨h1, h2⟩ := List.pairwise_cons.1 hr
    by_cases h : x < e
    · rw [pos_cons_lt h]
      have e1 : insL (x :: r) (posOf r e + 1) e = x :: insL r (posOf r e) e := rfl
      rw [e1]
      refine List.pairwise_cons.2 ⟨fun y hy => ?_, rising_ins h2 (fun hh => hm (List.mem_cons_of_mem _ hh))⟩
      rcases (ins_mem _ _ _ _).1 hy with rfl | hy
      · exact h
      · exact h1 y hy
    · rw [pos_cons_ge hr h]
      have e1 : insL (x :: r) 0 e = e :: x :: r := rfl
      have hne : ¬ e = x := fun hh => hm (by rw [hh]; exact List.mem_cons_self ..)
      rw [e1]
      refine List.pairwise_cons.2 ⟨fun y hy => ?_, hr⟩
      rcases List.mem_cons.1 hy with rfl | hy
      · omega
      · have := h1 y hy
        omega
theorem add_mem {xs : List Int} (h : Rising xs) (e x : Int) : x ∈ addL xs e ↔ x = e ∨ x ∈ xs := by
  unfold addL
  split
  · rename_i hf
    have := (found_iff h).1 hf
    exact ⟨fun a => .inr a, fun a => a.elim (fun ee => by rw [ee]; exact this) id⟩
  · exact ins_mem _ _ _ _
theorem add_rising {xs : List Int} (h : Rising xs) (e : Int) : Rising (addL xs e) := by
  unfold addL
  split
  · exact h
  · rename_i hf
    exact rising_ins h (fun hm => hf ((found_iff h).2 hm))
theorem add_len (xs : List Int) (e : Int) : (addL xs e).length ≤ xs.length + 1 := by
  unfold addL
  split
  · omega
  · rw [ins_len _ _ _ (pos_le xs e)]; omega
theorem cut_mem {e x : Int} : ∀ {xs : List Int}, Rising xs → e ∈ xs → (x ∈ cutL xs (posOf xs e) ↔ x ∈ xs ∧ x ≠ e)
  | [], _, hm => by cases hm
  | y :: r, hr, hm => by
    obtain ⟨h1, h2⟩ := List.pairwise_cons.1 hr
    by_cases h : y < e
    · have hm' : e ∈ r := by
        rcases List.mem_cons.1 hm with rfl | hm
        · omega
        · exact hm
      rw [pos_cons_lt h]
      have e1 : cutL (y :: r) (posOf r e + 1) = y :: cutL r (posOf r e) := rfl
      rw [e1, List.mem_cons, List.mem_cons, cut_mem h2 hm']
      constructor
      · rintro (rfl | ⟨a, b⟩)
        · exact ⟨.inl rfl, by omega⟩
        · exact ⟨.inr a, b⟩
      · rintro ⟨rfl | a, b⟩
        · exact .inl rfl
        · exact .inr ⟨a, b⟩
    · have hy : e = y := by
        rcases List.mem_cons.1 hm with a | a
        · exact a
        · have := h1 e a
          omega
      rw [pos_cons_ge hr h]
      have e1 : cutL (y :: r) 0 = r := rfl
      rw [e1, List.mem_cons]
      constructor
      · intro a
        have := h1 x a
        exact ⟨.inr a, by omega⟩
      · rintro ⟨a | a, b⟩
        · exact absurd (a.trans hy.symm) b
        · exact a
theorem cut_sub (xs : List Int) (i : Nat) : (cutL xs i).Sublist xs := by
  unfold cutL
  have h : (xs.take i ++ xs.drop (i + 1)).Sublist (xs.take i ++ xs.drop i) := by
    refine List.Sublist.append (List.Sublist.refl _) ?_
    rw [← List.drop_drop]
    exact List.drop_sublist _ _
  rwa [List.take_append_drop] at h
theorem rem_mem {xs : List Int} (h : Rising xs) (e x : Int) : x ∈ remL xs e ↔ x ∈ xs ∧ x ≠ e := by
  unfold remL
  split
  · rename_i hf
    exact cut_mem h ((found_iff h).1 hf)
  · rename_i hf
    have : e ∉ xs := fun hm => hf ((found_iff h).2 hm)
    exact ⟨fun a => ⟨a, fun hh => this (by rw [← hh]; exact a)⟩, fun a => a.1⟩
theorem rem_rising {xs : List Int} (h : Rising xs) (e : Int) : Rising (remL xs e) := by
  unfold remL
  split
  · exact List.Pairwise.sublist (cut_sub _ _) h
  · exact h
theorem rem_len (xs : List Int) (e : Int) : (remL xs e).length ≤ xs.length := by
  unfold remL
  split
  · exact (cut_sub _ _).length_le
  · exact Nat.le_refl _
/-- A rising list is told by what it has. -/
theorem rising_ext : ∀ {xs ys : List Int}, Rising xs → Rising ys → (∀ x, x ∈ xs ↔ x ∈ ys) → xs = ys
  | [], [], _, _, _ => rfl
  | [], y :: r, _, _, h => by
    have := (h y).2 (List.mem_cons_self ..)
    cases this
  | x :: r, [], _, _, h => by
    have := (h x).1 (List.mem_cons_self ..)
    cases this
  | x :: r, y :: s, hx, hy, h => by
    obtain ⟨a1, a2⟩ := List.pairwise_cons.1 hx
    obtain ⟨b1, b2⟩ := List.pairwise_cons.1 hy
    have e : x = y := by
      have h1 := (h x).1 (List.mem_cons_self ..)
      have h2 := (h y).2 (List.mem_cons_self ..)
      rcases List.mem_cons.1 h1 with e | m1
      · exact e
      · rcases List.mem_cons.1 h2 with e | m2
        · exact e.symm
        · have := a1 y m2
          have := b1 x m1
          omega
    subst e
    have : r = s := rising_ext a2 b2 (fun z => by
      constructor
      · intro m
        rcases List.mem_cons.1 ((h z).1 (List.mem_cons_of_mem _ m)) with e | m'
        · have := a1 z m; omega
        · exact m'
      · intro m
        rcases List.mem_cons.1 ((h z).2 (List.mem_cons_of_mem _ m)) with e | m'
        · have := b1 z m; omega
        · exact m')
    rw [this]
/-- The numbers below n that are marked. -/
def numsL (p : Nat → Bool) (n : Nat) : List Int := ((List.range n).filter p).map (fun k => ((k : Nat) : Int))
theorem nums_rising (p : Nat → Bool) (n : Nat) : Rising (numsL p n) := by
  unfold numsL Rising
  rw [List.pairwise_map]
  exact (List.pairwise_lt_range.filter p).imp (fun h => by omega)
theorem nums_mem (p : Nat → Bool) (n : Nat) (x : Int) : x ∈ numsL p n ↔ ∃ k : Nat, k < n ∧ p k = true ∧ x = k := by
  unfold numsL
  rw [List.mem_map]
  constructor
  · rintro ⟨k, h, rfl⟩
    rw [List.mem_filter, List.mem_range] at h
    exact ⟨k, h.1, h.2, rfl⟩
  · rintro ⟨k, h1, h2, rfl⟩
    exact ⟨k, List.mem_filter.2 ⟨List.mem_range.2 h1, h2⟩, rfl⟩
/-- The frames that are free. -/
def freeL (qs : List P3) (n : Nat) : List Int := numsL (fun f => !hasFr qs (f : Nat)) n
end Go.Proofs.YtnmhkgmmpkjjeacGreat
