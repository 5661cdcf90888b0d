import Derived.Test.YtnmhkgmmpkjjeaaG25
import Derived.Test.YtnmhkgmmpkjjeaaG31
namespace Go.Proofs.Ytnmhkgmmpkjjeaa
open Go.ChangeShapes Go.WideShapes Go.ChangeAt Go.RowKit
set_option linter.unusedVariables false

/-! A machine whose caches say what its memory says. -/
def wz (zs : List Int) (q : Int) : HitR := (goM q 0 2 (bare zs) 1 0 false).2
theorem wordM_plain (zs : List Int) (M : Mach) (q c level frame : Int) (hm : M.mem = zs) (hp : M.pend = []) : wordM M q c level frame = wordM (bare zs) q 0 level frame := by
  rw [wordM_bare]
  unfold wordM readM
  rw [hp, hm]
  split
  · show readTo M _ 0 = _
    unfold readTo
    rw [hm]
  · rfl
theorem endM_hit (zs : List Int) (M : Mach) (q c level x : Int) (doom : Bool) : (endM q c M level x doom).2 = (endM q 0 (bare zs) level x false).2 := by
  unfold endM
  split
  · rfl
  · split <;> rfl
theorem step_bare (zs : List Int) (q level x : Int) : stepM q 0 (bare zs) level x false = bare zs := by
  unfold stepM
  rw [if_neg (by rw [bit0]; simp)]
theorem goM_plain (zs : List Int) (q c : Int) : ∀ d M level frame doom, M.mem = zs → M.pend = [] → (goM q c d M level frame doom).2 = (goM q 0 d (bare zs) level frame false).2
  | 0, M, level, frame, doom, hm, hp => by
    unfold goM
    rw [wordM_plain zs M q c level frame hm hp]
    exact endM_hit zs M q c level _ doom
  | d + 1, M, level, frame, doom, hm, hp => by
    unfold goM
    rw [wordM_plain zs M q c level frame hm hp]
    have hl : leadsM M level (wordM (bare zs) q 0 level frame) = leadsM (bare zs) level (wordM (bare zs) q 0 level frame) := by
      unfold leadsM
      rw [hm]
      rfl
    rw [hl, step_bare]
    have hs := stepM_mem q c M level (wordM (bare zs) q 0 level frame) doom
    split
    · exact goM_plain zs q c d _ _ _ _ (hs.1.trans hm) (hs.2.1.trans hp)
    · exact endM_hit zs M q c level _ doom
/-- One step of a plain walk. -/
theorem gz_step (zs : List Int) (q level frame : Int) (d : Nat) (h : leadsM (bare zs) level (wordM (bare zs) q 0 level frame) = true) : (goM q 0 (d + 1) (bare zs) level frame false).2 = (goM q 0 d (bare zs) (level + 1) (dOut level (wordM (bare zs) q 0 level frame)) false).2 := by
  conv => lhs; unfold goM
  rw [if_pos h, step_bare]
theorem gz_end (zs : List Int) (q level frame : Int) (d : Nat) (h : d = 0 ∨ leadsM (bare zs) level (wordM (bare zs) q 0 level frame) = false) : (goM q 0 d (bare zs) level frame false).2 = (endM q 0 (bare zs) level (wordM (bare zs) q 0 level frame) false).2 := by
  cases d with
  | zero => rfl
  | succ d =>
    rcases h with h | h
    · omega
    · conv => lhs; unfold goM
      rw [if_neg (by rw [h]; simp)]

structure Coh (zs : List Int) (M : Mach) : Prop where
  mem : M.mem = zs
  pend : M.pend = []
  tl : M.tlb.length ≤ 1
  tlb : ∀ e ∈ M.tlb, ∀ q, 0 ≤ q → q < 4096 → tlbCov e q = true → wz zs q = tlbHit e q
  wc : ∀ e ∈ M.wc, (e.level = 2 ∨ e.level = 3) ∧ ∀ q, 0 ≤ q → q < 4096 → wcCov e q = true → (goM q 0 (3 - e.level).toNat (bare zs) e.level e.table false).2 = wz zs q
theorem coh_bare (zs : List Int) : Coh zs (bare zs) := ⟨rfl, rfl, by simp [bare], fun e h => by simp [bare] at h, fun e h => by simp [bare] at h⟩
theorem coh_walk {zs : List Int} {M : Mach} (h : Coh zs M) (q c : Int) (h0 : 0 ≤ q) (h1 : q < 4096) : (walkM M q c).2 = wz zs q := by
  unfold walkM
  rw [goM_plain zs q c _ M _ _ _ h.mem h.pend]
  have key : ∀ l, findW M q l < M.wc.length → (eAt eWc M.wc (findW M q l)) ∈ M.wc ∧ (eAt eWc M.wc (findW M q l)).level = l ∧ wcCov (eAt eWc M.wc (findW M q l)) q = true := by
    intro l hl
    have hs : serves M q l (findW M q l) = true := firstR_hit _ _ 0 (by unfold findW at hl; omega)
    unfold serves at hs
    simp only [Bool.and_eq_true, decide_eq_true_eq] at hs
    exact ⟨eAt_in eWc hl, hs.1, hs.2⟩
  unfold startM
  split
  · split
    · rename_i h3
      obtain ⟨hin, hl, hc⟩ := key 3 h3
      exact (h.wc _ hin).2 q h0 h1 hc
    · split
      · rename_i h2
        obtain ⟨hin, hl, hc⟩ := key 2 h2
        exact (h.wc _ hin).2 q h0 h1 hc
      · rfl
  · rfl
theorem coh_acc {zs : List Int} {M : Mach} (h : Coh zs M) (q need c : Int) (h0 : 0 ≤ q) (h1 : q < 4096) : accS M q need c = seenH q need (wz zs q) := by
  unfold accS
  split
  · rename_i hu
    unfold useT at hu
    simp only [Bool.and_eq_true, decide_eq_true_eq] at hu
    have hf := hu.2
    have hcov : tlbCov (eAt eTlb M.tlb (firstC M q)) q = true := firstR_hit (fun i => tlbCov (eAt eTlb M.tlb i) q) _ 0 (by unfold firstC at hf; omega)
    have hcl : clashC M q = false := clash_no (fun t ht hc => by
      have hl := h.tl
      have e1 : firstC M q = 0 := by omega
      have e2 : t = 0 := by omega
      rw [e1, e2]
      exact sameB_self _)
    unfold lookUpM
    rw [hcl, h.tlb _ (eAt_in eTlb hf) q h0 h1 hcov]
    simp
  · rw [coh_walk h q c h0 h1]

/-- The number of pages below a table of a level. -/
def gsz (level : Int) : Int := if level = 1 then 4096 else if level = 2 then 256 else 16
theorem coh_tlb {zs : List Int} {M : Mach} (h : Coh zs M) (ht : M.tlb = []) (e : TlbE) (he : ∀ q, 0 ≤ q → q < 4096 → tlbCov e q = true → wz zs q = tlbHit e q) : Coh zs (addTlbM M e) := by
  unfold addTlbM
  split
  · exact h
  · refine ⟨h.mem, h.pend, by show (M.tlb ++ [e]).length ≤ 1; rw [ht]; simp, fun e' h' => ?_, h.wc⟩
    have h2 : e' ∈ M.tlb ++ [e] := h'
    rw [ht] at h2
    have : e' = e := by simpa using h2
    subst this
    exact he
theorem coh_wc {zs : List Int} {M : Mach} (h : Coh zs M) (e : WcE) (hl : e.level = 2 ∨ e.level = 3) (he : ∀ q, 0 ≤ q → q < 4096 → wcCov e q = true → (goM q 0 (3 - e.level).toNat (bare zs) e.level e.table false).2 = wz zs q) : Coh zs (addWcM M e) ∧ (addWcM M e).tlb = M.tlb := by
  refine ⟨?_, (addWcM_mem M e).2.2⟩
  unfold addWcM
  split
  · exact h
  · refine ⟨h.mem, h.pend, h.tl, h.tlb, fun e' h' => ?_⟩
    rcases List.mem_append.1 (show e' ∈ M.wc ++ [e] from h') with h2 | h2
    · exact h.wc e' h2
    · have : e' = e := by simpa using h2
      subst this
      exact ⟨hl, he⟩
theorem kind_level (l x : Int) : (dKind l x = 2 → l = 2) ∧ (dKind l x = 3 → l = 3) := by
  unfold dKind
  refine ⟨?_, ?_⟩ <;> (repeat' split) <;> omega
theorem word_same (zs : List Int) (q page level frame : Int) (h : idx q level = idx page level) : wordM (bare zs) q 0 level frame = wordM (bare zs) page 0 level frame := by
  rw [wordM_bare, wordM_bare, h]
theorem coh_end {zs : List Int} {M : Mach} (h : Coh zs M) (ht : M.tlb = []) (page c level frame : Int) (hl0 : 1 ≤ level) (hl1 : level ≤ 3) (hp0 : 0 ≤ page) (hp1 : page < 4096)
    (hw : ∀ q, 0 ≤ q → q < 4096 → q / gsz level = page / gsz level → idx q level = idx page level → wz zs q = (endM q 0 (bare zs) level (wordM (bare zs) page 0 level frame) false).2) :
    Coh zs (endM page c M level (wordM (bare zs) page 0 level frame) false).1 := by
  generalize wordM (bare zs) page 0 level frame = x at *
  have hk := kind_level level x
  unfold endM
  by_cases h0 : dKind level x = 0
  · rw [if_pos h0]; exact h
  · rw [if_neg h0]
    by_cases h2 : dKind level x = 2 ∨ dKind level x = 3
    · rw [if_pos h2]
      show Coh zs (if bitI c 6 = true then _ else _)
      split
      · refine coh_tlb h ht _ (fun q q0 q1 hcv => ?_)
        have hcv' : q - q % sizR level x = page - page % sizR level x := by simpa [tlbCov] using hcv
        have hww : wz zs q = (endM q 0 (bare zs) level x false).2 := by
          rcases h2 with h2 | h2
          · have hl := hk.1 h2
            subst hl
            have hs : sizR 2 x = 16 := by unfold sizR; rw [if_pos h2]
            rw [hs] at hcv'
            refine hw q q0 q1 ?_ ?_
            · unfold gsz; simp; omega
            · unfold idx; simp; omega
          · have hl := hk.2 h2
            subst hl
            have hs : sizR 3 x = 1 := by unfold sizR; rw [if_neg (by omega)]
            rw [hs] at hcv'
            have : q = page := by omega
            subst this
            exact hw q q0 q1 rfl rfl
        rw [hww, endM_bare, if_neg h0, if_pos h2]
        unfold tlbHit
        have hz : sizR level x = 16 ∨ sizR level x = 1 := by unfold sizR; split <;> simp
        have e1 : dOut level x + q % sizR level x = dOut level x + q - (page - page % sizR level x) := by omega
        simp only [e1]
      · exact h
    · rw [if_neg h2]; exact h
theorem coh_go {zs : List Int} (page c : Int) (hp0 : 0 ≤ page) (hp1 : page < 4096) : ∀ (d : Nat) (M : Mach) (level frame : Int), Coh zs M → M.tlb = [] → 1 ≤ level → level + d = 3 →
    (∀ q, 0 ≤ q → q < 4096 → q / gsz level = page / gsz level → (goM q 0 d (bare zs) level frame false).2 = wz zs q) → Coh zs (goM page c d M level frame false).1
  | 0, M, level, frame, h, ht, hl, hd, hw => by
    unfold goM
    rw [wordM_plain zs M page c level frame h.mem h.pend]
    refine coh_end h ht page c level frame hl (by omega) hp0 hp1 (fun q q0 q1 hg hi => ?_)
    rw [← hw q q0 q1 hg, gz_end zs q level frame 0 (.inl rfl), word_same zs q page level frame hi]
  | d + 1, M, level, frame, h, ht, hl, hd, hw => by
    have hl2 : level = 1 ∨ level = 2 := by omega
    unfold goM
    rw [wordM_plain zs M page c level frame h.mem h.pend]
    have hle : leadsM M level (wordM (bare zs) page 0 level frame) = leadsM (bare zs) level (wordM (bare zs) page 0 level frame) := by
      unfold leadsM
      rw [h.mem]
      rfl
    rw [hle]
    by_cases hx : leadsM (bare zs) level (wordM (bare zs) page 0 level frame) = true
    · rw [if_pos hx]
      have hnext : ∀ q, 0 ≤ q → q < 4096 → q / cov level = page / cov level → (goM q 0 d (bare zs) (level + 1) (dOut level (wordM (bare zs) page 0 level frame)) false).2 = wz zs q := by
        intro q q0 q1 hg
        have hi : idx q level = idx page level := by
          rcases hl2 with rfl | rfl
          · unfold idx; simp [cov] at hg ⊢; omega
          · unfold idx; simp [cov] at hg ⊢; omega
        have hg2 : q / gsz level = page / gsz level := by
          rcases hl2 with rfl | rfl
          · unfold gsz; simp; omega
          · unfold gsz; simp [cov] at hg ⊢; omega
        have hws := word_same zs q page level frame hi
        rw [← hw q q0 q1 hg2, gz_step zs q level frame d (by rw [hws]; exact hx), hws]
      have hst : Coh zs (stepM page c M level (wordM (bare zs) page 0 level frame) false) ∧ (stepM page c M level (wordM (bare zs) page 0 level frame) false).tlb = M.tlb := by
        unfold stepM
        split
        · refine coh_wc h _ (by show level + 1 = 2 ∨ level + 1 = 3; omega) (fun q q0 q1 hcv => ?_)
          have hcv' : q - q % cov (level + 1 - 1) = page - page % cov level := by simpa [wcCov] using hcv
          rw [show level + 1 - 1 = level by omega] at hcv'
          have hg : q / cov level = page / cov level := by
            rcases hl2 with rfl | rfl
            · simp [cov] at hcv' ⊢; omega
            · simp [cov] at hcv' ⊢; omega
          have := hnext q q0 q1 hg
          show (goM q 0 (3 - (level + 1)).toNat (bare zs) (level + 1) (dOut level (wordM (bare zs) page 0 level frame)) false).2 = _
          rw [show (3 - (level + 1)).toNat = d by omega]
          exact this
        · exact ⟨h, rfl⟩
      refine coh_go page c hp0 hp1 d _ (level + 1) _ hst.1 (hst.2.trans ht) (by omega) (by omega) (fun q q0 q1 hg => hnext q q0 q1 ?_)
      have : gsz (level + 1) = cov level := by
        rcases hl2 with rfl | rfl
        · rfl
        · rfl
      rw [← this]
      exact hg
    · have hx' : leadsM (bare zs) level (wordM (bare zs) page 0 level frame) = false := by simpa using hx
      rw [if_neg hx]
      refine coh_end h ht page c level frame hl (by omega) hp0 hp1 (fun q q0 q1 hg hi => ?_)
      have hws := word_same zs q page level frame hi
      rw [← hw q q0 q1 hg, gz_end zs q level frame (d + 1) (.inr (by rw [hws]; exact hx')), hws]

/-! What Fill makes of plain memory, and what an access then sees. -/
theorem vm_bare (zs : List Int) (hn : nfr zs.length ≠ 0) (hr : ∀ i, 0 ≤ zs.getD i 0 ∧ zs.getD i 0 < 2 ^ 64) : VM (bare zs) := by
  refine ⟨hn, fun x hx => ?_, by simp [bare], by simp [bare], by simp [bare], fun e h => by simp [bare] at h, fun e h => by simp [bare] at h, fun e h => by simp [bare] at h⟩
  obtain ⟨i, hi, rfl⟩ := List.getElem_of_mem (show x ∈ zs from hx)
  have := hr i
  rw [List.getD_eq_getElem?_getD, List.getElem?_eq_getElem hi] at this
  exact this
theorem fill_go (zs : List Int) (page : Int) (hn : nfr zs.length ≠ 0) (hr : ∀ i, 0 ≤ zs.getD i 0 ∧ zs.getD i 0 < 2 ^ 64) (hp0 : 0 ≤ page) (hp1 : page < 4096) : Coh zs (fillM (bare zs) page 112) ∧ VM (fillM (bare zs) page 112) := by
  have hv := vm_bare zs hn hr
  have hpk : pageOk page = true := by simp [pageOk, hp0, hp1]
  have e : fillM (bare zs) page 112 = (walkM (bare zs) page 112).1 := by
    unfold fillM
    rw [hv.valid, hpk]
    simp [choiceOk]
  rw [e]
  refine ⟨?_, walkM_vm hv page 112 hp0 hp1⟩
  have hb : bitI 112 0 = false := by decide
  unfold walkM startM
  rw [hb]
  simp only [Bool.false_eq_true, if_false]
  exact coh_go page 112 hp0 hp1 2 (bare zs) 1 0 (coh_bare zs) rfl (by omega) (by omega) (fun q _ _ _ => rfl)
theorem wz_walk (zs : List Int) (q : Int) (hn : nfr zs.length ≠ 0) (h0 : 0 ≤ q) (h1 : q < 4096) : walkZ zs q = wz zs q := by
  unfold walkZ wz
  rw [if_neg (by simp [hn, pageOk, h0, h1])]
theorem fill_acc (zs : List Int) (page q need c : Int) (hn : nfr zs.length ≠ 0) (hr : ∀ i, 0 ≤ zs.getD i 0 ∧ zs.getD i 0 < 2 ^ 64) (hp0 : 0 ≤ page) (hp1 : page < 4096) (h0 : 0 ≤ q) (h1 : q < 4096) (hne : need = 1 ∨ need = 2 ∨ need = 4) (hc0 : 0 ≤ c) (hc1 : c ≤ 65535) :
    (accM (fillM (bare zs) page 112) q need c).2 = seenH q need (walkZ zs q) := by
  obtain ⟨hco, hvm⟩ := fill_go zs page hn hr hp0 hp1
  unfold accM
  have hok : accOk (fillM (bare zs) page 112) q need c = true := by
    unfold accOk
    rw [hvm.valid]
    rcases hne with rfl | rfl | rfl <;> simp [pageOk, choiceOk, needOk, h0, h1, hc0, hc1]
  rw [if_pos hok]
  show accS _ _ _ _ = _
  rw [coh_acc hco q need c h0 h1, wz_walk zs q hn h0 h1]
theorem walkZ_kind (zs : List Int) (q : Int) : (walkZ zs q).kind = 0 ∨ (walkZ zs q).kind = 1 ∨ (walkZ zs q).kind = 3 := by
  have he : ∀ q c M level x doom, (endM q c M level x doom).2.kind = 0 ∨ (endM q c M level x doom).2.kind = 1 ∨ (endM q c M level x doom).2.kind = 3 := by
    intro q c M level x doom
    unfold endM
    split
    · simp
    · split <;> simp
  have hg : ∀ d M level frame doom, (goM q 0 d M level frame doom).2.kind = 0 ∨ (goM q 0 d M level frame doom).2.kind = 1 ∨ (goM q 0 d M level frame doom).2.kind = 3 := by
    intro d
    induction d with
    | zero => intro M level frame doom; exact he _ _ _ _ _ _
    | succ d ih =>
      intro M level frame doom
      unfold goM
      split
      · exact ih _ _ _ _
      · exact he _ _ _ _ _ _
  unfold walkZ
  split
  · simp
  · exact hg _ _ _ _ _
theorem walkZ_perm (zs : List Int) (q : Int) : 0 ≤ (walkZ zs q).perm ∧ (walkZ zs q).perm ≤ 7 := by
  unfold walkZ
  split
  · simp
  · exact goM_perm _ _ _ _ _ _ _
end Go.Proofs.Ytnmhkgmmpkjjeaa
