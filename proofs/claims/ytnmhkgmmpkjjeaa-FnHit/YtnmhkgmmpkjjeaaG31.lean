import Derived.Test.YtnmhkgmmpkjjeaaG30
namespace Go.Proofs.Ytnmhkgmmpkjjeaa
open Go.ChangeShapes Go.WideShapes Go.ChangeAt Go.RowKit
set_option linter.unusedVariables false

/-! A machine that is valid stays so. -/
theorem eAt_in {α : Type} (E : Elt α) {xs : List α} {i : Nat} (hi : i < xs.length) : eAt E xs i ∈ xs := by
  unfold eAt
  rw [List.getD_eq_getElem?_getD, List.getElem?_eq_getElem hi]
  exact List.getElem_mem hi
theorem in_eAt {α : Type} (E : Elt α) {xs : List α} {x : α} (h : x ∈ xs) : ∃ i, i < xs.length ∧ eAt E xs i = x := by
  obtain ⟨i, hi, e⟩ := List.getElem_of_mem h
  refine ⟨i, hi, ?_⟩
  unfold eAt
  rw [List.getD_eq_getElem?_getD, List.getElem?_eq_getElem hi]
  exact e
structure VM (M : Mach) : Prop where
  n0 : nfr M.mem.length ≠ 0
  word : ∀ x ∈ M.mem, 0 ≤ x ∧ x < 2 ^ 64
  p : M.pend.length ≤ 10000
  t : M.tlb.length ≤ 256
  c : M.wc.length ≤ 256
  pend : ∀ e ∈ M.pend, (0 ≤ e.addr ∧ e.addr < M.mem.length) ∧ 0 ≤ e.word ∧ e.word < 2 ^ 64
  tlb : ∀ e ∈ M.tlb, tlbOkB e = true
  wc : ∀ e ∈ M.wc, wcOkB (nfr M.mem.length) e = true
theorem VM.of {M : Mach} (hk : MOk M) (hv : validB M = true) : VM M := by
  have ho := WOk.of hk hv
  refine ⟨ho.n0, fun x hx => ?_, ho.p, ho.t, ho.c, fun e he => ?_, fun e he => ?_, fun e he => ?_⟩
  · obtain ⟨i, hi, rfl⟩ := List.getElem_of_mem hx
    have := ho.word i
    rw [List.getD_eq_getElem?_getD, List.getElem?_eq_getElem hi] at this
    exact this
  · obtain ⟨i, hi, rfl⟩ := in_eAt eWrite he
    exact ⟨valid_pend hv i hi, ho.pw i⟩
  · obtain ⟨i, hi, rfl⟩ := in_eAt eTlb he
    exact valid_tlb hv i hi
  · obtain ⟨i, hi, rfl⟩ := in_eAt eWc he
    exact valid_wc hv i hi
theorem VM.valid {M : Mach} (h : VM M) : validB M = true := by
  have h0 := h.n0
  have h1 := h.p
  have h2 := h.t
  have h3 := h.c
  unfold validB
  simp only [Bool.and_eq_true]
  refine ⟨⟨⟨by simp [validL, h0, h1, h2, h3], ?_⟩, ?_⟩, ?_⟩
  · unfold pendAll
    rw [List.all_eq_true]
    intro i hi
    have := h.pend _ (eAt_in eWrite (List.mem_range.1 hi))
    simp [pendOkB]
    omega
  · unfold tlbAll
    rw [List.all_eq_true]
    intro i hi
    exact h.tlb _ (eAt_in eTlb (List.mem_range.1 hi))
  · unfold wcAll
    rw [List.all_eq_true]
    intro i hi
    exact h.wc _ (eAt_in eWc (List.mem_range.1 hi))
theorem wf_i64 {x : Int} (h0 : -9223372036854775808 ≤ x) (h1 : x ≤ 9223372036854775807) : (Lit.int .i64 x).wf = true := by
  simp only [Lit.wf, Bool.and_eq_true, decide_eq_true_eq]
  exact ⟨h0, h1⟩
theorem wf_u64 {x : Int} (h0 : 0 ≤ x) (h1 : x < 2 ^ 64) : (Lit.int .u64 x).wf = true := by
  have h2 : x ≤ 18446744073709551615 := by omega
  simp only [Lit.wf, Bool.and_eq_true, decide_eq_true_eq]
  exact ⟨h0, h2⟩
theorem VM.mok {M : Mach} (h : VM M) : MOk M := by
  have l1 := nfr_mul M.mem.length h.n0
  have l2 := nfr_le M.mem.length
  have h1 := h.p
  have h2 := h.t
  have h3 := h.c
  refine ⟨by omega, by omega, by omega, by omega, fun i => ?_, fun i hi => ?_, fun i hi => ?_, fun i hi => ?_⟩
  · rw [List.getD_eq_getElem?_getD]
    by_cases hi : i < M.mem.length
    · rw [List.getElem?_eq_getElem hi]
      exact h.word _ (List.getElem_mem hi)
    · rw [List.getElem?_eq_none (by omega)]
      exact ⟨by decide, by decide⟩
  · have := h.pend _ (eAt_in eWrite hi)
    exact ⟨wf_i64 (by omega) (by omega), wf_u64 this.2.1 this.2.2⟩
  · have := h.tlb _ (eAt_in eTlb hi)
    simp only [tlbOkB, pageOk, Bool.and_eq_true, Bool.or_eq_true, decide_eq_true_eq] at this
    exact ⟨wf_i64 (by omega) (by omega), wf_i64 (by omega) (by omega), wf_i64 (by omega) (by omega), wf_i64 (by omega) (by omega)⟩
  · have := h.wc _ (eAt_in eWc hi)
    simp only [wcOkB, pageOk, Bool.and_eq_true, Bool.or_eq_true, decide_eq_true_eq] at this
    exact ⟨wf_i64 (by omega) (by omega), wf_i64 (by omega) (by omega), wf_i64 (by omega) (by omega)⟩
theorem VM.wok {M : Mach} (h : VM M) : WOk M := WOk.of h.mok h.valid
theorem VM.small {M : Mach} (h : VM M) : M.Small := h.wok.small

theorem addWcM_vm {M : Mach} (h : VM M) (e : WcE) (he : wcOkB (nfr M.mem.length) e = true) : VM (addWcM M e) := by
  unfold addWcM
  split
  · exact h
  · rename_i hn
    have hl : ¬ 256 ≤ M.wc.length := by
      intro hc; apply hn; simp [hc]
    refine ⟨h.n0, h.word, h.p, h.t, by simp; omega, h.pend, h.tlb, fun x hx => ?_⟩
    rcases List.mem_append.1 hx with hx | hx
    · exact h.wc x hx
    · rw [List.mem_singleton.1 hx]; exact he
theorem addTlbM_vm {M : Mach} (h : VM M) (e : TlbE) (he : tlbOkB e = true) : VM (addTlbM M e) := by
  unfold addTlbM
  split
  · exact h
  · rename_i hn
    have hl : ¬ 256 ≤ M.tlb.length := by
      intro hc; apply hn; simp [hc]
    refine ⟨h.n0, h.word, h.p, by simp; omega, h.c, h.pend, fun x hx => ?_, h.wc⟩
    rcases List.mem_append.1 hx with hx | hx
    · exact h.tlb x hx
    · rw [List.mem_singleton.1 hx]; exact he
theorem dKind_maps (l x : Int) (h : dKind l x = 2 ∨ dKind l x = 3) : 1 ≤ dPerm l x ∧ dPerm l x ≤ 7 ∧ dOut l x % sizR l x = 0 := by
  have h1 := dPerm_rng l x
  unfold sizR
  unfold dOut dPerm
  rw [if_neg (by omega), if_neg (by omega)]
  unfold dKind at h
  repeat' split at h
  all_goals first | omega | skip
  all_goals (rename_i hh; unfold dKind; simp_all; try omega)
theorem endM_vm {M : Mach} (h : VM M) (page choice level x : Int) (doom : Bool) (hp0 : 0 ≤ page) (hp1 : page < 4096) : VM (endM page choice M level x doom).1 := by
  unfold endM
  split
  · exact h
  · split
    · rename_i hk
      have h1 := dKind_maps level x hk
      have h2 := dOut_lo level x
      have h3 : sizR level x = 1 ∨ sizR level x = 16 := by unfold sizR; split <;> simp
      show VM (if bitI choice 6 = true then _ else _)
      split
      · refine addTlbM_vm h _ ?_
        generalize sizR level x = z at *
        simp only [tlbOkB, pageOk, Bool.and_eq_true, Bool.or_eq_true, decide_eq_true_eq]
        rcases h3 with rfl | rfl <;> omega
      · exact h
    · exact h
theorem stepM_vm {M : Mach} (h : VM M) (page choice level x : Int) (doom : Bool) (hp0 : 0 ≤ page) (hp1 : page < 4096) (hl0 : 1 ≤ level) (hl1 : level ≤ 2) (hx : leadsM M level x = true) : VM (stepM page choice M level x doom) := by
  unfold stepM
  split
  · refine addWcM_vm h _ ?_
    have h2 := dOut_lo level x
    unfold leadsM at hx
    simp only [Bool.and_eq_true, decide_eq_true_eq] at hx
    simp only [wcOkB, pageOk, Bool.and_eq_true, Bool.or_eq_true, decide_eq_true_eq]
    have h3 : level + 1 - 1 = level := by omega
    rw [h3]
    unfold cov
    rcases (by omega : level = 1 ∨ level = 2) with rfl | rfl
    · simp; omega
    · simp; omega
  · exact h
theorem goM_vm (page choice : Int) (hp0 : 0 ≤ page) (hp1 : page < 4096) : ∀ (d : Nat) {M : Mach}, VM M → ∀ (level frame : Int) (doom : Bool), 1 ≤ level → level + d ≤ 3 → VM (goM page choice d M level frame doom).1
  | 0, M, h, level, frame, doom, _, _ => endM_vm h _ _ _ _ _ hp0 hp1
  | d + 1, M, h, level, frame, doom, h0, h1 => by
    unfold goM
    split
    · rename_i hx
      exact goM_vm page choice hp0 hp1 d (stepM_vm h _ _ _ _ _ hp0 hp1 h0 (by omega) hx) _ _ _ (by omega) (by omega)
    · exact endM_vm h _ _ _ _ _ hp0 hp1
theorem walkM_vm {M : Mach} (h : VM M) (page choice : Int) (hp0 : 0 ≤ page) (hp1 : page < 4096) : VM (walkM M page choice).1 := by
  have hs := startM_ok h.valid page choice
  exact goM_vm page choice hp0 hp1 _ h _ _ _ hs.1 (by omega)
theorem accN_vm {M : Mach} (h : VM M) (page choice : Int) (hp0 : 0 ≤ page) (hp1 : page < 4096) : VM (accN M page choice) := by
  unfold accN
  split
  · exact h
  · exact walkM_vm h page choice hp0 hp1
end Go.Proofs.Ytnmhkgmmpkjjeaa
