import Derived.Test.YtnmhkgmmpkjjeabSWcOk
namespace Go.Proofs.Ytnmhkgmmpkjjeab
open Go.ChangeShapes Go.WideShapes Go.ChangeAt Go.RowKit
set_option linter.unusedVariables false
attribute [local go_sem ↓] Go.wp_at_zero Go.wp_at_succ

theorem allR_succ (f : Nat → Bool) (j : Nat) : (List.range (j + 1)).all f = ((List.range j).all f && f j) := by
  simp [List.range_succ, List.all_append]
theorem allR_false (f : Nat → Bool) (i m : Nat) (hi : i < m) (h : f i = false) : (List.range m).all f = false := by
  rw [List.all_eq_false]
  exact ⟨i, List.mem_range.2 hi, by simpa using h⟩
def pendOkB (n : Nat) (e : WriteE) : Bool := decide (0 ≤ e.addr) && decide (e.addr < n)
def validL (M : Mach) : Bool := !decide (nfr M.mem.length = 0) && decide (M.pend.length ≤ 10000) && decide (M.tlb.length ≤ 256) && decide (M.wc.length ≤ 256)
def pendAll (M : Mach) (k : Nat) : Bool := (List.range k).all fun i => pendOkB M.mem.length (eAt eWrite M.pend i)
def tlbAll (M : Mach) (k : Nat) : Bool := (List.range k).all fun i => tlbOkB (eAt eTlb M.tlb i)
def wcAll (M : Mach) (k : Nat) : Bool := (List.range k).all fun i => wcOkB (nfr M.mem.length) (eAt eWc M.wc i)
/-- Is the machine valid? -/
def validB (M : Mach) : Bool := validL M && pendAll M M.pend.length && tlbAll M M.tlb.length && wcAll M M.wc.length

set_option maxHeartbeats 4000000 in
theorem valid_no (s : SV) (M : Mach) (b : Nat) (w : World) (hs : M.Small) (h : MRow w b (s.mv M) M) (hv : validL M = false) :
    Calls Try.prog 67 #[.agg #[.slice s.a1 M.mem.length s.c1, .slice s.a2 M.pend.length s.c2, .slice s.a3 M.tlb.length s.c3, .slice s.a4 M.wc.length s.c4]] w fun e w' => e = .returned (.bool false) ∧ Below w.heap.size w w' := by
  have y1 := hs.w
  have y2 := hs.p
  have y3 := hs.t
  have y4 := hs.c
  have hf := frames_any s.a1 M.mem.length s.c1 (by omega)
  unfold validL at hv
  by_cases h0 : nfr M.mem.length = 0
  · rw [h0] at hf
    clear hv h0
    go_enter Try.func67, Try.ntmps67
    go_wp2_with (go_at_call 50; refine (hf _).mono ?_; rintro e w1 ⟨rfl, hb1⟩; obtain ⟨hc1, hf1⟩ := bcellM hb1)
    go_ret
    exact ⟨rfl, ((Below.refl _ _).alloc (Nat.le_refl _) _).trans (hb1.mono (by simp))⟩
  · have h0' : (nfr M.mem.length == 0) = false := by simpa using h0
    simp only [h0, decide_false, Bool.not_false, Bool.true_and] at hv
    generalize nfr M.mem.length = n at *
    by_cases h1 : M.pend.length ≤ 10000
    · have h1' : decide ((10000 : Int) < M.pend.length) = false := by simp; omega
      simp only [h1, decide_true, Bool.true_and] at hv
      by_cases h2 : M.tlb.length ≤ 256
      · have h2' : decide ((256 : Int) < M.tlb.length) = false := by simp; omega
        simp only [h2, decide_true, Bool.true_and] at hv
        have h3' : decide ((256 : Int) < M.wc.length) = true := by simp at hv ⊢; omega
        clear hv h0 h1 h2
        go_enter Try.func67, Try.ntmps67
        go_wp2_with (go_at_call 50; refine (hf _).mono ?_; rintro e w1 ⟨rfl, hb1⟩; obtain ⟨hc1, hf1⟩ := bcellM hb1)
        go_ret
        exact ⟨rfl, ((Below.refl _ _).alloc (Nat.le_refl _) _).trans (hb1.mono (by simp))⟩
      · have h2' : decide ((256 : Int) < M.tlb.length) = true := by simp; omega
        clear hv h0 h1 h2
        go_enter Try.func67, Try.ntmps67
        go_wp2_with (go_at_call 50; refine (hf _).mono ?_; rintro e w1 ⟨rfl, hb1⟩; obtain ⟨hc1, hf1⟩ := bcellM hb1)
        go_ret
        exact ⟨rfl, ((Below.refl _ _).alloc (Nat.le_refl _) _).trans (hb1.mono (by simp))⟩
    · have h1' : decide ((10000 : Int) < M.pend.length) = true := by simp; omega
      clear hv h0 h1
      go_enter Try.func67, Try.ntmps67
      go_wp2_with (go_at_call 50; refine (hf _).mono ?_; rintro e w1 ⟨rfl, hb1⟩; obtain ⟨hc1, hf1⟩ := bcellM hb1)
      go_ret
      exact ⟨rfl, ((Below.refl _ _).alloc (Nat.le_refl _) _).trans (hb1.mono (by simp))⟩

set_option maxHeartbeats 4000000 in
theorem valid_yes (s : SV) (M : Mach) (b : Nat) (w : World) (hs : M.Small) (h : MRow w b (s.mv M) M) (hv : validL M = true) :
    Calls Try.prog 67 #[.agg #[.slice s.a1 M.mem.length s.c1, .slice s.a2 M.pend.length s.c2, .slice s.a3 M.tlb.length s.c3, .slice s.a4 M.wc.length s.c4]] w fun e w' => e = .returned (.bool (validB M)) ∧ Below w.heap.size w w' := by
  have y1 := hs.w
  have y2 := hs.p
  have y3 := hs.t
  have y4 := hs.c
  have hf := frames_any s.a1 M.mem.length s.c1 (by omega)
  have hvb : validB M = (pendAll M M.pend.length && tlbAll M M.tlb.length && wcAll M M.wc.length) := by unfold validB; rw [hv, Bool.true_and]
  simp only [validL, Bool.and_eq_true, Bool.not_eq_true', decide_eq_false_iff_not, decide_eq_true_eq] at hv
  obtain ⟨⟨⟨v0, v1⟩, v2⟩, v3⟩ := hv
  have d0 : (nfr M.mem.length == 0) = false := by simpa using v0
  have d1 : decide ((10000 : Int) < M.pend.length) = false := by simp; omega
  have d2 : decide ((256 : Int) < M.tlb.length) = false := by simp; omega
  have d3 : decide ((256 : Int) < M.wc.length) = false := by simp; omega
  obtain ⟨wb, hwb⟩ : ∃ wb, wb = w.alloc (.cells #[.slice s.a1 M.mem.length s.c1, .slice s.a2 M.pend.length s.c2, .slice s.a3 M.tlb.length s.c3, .slice s.a4 M.wc.length s.c4] 51) := ⟨_, rfl⟩
  have hbb : Below w.heap.size w wb := by rw [hwb]; exact (Below.refl _ _).alloc (Nat.le_refl _) _
  have hzb : wb.heap.size = w.heap.size + 1 := by rw [hwb]; simp
  have qb : wb.cell? ⟨w.heap.size, 0, none⟩ = some (.slice s.a1 M.mem.length s.c1) ∧ wb.cell? ⟨w.heap.size, 1, none⟩ = some (.slice s.a2 M.pend.length s.c2) ∧ wb.cell? ⟨w.heap.size, 2, none⟩ = some (.slice s.a3 M.tlb.length s.c3) ∧ wb.cell? ⟨w.heap.size, 3, none⟩ = some (.slice s.a4 M.wc.length s.c4) := by rw [hwb]; simp [go_sem]
  have HBOX : Hid (∀ wX, Below (w.heap.size + 1) wb wX → wX.cell? ⟨w.heap.size, 0, none⟩ = some (.slice s.a1 M.mem.length s.c1) ∧ wX.cell? ⟨w.heap.size, 1, none⟩ = some (.slice s.a2 M.pend.length s.c2) ∧ wX.cell? ⟨w.heap.size, 2, none⟩ = some (.slice s.a3 M.tlb.length s.c3) ∧ wX.cell? ⟨w.heap.size, 3, none⟩ = some (.slice s.a4 M.wc.length s.c4)) :=
    fun wX hX => ⟨(hX.cell (by simp)).trans qb.1, (hX.cell (by simp)).trans qb.2.1, (hX.cell (by simp)).trans qb.2.2.1, (hX.cell (by simp)).trans qb.2.2.2⟩
  have HM : Hid (MRow w b (s.mv M) M) := h
  have HWB : Hid (wb = _) := hwb
  have HBB : Hid (Below _ w wb) := hbb
  have HVB : Hid _ := hvb
  have hok := wcOk_any (nfr M.mem.length)
  have HOK : Hid _ := hok
  have hAdef : ∀ k, wcAll M (k + 1) = (wcAll M k && wcOkB (nfr M.mem.length) (eAt eWc M.wc k)) := fun k => allR_succ _ k
  have HAD : Hid _ := hAdef
  have hAfal : ∀ k, k < M.wc.length → wcOkB (nfr M.mem.length) (eAt eWc M.wc k) = false → wcAll M M.wc.length = false := fun k hk h => allR_false _ k _ hk h
  have HAF : Hid _ := hAfal
  clear hwb hbb qb h hvb hok hAdef hAfal v0
  generalize nfr M.mem.length = n at *
  go_enter Try.func67, Try.ntmps67
  go_wp2_with fail
  refine (hf _).mono ?_
  rintro e w1 ⟨rfl, hb1⟩
  have b1 : Below (w.heap.size + 1) wb w1 := by rw [HWB.out]; exact hb1.mono (by simp)
  obtain ⟨q0, q1, q2, q3⟩ := HBOX.out w1 b1
  clear hb1 hf
  go_wp2_with fail
  go_loopw [4] (fun iv wr => ∃ i : Nat, i ≤ M.pend.length ∧ iv = .int .i64 i ∧ pendAll M i = true ∧ Below (w.heap.size + 1) wb wr) (fun iv _ => M.pend.length - (intOf iv).toNat)
  case atStart => exact ⟨0, Nat.zero_le _, rfl, rfl, b1⟩
  case round =>
    obtain ⟨i, hi, rfl, hall, hb⟩ := hrel
    obtain ⟨q0, q1, q2, q3⟩ := HBOX.out wr hb
    have hsz := hb.size
    by_cases hlt : i < M.pend.length
    · have hsu : pendAll M (i + 1) = (pendAll M i && pendOkB M.mem.length (eAt eWrite M.pend i)) := allR_succ _ i
      have hfa : pendOkB M.mem.length (eAt eWrite M.pend i) = false → validB M = false := fun h => by rw [HVB.out, show pendAll M M.pend.length = false from allR_false _ i _ hlt h]; rfl
      rw [hall, Bool.true_and] at hsu
      have hdef : pendOkB M.mem.length (eAt eWrite M.pend i) = (decide (0 ≤ (eAt eWrite M.pend i).addr) && decide ((eAt eWrite M.pend i).addr < M.mem.length)) := rfl
      obtain ⟨ga, ca, hae, haf⟩ := HM.out.p.form
      obtain ⟨g, N, f, hag, _, hr, hN, hf⟩ := haf (by omega)
      have hga : s.a2 = some ⟨g, 0, none⟩ := by
        have h2 : Value.slice s.a2 M.pend.length s.c2 = .slice ga M.pend.length ca := hae
        simp only [Value.slice.injEq] at h2
        exact h2.1.trans hag
      have hN' : M.pend.length * 2 ≤ N := hN
      have hb2 : Below w.heap.size w wr := HBB.out.trans (hb.mono (by omega))
      have hr1 : wr.rowIs g 178 N f := hr.of_block (hb2.block g hr.lt)
      rw [hga] at q1
      have k0 := hr1.cell (i := i * 2) (by omega)
      rw [show f (i * 2) = .int .i64 (eAt eWrite M.pend i).addr from hf i hlt 0 (by decide)] at k0
      have k1 := hr1.cell (i := i * 2 + 1) (by omega)
      rw [show f (i * 2 + 1) = .int .u64 (eAt eWrite M.pend i).word from hf i hlt 1 (by decide)] at k1
      have L1 : (0 : Int) ≤ (i : Int) := by omega
      have L2 : (i : Int) < (M.pend.length : Int) := by omega
      have HB : Hid (Below _ wb wr) := hb
      have hrl := hr1.lt
      clear hb hb2 hr1 hr hf hae haf hga hN
      have HSU : Hid _ := hsu
      have HFA : Hid _ := hfa
      have HDF : Hid _ := hdef
      clear hsu hfa hdef hall k1
      generalize (eAt eWrite M.pend i).addr = A at *
      by_cases hA : A < 0
      · have hA' : decide (A < 0) = true := by simpa using hA
        have HR : Hid (validB M = false) := HFA.out (by rw [HDF.out]; simp; omega)
        clear HFA HSU HDF
        go_wp2_with fail
        go_quiet (fail)
        go_wp2_with fail
        go_ret
        exact ⟨by rw [HR.out]; rfl, HBB.out.trans ((bDrewN HB.out _).mono (by omega))⟩
      · have hA' : decide (A < 0) = false := by simpa using hA
        by_cases hA2 : A < M.mem.length
        · have hA2' : decide ((M.mem.length : Int) ≤ A) = false := by simp; omega
          have HR : Hid (pendAll M (i + 1) = true) := by
            exact (show _ = true by rw [HSU.out, HDF.out]; simp; omega)
          clear HFA HSU HDF
          go_wp2_with fail
          go_quiet (fail)
          go_wp2_with fail
          go_roundw
          case rel => exact ⟨i + 1, by omega, by go_num, HR.out, bDrewN HB.out _⟩
          case measure => simp [intOf]; omega
        · have hA2' : decide ((M.mem.length : Int) ≤ A) = true := by simp; omega
          have HR : Hid (validB M = false) := HFA.out (by rw [HDF.out]; simp; omega)
          clear HFA HSU HDF
          go_wp2_with fail
          go_quiet (fail)
          go_wp2_with fail
          go_ret
          exact ⟨by rw [HR.out]; rfl, HBB.out.trans ((bDrewN HB.out _).mono (by omega))⟩
    · have e : i = M.pend.length := by omega
      subst e
      have HPA : Hid _ := hall
      obtain ⟨wp, rfl⟩ : ∃ wp : World, wp = wr := ⟨_, rfl⟩
      clear hall
      go_wp2_with fail
      go_loopw [5] (fun iv wr => ∃ i : Nat, i ≤ M.tlb.length ∧ iv = .int .i64 i ∧ tlbAll M i = true ∧ Below (w.heap.size + 1) wb wr) (fun iv _ => M.tlb.length - (intOf iv).toNat)
      case atStart => exact ⟨0, Nat.zero_le _, rfl, rfl, hb⟩
      case round =>
        clear q0 q1 q2 q3 hb
        obtain ⟨i, hi, rfl, hall, hb⟩ := hrel
        obtain ⟨q0, q1, q2, q3⟩ := HBOX.out wr hb
        have hsz := hb.size
        by_cases hlt : i < M.tlb.length
        · have hsu : tlbAll M (i + 1) = (tlbAll M i && tlbOkB (eAt eTlb M.tlb i)) := allR_succ _ i
          have hfa : tlbOkB (eAt eTlb M.tlb i) = false → validB M = false := fun h => by rw [HVB.out, show tlbAll M M.tlb.length = false from allR_false _ i _ hlt h, Bool.and_false]; rfl
          rw [hall, Bool.true_and] at hsu
          have hok := tlbOk_any (eAt eTlb M.tlb i)
          obtain ⟨ga, ca, hae, haf⟩ := HM.out.t.form
          obtain ⟨g, N, f, hag, _, hr, hN, hf⟩ := haf (by omega)
          have hga : s.a3 = some ⟨g, 0, none⟩ := by
            have h2 : Value.slice s.a3 M.tlb.length s.c3 = .slice ga M.tlb.length ca := hae
            simp only [Value.slice.injEq] at h2
            exact h2.1.trans hag
          have hN' : M.tlb.length * 5 ≤ N := hN
          have hb2 : Below w.heap.size w wr := HBB.out.trans (hb.mono (by omega))
          have hr1 : wr.rowIs g 118 N f := hr.of_block (hb2.block g hr.lt)
          rw [hga] at q2
          have k0 := hr1.cell (i := i * 5) (by omega)
          rw [show f (i * 5) = .int .i64 (eAt eTlb M.tlb i).page from hf i hlt 0 (by decide)] at k0
          have k1 := hr1.cell (i := i * 5 + 1) (by omega)
          rw [show f (i * 5 + 1) = .int .i64 (eAt eTlb M.tlb i).size from hf i hlt 1 (by decide)] at k1
          have k2 := hr1.cell (i := i * 5 + 2) (by omega)
          rw [show f (i * 5 + 2) = .int .i64 (eAt eTlb M.tlb i).out from hf i hlt 2 (by decide)] at k2
          have k3 := hr1.cell (i := i * 5 + 3) (by omega)
          rw [show f (i * 5 + 3) = .int .i64 (eAt eTlb M.tlb i).perm from hf i hlt 3 (by decide)] at k3
          have k4 := hr1.cell (i := i * 5 + 4) (by omega)
          rw [show f (i * 5 + 4) = .bool (eAt eTlb M.tlb i).doom from hf i hlt 4 (by decide)] at k4
          have L1 : (0 : Int) ≤ (i : Int) := by omega
          have L2 : (i : Int) < (M.tlb.length : Int) := by omega
          have HB : Hid (Below _ wb wr) := hb
          have hrl := hr1.lt
          clear hb hb2 hr1 hr hf hae haf hga hN
          have HSU : Hid _ := hsu
          have HFA : Hid _ := hfa
          have HOKT : Hid _ := hok
          clear hsu hfa hall hok
          go_wp2_with fail
          refine (HOKT.out _).mono ?_
          rintro e w2 ⟨rfl, hb2⟩
          have b2 : Below (w.heap.size + 1) wb w2 := HB.out.trans (hb2.mono (by omega))
          cases hT : tlbOkB (eAt eTlb M.tlb i)
          · have HR : Hid (validB M = false) := HFA.out hT
            clear HFA HSU hT hb2
            go_wp2_with fail
            go_ret
            exact ⟨by rw [HR.out]; rfl, HBB.out.trans (b2.mono (by omega))⟩
          · have HR : Hid (tlbAll M (i + 1) = true) := HSU.out.trans hT
            clear HFA HSU hT hb2
            go_wp2_with fail
            go_roundw
            case rel => exact ⟨i + 1, by omega, by go_num, HR.out, b2⟩
            case measure => simp [intOf]; omega
        · have e : i = M.tlb.length := by omega
          subst e
          have HTA : Hid _ := hall
          obtain ⟨wt, rfl⟩ : ∃ wt : World, wt = wr := ⟨_, rfl⟩
          clear hall
          go_wp2_with fail
          go_loopw [6] (fun iv wr => ∃ i : Nat, i ≤ M.wc.length ∧ iv = .int .i64 i ∧ wcAll M i = true ∧ Below (w.heap.size + 1) wb wr) (fun iv _ => M.wc.length - (intOf iv).toNat)
          case atStart => exact ⟨0, Nat.zero_le _, rfl, rfl, hb⟩
          case round =>
            clear q0 q1 q2 q3 hb
            obtain ⟨i, hi, rfl, hall, hb⟩ := hrel
            obtain ⟨q0, q1, q2, q3⟩ := HBOX.out wr hb
            have hsz := hb.size
            by_cases hlt : i < M.wc.length
            · have hsu := HAD.out i
              have hfa : wcOkB n (eAt eWc M.wc i) = false → validB M = false := fun h => by rw [HVB.out, HAF.out i hlt h, Bool.and_false]
              rw [hall, Bool.true_and] at hsu
              have hok := HOK.out (eAt eWc M.wc i)
              obtain ⟨ga, ca, hae, haf⟩ := HM.out.c.form
              obtain ⟨g, N, f, hag, _, hr, hN, hf⟩ := haf (by omega)
              have hga : s.a4 = some ⟨g, 0, none⟩ := by
                have h2 : Value.slice s.a4 M.wc.length s.c4 = .slice ga M.wc.length ca := hae
                simp only [Value.slice.injEq] at h2
                exact h2.1.trans hag
              have hN' : M.wc.length * 4 ≤ N := hN
              have hb2 : Below w.heap.size w wr := HBB.out.trans (hb.mono (by omega))
              have hr1 : wr.rowIs g 120 N f := hr.of_block (hb2.block g hr.lt)
              rw [hga] at q3
              have k0 := hr1.cell (i := i * 4) (by omega)
              rw [show f (i * 4) = .int .i64 (eAt eWc M.wc i).level from hf i hlt 0 (by decide)] at k0
              have k1 := hr1.cell (i := i * 4 + 1) (by omega)
              rw [show f (i * 4 + 1) = .int .i64 (eAt eWc M.wc i).page from hf i hlt 1 (by decide)] at k1
              have k2 := hr1.cell (i := i * 4 + 2) (by omega)
              rw [show f (i * 4 + 2) = .int .i64 (eAt eWc M.wc i).table from hf i hlt 2 (by decide)] at k2
              have k3 := hr1.cell (i := i * 4 + 3) (by omega)
              rw [show f (i * 4 + 3) = .bool (eAt eWc M.wc i).doom from hf i hlt 3 (by decide)] at k3
              have L1 : (0 : Int) ≤ (i : Int) := by omega
              have L2 : (i : Int) < (M.wc.length : Int) := by omega
              have HB : Hid (Below _ wb wr) := hb
              have hrl := hr1.lt
              clear hb hb2 hr1 hr hf hae haf hga hN
              have HSU : Hid _ := hsu
              have HFA : Hid _ := hfa
              have HOKT : Hid _ := hok
              clear hsu hfa hall hok
              go_wp2_with fail
              refine (HOKT.out _).mono ?_
              rintro e w2 ⟨rfl, hb2⟩
              have b2 : Below (w.heap.size + 1) wb w2 := HB.out.trans (hb2.mono (by omega))
              cases hT : wcOkB n (eAt eWc M.wc i)
              · have HR : Hid (validB M = false) := HFA.out hT
                clear HFA HSU hT hb2
                go_wp2_with fail
                go_ret
                exact ⟨by rw [HR.out]; rfl, HBB.out.trans (b2.mono (by omega))⟩
              · have HR : Hid (wcAll M (i + 1) = true) := HSU.out.trans hT
                clear HFA HSU hT hb2
                go_wp2_with fail
                go_roundw
                case rel => exact ⟨i + 1, by omega, by go_num, HR.out, b2⟩
                case measure => simp [intOf]; omega
            · have e : i = M.wc.length := by omega
              subst e
              have hvt : validB M = true := by rw [HVB.out, HPA.out, HTA.out, hall]; rfl
              have HVT : Hid _ := hvt
              clear hall hvt
              go_wp2_with fail
              go_ret
              exact ⟨by rw [HVT.out]; rfl, HBB.out.trans (hb.mono (by omega))⟩
end Go.Proofs.Ytnmhkgmmpkjjeab
