import Derived.Test.YtnmhkgmmpkjjeabSValid
namespace Go.Proofs.Ytnmhkgmmpkjjeab
open Go.ChangeShapes Go.WideShapes Go.ChangeAt Go.RowKit
set_option linter.unusedVariables false

theorem specValid_any (s : SV) (M : Mach) (b : Nat) (w : World) (hs : M.Small) (h : MRow w b (s.mv M) M) :
    Calls Try.prog 67 #[.agg #[.slice s.a1 M.mem.length s.c1, .slice s.a2 M.pend.length s.c2, .slice s.a3 M.tlb.length s.c3, .slice s.a4 M.wc.length s.c4]] w fun e w' => e = .returned (.bool (validB M)) ∧ Below w.heap.size w w' := by
  cases hv : validL M
  · have : validB M = false := by unfold validB; rw [hv]; rfl
    rw [this]
    exact valid_no s M b w hs h hv
  · exact valid_yes s M b w hs h hv

/-- What a walk reads at a word among the first k pending writes, else in memory. -/
def readTo (M : Mach) (a : Int) : Nat → Int
  | 0 => M.mem.getD a.toNat 0
  | k + 1 => if (eAt eWrite M.pend k).addr = a then (eAt eWrite M.pend k).word else readTo M a k
def readM (M : Mach) (a : Int) (late : Bool) : Int := if late then readTo M a M.pend.length else M.mem.getD a.toNat 0

/-- The word of memory, when no pending write is taken. -/
theorem mem_cell {W : World} {b : Nat} {s : SV} {M : Mach} (h : MRow W b (s.mv M) M) (A : Nat) (hA : A < M.mem.length) : ∃ g, s.a1 = some ⟨g, 0, none⟩ ∧ g < W.heap.size ∧ W.cell? ⟨g, A, none⟩ = some (.int .u64 (M.mem.getD A 0)) := by
  obtain ⟨ga, ca, hae, haf⟩ := eWord_form h.w
  obtain ⟨g, N, f, hag, _, hr, hN, hf⟩ := haf (by omega)
  have h2 : Value.slice s.a1 M.mem.length s.c1 = .slice ga M.mem.length ca := hae
  simp only [Value.slice.injEq] at h2
  have c := hr.cell (i := A) (by omega)
  rw [hf A hA] at c
  exact ⟨g, h2.1.trans hag, hr.lt, c⟩

set_option maxHeartbeats 2000000 in
theorem read_any (s : SV) (M : Mach) (b : Nat) (A : Nat) (late : Bool) (w : World) (hs : M.Small) (hA : A < M.mem.length) (h : MRow w b (s.mv M) M) :
    Calls Try.prog 183 #[.agg #[.slice s.a1 M.mem.length s.c1, .slice s.a2 M.pend.length s.c2, .slice s.a3 M.tlb.length s.c3, .slice s.a4 M.wc.length s.c4], .int .i64 A, .bool late] w fun e w' => e = .returned (.int .u64 (readM M A late)) ∧ Below w.heap.size w w' := by
  have y1 := hs.w
  have y2 := hs.p
  obtain ⟨gm, hgm, hgl, hcm⟩ := mem_cell h A hA
  have htn : (A : Int).toNat = A := by omega
  have A1 : (0 : Int) ≤ (A : Int) := by omega
  have A2 : (A : Int) < (M.mem.length : Int) := by omega
  cases late
  · have hr : readM M A false = M.mem.getD A 0 := by simp [readM]
    rw [hr, hgm]
    generalize M.mem.getD A 0 = X at *
    clear hr hgm h
    go_enter Try.func183, Try.ntmps183
    go_wp2_with fail
    go_ret
    exact ⟨rfl, (Below.refl _ _).alloc (Nat.le_refl _) _⟩
  · have hr : readM M A true = readTo M A M.pend.length := rfl
    rw [hr]
    have hr0 : readTo M A 0 = M.mem.getD A 0 := by simp [readTo]
    obtain ⟨wb, hwb⟩ : ∃ wb, wb = w.alloc (.cells #[.slice s.a1 M.mem.length s.c1, .slice s.a2 M.pend.length s.c2, .slice s.a3 M.tlb.length s.c3, .slice s.a4 M.wc.length s.c4] 51) := ⟨_, rfl⟩
    have hbb : Below w.heap.size w wb := by rw [hwb]; exact (Below.refl _ _).alloc (Nat.le_refl _) _
    have q0 : wb.cell? ⟨w.heap.size, 0, none⟩ = some (.slice s.a1 M.mem.length s.c1) := by rw [hwb]; simp [go_sem]
    have q1 : wb.cell? ⟨w.heap.size, 1, none⟩ = some (.slice s.a2 M.pend.length s.c2) := by rw [hwb]; simp [go_sem]
    have cm := (hbb.cell (p := ⟨gm, A, none⟩) (by simpa using hgl)).trans hcm
    have HP : Hid (ERow eWrite wb b (.slice s.a2 M.pend.length s.c2) M.pend) := h.p.below hbb
    have HBB : Hid (Below _ w wb) := hbb
    have HWB : Hid (wb = _) := hwb
    have HR0 : Hid _ := hr0
    have HGM : Hid (s.a1 = _) := hgm
    have HC : Hid (wb.cell? ⟨w.heap.size, 0, none⟩ = some (.slice s.a1 M.mem.length s.c1) ∧ wb.cell? ⟨w.heap.size, 1, none⟩ = some (.slice s.a2 M.pend.length s.c2) ∧ wb.cell? ⟨gm, A, none⟩ = some (.int .u64 (M.mem.getD A 0))) := ⟨q0, q1, cm⟩
    clear h hbb hwb hr0 hgm q0 q1 cm hcm hr
    go_enter Try.func183, Try.ntmps183
    go_wp2_with fail
    go_loopw [7] (fun iv wr => ∃ k : Nat, k ≤ M.pend.length ∧ iv = .int .i64 ((k : Int) - 1) ∧ readTo M A M.pend.length = readTo M A k ∧ wr = wb) (fun iv _ => (intOf iv + 1).toNat)
    case atStart => exact ⟨M.pend.length, Nat.le_refl _, rfl, rfl, HWB.out.symm⟩
    case round =>
      obtain ⟨k, hk, rfl, hrd, rfl⟩ := hrel
      obtain ⟨q0, q1, cm⟩ := HC.out
      cases k with
      | zero =>
        have HRD : Hid _ := hrd.trans HR0.out
        rw [HGM.out] at q0
        clear hrd
        generalize M.mem.getD A 0 = X at *
        go_wp2_with fail
        go_ret
        exact ⟨by rw [HRD.out]; rfl, HBB.out⟩
      | succ i =>
        obtain ⟨ga, ca, hae, haf⟩ := HP.out.form
        obtain ⟨g, N, f, hag, _, hr, hN, hf⟩ := haf (by omega)
        have hga : s.a2 = some ⟨g, 0, none⟩ := by
          simp only [Value.slice.injEq] at hae
          exact hae.1.trans hag
        have hN' : M.pend.length * 2 ≤ N := hN
        rw [hga] at q1
        have k0 := hr.cell (i := i * 2) (by omega)
        rw [show f (i * 2) = .int .i64 (eAt eWrite M.pend i).addr from hf i (by omega) 0 (by decide)] at k0
        have k1 := hr.cell (i := i * 2 + 1) (by omega)
        rw [show f (i * 2 + 1) = .int .u64 (eAt eWrite M.pend i).word from hf i (by omega) 1 (by decide)] at k1
        have hst : readTo M A (i + 1) = if (eAt eWrite M.pend i).addr = (A : Int) then (eAt eWrite M.pend i).word else readTo M A i := rfl
        have L1 : (0 : Int) ≤ ((i + 1 : Nat) : Int) - 1 := by omega
        have L2 : ((i + 1 : Nat) : Int) - 1 < (M.pend.length : Int) := by omega
        have L3 : (((i + 1 : Nat) : Int) - 1).toNat = i := by omega
        have L4 : ((i + 1 : Nat) : Int) - 1 = (i : Int) := by omega
        rw [L4]
        rw [L4] at L1 L2
        have HRD : Hid _ := hrd
        have HST : Hid _ := hst
        clear hrd hst hr hf hae haf hga hN L3 L4
        generalize (eAt eWrite M.pend i).addr = B at *
        generalize (eAt eWrite M.pend i).word = C at *
        by_cases hB : B = (A : Int)
        · have hB' : (B == (A : Int)) = true := by simpa using hB
          have hv : readTo M A M.pend.length = C := by rw [HRD.out, HST.out, if_pos hB]
          have HV : Hid _ := hv
          clear hB hv
          go_wp2_with fail
          go_ret
          exact ⟨by rw [HV.out]; rfl, HBB.out⟩
        · have hB' : (B == (A : Int)) = false := by simpa using hB
          have hv : readTo M A M.pend.length = readTo M A i := by rw [HRD.out, HST.out, if_neg hB]
          have HV : Hid _ := hv
          clear hB hv
          go_wp2_with fail
          go_roundw
          case rel => exact ⟨i, by omega, rfl, HV.out, by first | trivial | rfl⟩
          case measure => simp [intOf] <;> omega
end Go.Proofs.Ytnmhkgmmpkjjeab
