import Derived.Test.YtnmhkgmmpkjjeaaG49
import Derived.Test.YtnmhkgmmpkjjeaaG42
namespace Go.Proofs.Ytnmhkgmmpkjjeaa
open Go.ChangeShapes Go.WideShapes Go.ChangeAt Go.RowKit
set_option linter.unusedVariables false
attribute [local go_sem ↓] Go.wp_at_zero Go.wp_at_succ


theorem Touch.put4 (a : World) (B : Nat) (v0 v1 v2 v3 : Value) : Touch (fun k => k = B) a ((((a.setCell ⟨B, 0, Option.none⟩ v0).setCell ⟨B, 1, Option.none⟩ v1).setCell ⟨B, 2, Option.none⟩ v2).setCell ⟨B, 3, Option.none⟩ v3) := by
  refine ⟨rfl, rfl, rfl, by simp, fun k hk hn => ?_⟩
  have n1 : k ≠ B := hn
  rw [Below.heap_setCell _ _ _ _ (by exact n1), Below.heap_setCell _ _ _ _ (by exact n1), Below.heap_setCell _ _ _ _ (by exact n1), Below.heap_setCell _ _ _ _ (by exact n1)]
set_option maxRecDepth 100000 in
set_option maxHeartbeats 4000000 in
theorem access_any (gu b0 B : Nat) (u : UV) (M : Mach) (page need choice : Int) (w : World) (hp0 : 0 ≤ page) (hp1 : page < 4096) (hc0 : 0 ≤ choice) (hc1 : choice ≤ 65535) (hnd : needOk need = true) (hok : WOk M) (hv : validB M = true) (hB : B ≤ w.heap.size) (h : UM w gu b0 B true u M) :
    Calls Try.prog 50 #[.pointer (some ⟨gu, 0, none⟩), .int .i64 page, .int .i64 need, .int .i64 choice] w fun r w' => r = .returned (seenV (accS M page need choice)) ∧ ∃ u', UStep w w' gu b0 B true u u' (accN M page choice) := by
  have hh := has_any choice 7 128 rfl (by omega) hc0 hc1
  obtain ⟨wb, hwb⟩ : ∃ wb, wb = (w.alloc (.cells #[.int .i64 0, .int .i64 0, .int .i64 0, .int .i64 0] 41)).alloc (.cells #[.int .i64 0, .int .i64 0, .int .i64 0, .int .i64 0] 32) := ⟨_, rfl⟩
  have hbb : Below w.heap.size w wb := by rw [hwb]; exact ((Below.refl _ _).alloc (Nat.le_refl _) _).alloc (by simp) _
  have hzb : wb.heap.size = w.heap.size + 2 := by rw [hwb]; simp
  have HRES : Hid (∀ wX, Below wb.heap.size wb wX → (wX.cell? ⟨w.heap.size, 0, none⟩ = some (.int .i64 0) ∧ wX.cell? ⟨w.heap.size, 1, none⟩ = some (.int .i64 0) ∧ wX.cell? ⟨w.heap.size, 2, none⟩ = some (.int .i64 0) ∧ wX.cell? ⟨w.heap.size, 3, none⟩ = some (.int .i64 0)) ∧ (wX.cell? ⟨w.heap.size + 1, 0, none⟩ = some (.int .i64 0) ∧ wX.cell? ⟨w.heap.size + 1, 1, none⟩ = some (.int .i64 0) ∧ wX.cell? ⟨w.heap.size + 1, 2, none⟩ = some (.int .i64 0) ∧ wX.cell? ⟨w.heap.size + 1, 3, none⟩ = some (.int .i64 0)) ∧ (wX.frozen? ⟨w.heap.size, 0, none⟩ = false ∧ wX.frozen? ⟨w.heap.size, 1, none⟩ = false ∧ wX.frozen? ⟨w.heap.size, 2, none⟩ = false ∧ wX.frozen? ⟨w.heap.size, 3, none⟩ = false) ∧ (wX.frozen? ⟨w.heap.size + 1, 0, none⟩ = false ∧ wX.frozen? ⟨w.heap.size + 1, 1, none⟩ = false ∧ wX.frozen? ⟨w.heap.size + 1, 2, none⟩ = false ∧ wX.frozen? ⟨w.heap.size + 1, 3, none⟩ = false) ∧ w.heap.size + 1 < wX.heap.size) := fun wX hX => by
    refine ⟨⟨?_, ?_, ?_, ?_⟩, ⟨?_, ?_, ?_, ?_⟩, ⟨?_, ?_, ?_, ?_⟩, ⟨?_, ?_, ?_, ?_⟩, by have := hX.size; omega⟩
    iterate 8 (exact (hX.cell (by simp; omega)).trans (by rw [hwb]; simp [go_sem]))
    iterate 8 (exact (hX.frozen (by simp; omega)).trans (by rw [hwb]; simp [go_sem]))
  have HUM : Hid (UM w gu b0 B true u M) := h
  obtain ⟨R, hR⟩ : ∃ R, R = walkM M page choice := ⟨_, rfl⟩
  have HWK : Hid (∀ wX, Below w.heap.size w wX → Calls Try.prog 47 #[.pointer (some ⟨gu, 0, none⟩), .int .i64 page, .int .i64 choice] wX fun r w' => r = .returned (.agg #[.int .i64 R.2.kind, .int .i64 R.2.out, .int .i64 R.2.perm, .int .i64 R.2.size]) ∧ ∃ u', UStep wX w' gu b0 B true u u' R.1) := fun wX hX => by
    rw [hR]
    exact walk_any gu b0 B true u M page choice wX hp0 hp1 hc0 hc1 hok (by have := hX.size; omega) (fun i hi => by
      have h1 := valid_wc hv i hi
      unfold wcOkB at h1
      simp only [Bool.and_eq_true, Bool.or_eq_true, decide_eq_true_eq] at h1
      have h2 : 0 ≤ (eAt eWc M.wc i).page ∧ (eAt eWc M.wc i).page < 4096 := by simpa [pageOk] using h1.1.1.1.2
      exact ⟨h1.1.1.1.1, h2.1, h2.2, h1.1.1.2⟩) (startM_ok hv page choice) (.inl rfl) (fun _ i hi => (valid_pend hv i hi).1) (h.below hX)
  have HSO : Hid (∀ wX, Calls Try.prog 114 #[.agg #[.int .i64 R.2.kind, .int .i64 R.2.out, .int .i64 R.2.perm, .int .i64 R.2.size], .int .i64 page, .int .i64 need] wX fun e w' => e = .returned (seenV (seenH page need R.2)) ∧ Below wX.heap.size wX w') := fun wX => by
    rw [hR]
    exact seenOf_any _ page need (walkM_perm M page choice) hnd wX
  have hent : ∀ i, i < M.tlb.length → (TRng (eAt eTlb M.tlb i) ∧ 0 ≤ (eAt eTlb M.tlb i).out ∧ (eAt eTlb M.tlb i).out < 65536) ∧ 0 ≤ (eAt eTlb M.tlb i).perm ∧ (eAt eTlb M.tlb i).perm ≤ 7 := fun i hi => by
    have h1 := valid_tlb hv i hi
    unfold tlbOkB at h1
    simp only [Bool.and_eq_true, Bool.or_eq_true, decide_eq_true_eq] at h1
    exact ⟨⟨valid_trng hv i hi, h1.1.1.2, h1.1.2⟩, by omega, h1.1.1.1.2⟩
  have HLU : Hid (∀ wX, Below w.heap.size w wX → Calls Try.prog 113 #[.pointer (some ⟨gu, 0, none⟩), .int .i64 page] wX fun r w' => r = .returned (luV M page) ∧ Below wX.heap.size wX w') := fun wX hX => lookUp_any gu b0 B true u M page wX hp0 hp1 hok.t (fun i hi => (hent i hi).1) (h.below hX)
  have HLP : Hid (firstC M page < M.tlb.length → 0 ≤ (lookUpM M page).perm ∧ (lookUpM M page).perm ≤ 7) := fun hf => by
    unfold lookUpM
    split
    · exact ⟨by simp, by simp⟩
    · exact (hent _ hf).2
  have HWB : Hid (wb = _) := hwb
  have HBB : Hid (Below _ w wb) := hbb
  have HZ : Hid (wb.heap.size = w.heap.size + 2) := hzb
  -- the end of the walk's way
  have HFIN : Hid (∀ (wA w3 : World) (u' : UV), Below w.heap.size w wA → w.heap.size + 1 < wA.heap.size → UStep wA w3 gu b0 B true u u' R.1 → ∀ ws, Touch (fun k => k = w.heap.size + 1) w3 ws → ∀ w4, Below ws.heap.size ws w4 → ∀ wF, Touch (fun k => k = w.heap.size) w4 wF → UStep w wF gu b0 B true u u' R.1) := by
    intro wA w3 u' hA hs hst ws hT1 w4 hb4 wF hT2
    have hlt : ∀ k, u.wr gu k → k < w.heap.size := fun k hk => h.wr_lt k hk
    have n0 : ¬ u'.wr gu w.heap.size := hst.wr_new (by omega) (fun hk => by have := hlt _ hk; omega)
    have n1 : ¬ u'.wr gu (w.heap.size + 1) := hst.wr_new hs (fun hk => by have := hlt _ hk; omega)
    have s1 : UStep w w3 gu b0 B true u u' R.1 := UStep.seal hA h hst ⟨rfl, rfl, rfl, Nat.le_refl _, fun _ _ _ => rfl⟩
    have s2 : UStep w ws gu b0 B true u u' R.1 := UStep.own h s1 hT1 (by omega) n1
    have s3 : UStep w w4 gu b0 B true u u' R.1 := UStep.trans s2 (UStep.refl s2.um hb4)
    exact UStep.own h s3 hT2 (Nat.le_refl _) n0
  have HNW : Hid (∀ (wA w3 : World) (u' : UV), Below w.heap.size w wA → UStep wA w3 gu b0 B true u u' R.1 → ∀ k, w.heap.size ≤ k → k < wA.heap.size → w3.heap[k]? = wA.heap[k]?) := by
    intro wA w3 u' hA hst k hk hk2
    exact hst.tch.block k hk2 (fun hw => by have := h.wr_lt k hw; omega)
  have HN : Hid (useT M page choice = false → accN M page choice = R.1 ∧ accS M page need choice = seenH page need R.2) := fun hu => by
    unfold accN accS
    rw [hu, hR]
    exact ⟨rfl, rfl⟩
  have HY : Hid (useT M page choice = true → accN M page choice = M ∧ accS M page need choice = seenH page need (lookUpM M page)) := fun hu => by
    unfold accN accS
    rw [hu]
    exact ⟨rfl, rfl⟩
  have HUT : Hid (useT M page choice = (bitI choice 7 && decide (firstC M page < M.tlb.length))) := rfl
  clear hwb hbb hzb h hR hent hok hv
  cases hb7 : bitI choice 7
  · rw [hb7] at hh
    have HV2 : Hid (accN M page choice = R.1 ∧ accS M page need choice = seenH page need R.2) := HN.out (by rw [HUT.out, hb7]; rfl)
    have HA : Hid ((wb.cell? ⟨w.heap.size, 0, none⟩ = some (.int .i64 0) ∧ wb.cell? ⟨w.heap.size, 1, none⟩ = some (.int .i64 0) ∧ wb.cell? ⟨w.heap.size, 2, none⟩ = some (.int .i64 0) ∧ wb.cell? ⟨w.heap.size, 3, none⟩ = some (.int .i64 0)) ∧ (wb.cell? ⟨w.heap.size + 1, 0, none⟩ = some (.int .i64 0) ∧ wb.cell? ⟨w.heap.size + 1, 1, none⟩ = some (.int .i64 0) ∧ wb.cell? ⟨w.heap.size + 1, 2, none⟩ = some (.int .i64 0) ∧ wb.cell? ⟨w.heap.size + 1, 3, none⟩ = some (.int .i64 0)) ∧ (wb.frozen? ⟨w.heap.size, 0, none⟩ = false ∧ wb.frozen? ⟨w.heap.size, 1, none⟩ = false ∧ wb.frozen? ⟨w.heap.size, 2, none⟩ = false ∧ wb.frozen? ⟨w.heap.size, 3, none⟩ = false) ∧ (wb.frozen? ⟨w.heap.size + 1, 0, none⟩ = false ∧ wb.frozen? ⟨w.heap.size + 1, 1, none⟩ = false ∧ wb.frozen? ⟨w.heap.size + 1, 2, none⟩ = false ∧ wb.frozen? ⟨w.heap.size + 1, 3, none⟩ = false)) := by
      obtain ⟨a, b, c, d, _⟩ := HRES.out wb (Below.refl _ _)
      exact ⟨a, b, c, d⟩
    have HSA : Hid (w.heap.size + 1 < wb.heap.size) := by have := HZ.out; show w.heap.size + 1 < wb.heap.size; omega
    clear hb7
    go_enter Try.func50, Try.ntmps50
    go_wp2_with (go_at_call 112; refine (hh _).mono ?_; rintro e wE ⟨rfl, hwE⟩; obtain rfl := hwE.symm)
    rw [← HWB.out]
    refine (HWK.out wb HBB.out).mono ?_
    rintro r w3 ⟨rfl, u', hst⟩
    have z0 := HNW.out wb w3 u' HBB.out hst w.heap.size (Nat.le_refl _) (by have := HSA.out; omega)
    have z1 := HNW.out wb w3 u' HBB.out hst (w.heap.size + 1) (by omega) HSA.out
    have HST : Hid (UStep wb w3 gu b0 B true u u' R.1) := hst
    obtain ⟨⟨r0, r1, r2, r3⟩, ⟨m0, m1, m2, m3⟩, ⟨g0, g1, g2, g3⟩, ⟨l0, l1, l2, l3⟩⟩ := HA.out
    have HA3 : Hid ((w3.cell? ⟨w.heap.size, 0, none⟩ = some (.int .i64 0) ∧ w3.cell? ⟨w.heap.size, 1, none⟩ = some (.int .i64 0) ∧ w3.cell? ⟨w.heap.size, 2, none⟩ = some (.int .i64 0) ∧ w3.cell? ⟨w.heap.size, 3, none⟩ = some (.int .i64 0)) ∧ (w3.frozen? ⟨w.heap.size, 0, none⟩ = false ∧ w3.frozen? ⟨w.heap.size, 1, none⟩ = false ∧ w3.frozen? ⟨w.heap.size, 2, none⟩ = false ∧ w3.frozen? ⟨w.heap.size, 3, none⟩ = false) ∧ (w3.cell? ⟨w.heap.size + 1, 0, none⟩ = some (.int .i64 0) ∧ w3.cell? ⟨w.heap.size + 1, 1, none⟩ = some (.int .i64 0) ∧ w3.cell? ⟨w.heap.size + 1, 2, none⟩ = some (.int .i64 0) ∧ w3.cell? ⟨w.heap.size + 1, 3, none⟩ = some (.int .i64 0)) ∧ (w3.frozen? ⟨w.heap.size + 1, 0, none⟩ = false ∧ w3.frozen? ⟨w.heap.size + 1, 1, none⟩ = false ∧ w3.frozen? ⟨w.heap.size + 1, 2, none⟩ = false ∧ w3.frozen? ⟨w.heap.size + 1, 3, none⟩ = false)) := by
      refine ⟨⟨?_, ?_, ?_, ?_⟩, ⟨?_, ?_, ?_, ?_⟩, ⟨?_, ?_, ?_, ?_⟩, ?_, ?_, ?_, ?_⟩
      · exact (World.cell?_of_block z0).trans r0
      · exact (World.cell?_of_block z0).trans r1
      · exact (World.cell?_of_block z0).trans r2
      · exact (World.cell?_of_block z0).trans r3
      · exact (World.frozen?_of_block z0).trans g0
      · exact (World.frozen?_of_block z0).trans g1
      · exact (World.frozen?_of_block z0).trans g2
      · exact (World.frozen?_of_block z0).trans g3
      · exact (World.cell?_of_block z1).trans m0
      · exact (World.cell?_of_block z1).trans m1
      · exact (World.cell?_of_block z1).trans m2
      · exact (World.cell?_of_block z1).trans m3
      · exact (World.frozen?_of_block z1).trans l0
      · exact (World.frozen?_of_block z1).trans l1
      · exact (World.frozen?_of_block z1).trans l2
      · exact (World.frozen?_of_block z1).trans l3
    have hsz3 := hst.tch.size
    have hsA := HSA.out
    clear hst z0 z1 r0 r1 r2 r3 m0 m1 m2 m3 g0 g1 g2 g3 l0 l1 l2 l3
    obtain ⟨⟨r0, r1, r2, r3⟩, ⟨g0, g1, g2, g3⟩, ⟨m0, m1, m2, m3⟩, l0, l1, l2, l3⟩ := HA3.out
    obtain ⟨ws, hws⟩ : ∃ ws, ws = ((((w3.setCell ⟨w.heap.size + 1, 0, none⟩ (.int .i64 R.2.kind)).setCell ⟨w.heap.size + 1, 1, none⟩ (.int .i64 R.2.out)).setCell ⟨w.heap.size + 1, 2, none⟩ (.int .i64 R.2.perm)).setCell ⟨w.heap.size + 1, 3, none⟩ (.int .i64 R.2.size)) := ⟨_, rfl⟩
    have hT1 : Touch (fun k => k = w.heap.size + 1) w3 ws := by rw [hws]; exact Touch.put4 w3 _ _ _ _ _
    have hb0 := hT1.block w.heap.size (by omega) (by omega)
    have HS0 : Hid (∀ wX, Below ws.heap.size ws wX → (wX.cell? ⟨w.heap.size, 0, none⟩ = some (.int .i64 0) ∧ wX.cell? ⟨w.heap.size, 1, none⟩ = some (.int .i64 0) ∧ wX.cell? ⟨w.heap.size, 2, none⟩ = some (.int .i64 0) ∧ wX.cell? ⟨w.heap.size, 3, none⟩ = some (.int .i64 0)) ∧ (wX.frozen? ⟨w.heap.size, 0, none⟩ = false ∧ wX.frozen? ⟨w.heap.size, 1, none⟩ = false ∧ wX.frozen? ⟨w.heap.size, 2, none⟩ = false ∧ wX.frozen? ⟨w.heap.size, 3, none⟩ = false)) := fun wX hX => by
      have hz := hT1.size
      refine ⟨⟨?_, ?_, ?_, ?_⟩, ?_, ?_, ?_, ?_⟩
      · exact (hX.cell (by simp; omega)).trans ((World.cell?_of_block hb0).trans r0)
      · exact (hX.cell (by simp; omega)).trans ((World.cell?_of_block hb0).trans r1)
      · exact (hX.cell (by simp; omega)).trans ((World.cell?_of_block hb0).trans r2)
      · exact (hX.cell (by simp; omega)).trans ((World.cell?_of_block hb0).trans r3)
      · exact (hX.frozen (by simp; omega)).trans ((World.frozen?_of_block hb0).trans g0)
      · exact (hX.frozen (by simp; omega)).trans ((World.frozen?_of_block hb0).trans g1)
      · exact (hX.frozen (by simp; omega)).trans ((World.frozen?_of_block hb0).trans g2)
      · exact (hX.frozen (by simp; omega)).trans ((World.frozen?_of_block hb0).trans g3)
    have HT1 : Hid (Touch (fun k => k = w.heap.size + 1) w3 ws) := hT1
    have HWS : Hid (ws = _) := hws
    clear hws hT1 hb0 r0 r1 r2 r3 g0 g1 g2 g3
    go_wp2_with fail
    rw [← HWS.out]
    refine (HSO.out ws).mono ?_
    rintro r w4 ⟨rfl, hb4⟩
    obtain ⟨⟨r0, r1, r2, r3⟩, g0, g1, g2, g3⟩ := HS0.out w4 hb4
    have HFN : Hid _ := HFIN.out wb w3 u' HBB.out HSA.out HST.out ws HT1.out w4 hb4
    obtain ⟨SX, hSX⟩ : ∃ SX, SX = seenH page need R.2 := ⟨_, rfl⟩
    rw [← hSX]
    have HSX : Hid (SX = _) := hSX
    clear hSX m0 m1 m2 m3 l0 l1 l2 l3 hb4
    unfold seenV
    go_wp2_with fail
    obtain ⟨wF, hwF⟩ : ∃ wF, wF = ((((w4.setCell ⟨w.heap.size, 0, none⟩ (.int .i64 SX.page)).setCell ⟨w.heap.size, 1, none⟩ (.int .i64 SX.need)).setCell ⟨w.heap.size, 2, none⟩ (.int .i64 SX.kind)).setCell ⟨w.heap.size, 3, none⟩ (.int .i64 SX.out)) := ⟨_, rfl⟩
    have f0 : wF.cell? ⟨w.heap.size, 0, none⟩ = some (.int .i64 SX.page) := by rw [hwF]; simp [go_sem, r0]
    have f1 : wF.cell? ⟨w.heap.size, 1, none⟩ = some (.int .i64 SX.need) := by rw [hwF]; simp [go_sem, r1]
    have f2 : wF.cell? ⟨w.heap.size, 2, none⟩ = some (.int .i64 SX.kind) := by rw [hwF]; simp [go_sem, r2]
    have f3 : wF.cell? ⟨w.heap.size, 3, none⟩ = some (.int .i64 SX.out) := by rw [hwF]; simp [go_sem, r3]
    have hT2 : Touch (fun k => k = w.heap.size) w4 wF := by rw [hwF]; exact Touch.put4 w4 _ _ _ _ _
    rw [← hwF]
    exact bodyPost_ret (v := .agg #[.int .i64 SX.page, .int .i64 SX.need, .int .i64 SX.kind, .int .i64 SX.out]) (by simp [results, Try.results50, go_sem, f0, f1, f2, f3]) rfl ⟨by rw [HV2.out.2, ← HSX.out]; rfl, u', by rw [HV2.out.1]; exact HFN.out wF hT2⟩
  · rw [hb7] at hh
    have hlu := HLU.out wb HBB.out
    rw [HWB.out] at hlu
    by_cases hf : firstC M page < M.tlb.length
    · obtain ⟨v1, v2⟩ := HY.out (by rw [HUT.out, hb7, decide_eq_true hf]; rfl)
      rw [v1, v2]
      have hso := fun wX => seenOf_any (lookUpM M page) page need (HLP.out hf) hnd wX
      have hlv : luV M page = .tuple #[hitV (lookUpM M page), .bool true] := by unfold luV; rw [if_pos hf, decide_eq_true hf]
      rw [hlv] at hlu
      obtain ⟨SX, hSX⟩ : ∃ SX, SX = seenH page need (lookUpM M page) := ⟨_, rfl⟩
      rw [← hSX] at hso ⊢
      unfold hitV at hso hlu
      unfold seenV at hso ⊢
      generalize (lookUpM M page).kind = H0 at *
      generalize (lookUpM M page).out = H1 at *
      generalize (lookUpM M page).perm = H2 at *
      generalize (lookUpM M page).size = H3 at *
      clear hb7 hf v1 v2 hlv hSX
      go_enter Try.func50, Try.ntmps50
      go_wp2_with (go_at_call 112; refine (hh _).mono ?_; rintro e wE ⟨rfl, hwE⟩; obtain rfl := hwE.symm)
      refine hlu.mono ?_
      rintro r w1 ⟨rfl, hb1'⟩
      have hb1 : Below wb.heap.size wb w1 := by rw [HWB.out]; exact hb1'
      obtain ⟨⟨r0, r1, r2, r3⟩, ⟨m0, m1, m2, m3⟩, ⟨g0, g1, g2, g3⟩, ⟨l0, l1, l2, l3⟩, N1⟩ := HRES.out w1 hb1
      obtain ⟨ws, hws⟩ : ∃ ws, ws = ((((w1.setCell ⟨w.heap.size + 1, 0, none⟩ (.int .i64 H0)).setCell ⟨w.heap.size + 1, 1, none⟩ (.int .i64 H1)).setCell ⟨w.heap.size + 1, 2, none⟩ (.int .i64 H2)).setCell ⟨w.heap.size + 1, 3, none⟩ (.int .i64 H3)) := ⟨_, rfl⟩
      have hT1 : Touch (fun k => k = w.heap.size + 1) w1 ws := by rw [hws]; exact Touch.put4 w1 _ _ _ _ _
      have hb0 := hT1.block w.heap.size (by omega) (by omega)
      have HBS : Hid (Below w.heap.size w ws) := Touch.below (HBB.out.trans (hb1.mono (by have := HZ.out; omega))) hT1 (by omega) (fun k hk => by omega)
      have HS0 : Hid (∀ wX, Below ws.heap.size ws wX → (wX.cell? ⟨w.heap.size, 0, none⟩ = some (.int .i64 0) ∧ wX.cell? ⟨w.heap.size, 1, none⟩ = some (.int .i64 0) ∧ wX.cell? ⟨w.heap.size, 2, none⟩ = some (.int .i64 0) ∧ wX.cell? ⟨w.heap.size, 3, none⟩ = some (.int .i64 0)) ∧ (wX.frozen? ⟨w.heap.size, 0, none⟩ = false ∧ wX.frozen? ⟨w.heap.size, 1, none⟩ = false ∧ wX.frozen? ⟨w.heap.size, 2, none⟩ = false ∧ wX.frozen? ⟨w.heap.size, 3, none⟩ = false)) := fun wX hX => by
        have hz := hT1.size
        refine ⟨⟨?_, ?_, ?_, ?_⟩, ?_, ?_, ?_, ?_⟩
        · exact (hX.cell (by simp; omega)).trans ((World.cell?_of_block hb0).trans r0)
        · exact (hX.cell (by simp; omega)).trans ((World.cell?_of_block hb0).trans r1)
        · exact (hX.cell (by simp; omega)).trans ((World.cell?_of_block hb0).trans r2)
        · exact (hX.cell (by simp; omega)).trans ((World.cell?_of_block hb0).trans r3)
        · exact (hX.frozen (by simp; omega)).trans ((World.frozen?_of_block hb0).trans g0)
        · exact (hX.frozen (by simp; omega)).trans ((World.frozen?_of_block hb0).trans g1)
        · exact (hX.frozen (by simp; omega)).trans ((World.frozen?_of_block hb0).trans g2)
        · exact (hX.frozen (by simp; omega)).trans ((World.frozen?_of_block hb0).trans g3)
      have HWS : Hid (ws = _) := hws
      clear hws hT1 hb0 hb1' hb1 hlu r0 r1 r2 r3 g0 g1 g2 g3
      go_wp2_with fail
      rw [← HWS.out]
      refine (hso ws).mono ?_
      rintro r w4 ⟨rfl, hb4⟩
      obtain ⟨⟨r0, r1, r2, r3⟩, g0, g1, g2, g3⟩ := HS0.out w4 hb4
      have HB4 : Hid (Below w.heap.size w w4) := HBS.out.trans (hb4.mono HBS.out.size)
      clear hb4 hso m0 m1 m2 m3 l0 l1 l2 l3
      go_wp2_with fail
      obtain ⟨wF, hwF⟩ : ∃ wF, wF = ((((w4.setCell ⟨w.heap.size, 0, none⟩ (.int .i64 SX.page)).setCell ⟨w.heap.size, 1, none⟩ (.int .i64 SX.need)).setCell ⟨w.heap.size, 2, none⟩ (.int .i64 SX.kind)).setCell ⟨w.heap.size, 3, none⟩ (.int .i64 SX.out)) := ⟨_, rfl⟩
      have f0 : wF.cell? ⟨w.heap.size, 0, none⟩ = some (.int .i64 SX.page) := by rw [hwF]; simp [go_sem, r0]
      have f1 : wF.cell? ⟨w.heap.size, 1, none⟩ = some (.int .i64 SX.need) := by rw [hwF]; simp [go_sem, r1]
      have f2 : wF.cell? ⟨w.heap.size, 2, none⟩ = some (.int .i64 SX.kind) := by rw [hwF]; simp [go_sem, r2]
      have f3 : wF.cell? ⟨w.heap.size, 3, none⟩ = some (.int .i64 SX.out) := by rw [hwF]; simp [go_sem, r3]
      have hT2 : Touch (fun k => k = w.heap.size) w4 wF := by rw [hwF]; exact Touch.put4 w4 _ _ _ _ _
      rw [← hwF]
      exact bodyPost_ret (v := .agg #[.int .i64 SX.page, .int .i64 SX.need, .int .i64 SX.kind, .int .i64 SX.out]) (by simp [results, Try.results50, go_sem, f0, f1, f2, f3]) rfl ⟨rfl, u, UStep.refl HUM.out (Touch.below HB4.out hT2 HB4.out.size (fun k hk => by omega))⟩
    · have HV2 : Hid (accN M page choice = R.1 ∧ accS M page need choice = seenH page need R.2) := HN.out (by rw [HUT.out, hb7, decide_eq_false hf]; rfl)
      have hlv : luV M page = .tuple #[.agg #[.int .i64 0, .int .i64 0, .int .i64 0, .int .i64 0], .bool false] := by unfold luV; rw [if_neg hf, decide_eq_false hf]; rfl
      rw [hlv] at hlu
      clear hb7 hf hlv
      go_enter Try.func50, Try.ntmps50
      go_wp2_with (go_at_call 112; refine (hh _).mono ?_; rintro e wE ⟨rfl, hwE⟩; obtain rfl := hwE.symm)
      refine hlu.mono ?_
      rintro r w1 ⟨rfl, hb1'⟩
      have hb1 : Below wb.heap.size wb w1 := by rw [HWB.out]; exact hb1'
      obtain ⟨⟨r0, r1, r2, r3⟩, ⟨m0, m1, m2, m3⟩, ⟨g0, g1, g2, g3⟩, ⟨l0, l1, l2, l3⟩, N1⟩ := HRES.out w1 hb1
      obtain ⟨wA, hwA⟩ : ∃ wA, wA = ((((w1.setCell ⟨w.heap.size + 1, 0, none⟩ (.int .i64 0)).setCell ⟨w.heap.size + 1, 1, none⟩ (.int .i64 0)).setCell ⟨w.heap.size + 1, 2, none⟩ (.int .i64 0)).setCell ⟨w.heap.size + 1, 3, none⟩ (.int .i64 0)) := ⟨_, rfl⟩
      have hT1 : Touch (fun k => k = w.heap.size + 1) w1 wA := by rw [hwA]; exact Touch.put4 w1 _ _ _ _ _
      have hb0 := hT1.block w.heap.size (by omega) (by omega)
      have HBA : Hid (Below w.heap.size w wA) := Touch.below (HBB.out.trans (hb1.mono (by have := HZ.out; omega))) hT1 (by omega) (fun k hk => by omega)
      have HSA : Hid (w.heap.size + 1 < wA.heap.size) := by have := hT1.size; show w.heap.size + 1 < wA.heap.size; omega
      have HA : Hid ((wA.cell? ⟨w.heap.size, 0, none⟩ = some (.int .i64 0) ∧ wA.cell? ⟨w.heap.size, 1, none⟩ = some (.int .i64 0) ∧ wA.cell? ⟨w.heap.size, 2, none⟩ = some (.int .i64 0) ∧ wA.cell? ⟨w.heap.size, 3, none⟩ = some (.int .i64 0)) ∧ (wA.cell? ⟨w.heap.size + 1, 0, none⟩ = some (.int .i64 0) ∧ wA.cell? ⟨w.heap.size + 1, 1, none⟩ = some (.int .i64 0) ∧ wA.cell? ⟨w.heap.size + 1, 2, none⟩ = some (.int .i64 0) ∧ wA.cell? ⟨w.heap.size + 1, 3, none⟩ = some (.int .i64 0)) ∧ (wA.frozen? ⟨w.heap.size, 0, none⟩ = false ∧ wA.frozen? ⟨w.heap.size, 1, none⟩ = false ∧ wA.frozen? ⟨w.heap.size, 2, none⟩ = false ∧ wA.frozen? ⟨w.heap.size, 3, none⟩ = false) ∧ (wA.frozen? ⟨w.heap.size + 1, 0, none⟩ = false ∧ wA.frozen? ⟨w.heap.size + 1, 1, none⟩ = false ∧ wA.frozen? ⟨w.heap.size + 1, 2, none⟩ = false ∧ wA.frozen? ⟨w.heap.size + 1, 3, none⟩ = false)) := by
        refine ⟨⟨?_, ?_, ?_, ?_⟩, ⟨?_, ?_, ?_, ?_⟩, ⟨?_, ?_, ?_, ?_⟩, ?_, ?_, ?_, ?_⟩
        · exact (World.cell?_of_block hb0).trans r0
        · exact (World.cell?_of_block hb0).trans r1
        · exact (World.cell?_of_block hb0).trans r2
        · exact (World.cell?_of_block hb0).trans r3
        · rw [hwA]; simp [go_sem, m0]
        · rw [hwA]; simp [go_sem, m1]
        · rw [hwA]; simp [go_sem, m2]
        · rw [hwA]; simp [go_sem, m3]
        · exact (World.frozen?_of_block hb0).trans g0
        · exact (World.frozen?_of_block hb0).trans g1
        · exact (World.frozen?_of_block hb0).trans g2
        · exact (World.frozen?_of_block hb0).trans g3
        · rw [hwA]; simp [go_sem, l0]
        · rw [hwA]; simp [go_sem, l1]
        · rw [hwA]; simp [go_sem, l2]
        · rw [hwA]; simp [go_sem, l3]
      have HWA : Hid (wA = _) := hwA
      clear hwA hT1 hb0 hb1' hb1 hlu r0 r1 r2 r3 g0 g1 g2 g3
      go_wp2_with fail
      rw [← HWA.out]
      clear m0 m1 m2 m3 l0 l1 l2 l3
      refine (HWK.out wA HBA.out).mono ?_
      rintro r w3 ⟨rfl, u', hst⟩
      have z0 := HNW.out wA w3 u' HBA.out hst w.heap.size (Nat.le_refl _) (by have := HSA.out; omega)
      have z1 := HNW.out wA w3 u' HBA.out hst (w.heap.size + 1) (by omega) HSA.out
      have HST : Hid (UStep wA w3 gu b0 B true u u' R.1) := hst
      obtain ⟨⟨r0, r1, r2, r3⟩, ⟨m0, m1, m2, m3⟩, ⟨g0, g1, g2, g3⟩, ⟨l0, l1, l2, l3⟩⟩ := HA.out
      have HA3 : Hid ((w3.cell? ⟨w.heap.size, 0, none⟩ = some (.int .i64 0) ∧ w3.cell? ⟨w.heap.size, 1, none⟩ = some (.int .i64 0) ∧ w3.cell? ⟨w.heap.size, 2, none⟩ = some (.int .i64 0) ∧ w3.cell? ⟨w.heap.size, 3, none⟩ = some (.int .i64 0)) ∧ (w3.frozen? ⟨w.heap.size, 0, none⟩ = false ∧ w3.frozen? ⟨w.heap.size, 1, none⟩ = false ∧ w3.frozen? ⟨w.heap.size, 2, none⟩ = false ∧ w3.frozen? ⟨w.heap.size, 3, none⟩ = false) ∧ (w3.cell? ⟨w.heap.size + 1, 0, none⟩ = some (.int .i64 0) ∧ w3.cell? ⟨w.heap.size + 1, 1, none⟩ = some (.int .i64 0) ∧ w3.cell? ⟨w.heap.size + 1, 2, none⟩ = some (.int .i64 0) ∧ w3.cell? ⟨w.heap.size + 1, 3, none⟩ = some (.int .i64 0)) ∧ (w3.frozen? ⟨w.heap.size + 1, 0, none⟩ = false ∧ w3.frozen? ⟨w.heap.size + 1, 1, none⟩ = false ∧ w3.frozen? ⟨w.heap.size + 1, 2, none⟩ = false ∧ w3.frozen? ⟨w.heap.size + 1, 3, none⟩ = false)) := by
        refine ⟨⟨?_, ?_, ?_, ?_⟩, ⟨?_, ?_, ?_, ?_⟩, ⟨?_, ?_, ?_, ?_⟩, ?_, ?_, ?_, ?_⟩
        · exact (World.cell?_of_block z0).trans r0
        · exact (World.cell?_of_block z0).trans r1
        · exact (World.cell?_of_block z0).trans r2
        · exact (World.cell?_of_block z0).trans r3
        · exact (World.frozen?_of_block z0).trans g0
        · exact (World.frozen?_of_block z0).trans g1
        · exact (World.frozen?_of_block z0).trans g2
        · exact (World.frozen?_of_block z0).trans g3
        · exact (World.cell?_of_block z1).trans m0
        · exact (World.cell?_of_block z1).trans m1
        · exact (World.cell?_of_block z1).trans m2
        · exact (World.cell?_of_block z1).trans m3
        · exact (World.frozen?_of_block z1).trans l0
        · exact (World.frozen?_of_block z1).trans l1
        · exact (World.frozen?_of_block z1).trans l2
        · exact (World.frozen?_of_block z1).trans l3
      have hsz3 := hst.tch.size
      have hsA := HSA.out
      clear hst z0 z1 r0 r1 r2 r3 m0 m1 m2 m3 g0 g1 g2 g3 l0 l1 l2 l3
      obtain ⟨⟨r0, r1, r2, r3⟩, ⟨g0, g1, g2, g3⟩, ⟨m0, m1, m2, m3⟩, l0, l1, l2, l3⟩ := HA3.out
      obtain ⟨ws, hws⟩ : ∃ ws, ws = ((((w3.setCell ⟨w.heap.size + 1, 0, none⟩ (.int .i64 R.2.kind)).setCell ⟨w.heap.size + 1, 1, none⟩ (.int .i64 R.2.out)).setCell ⟨w.heap.size + 1, 2, none⟩ (.int .i64 R.2.perm)).setCell ⟨w.heap.size + 1, 3, none⟩ (.int .i64 R.2.size)) := ⟨_, rfl⟩
      have hT1 : Touch (fun k => k = w.heap.size + 1) w3 ws := by rw [hws]; exact Touch.put4 w3 _ _ _ _ _
      have hb0 := hT1.block w.heap.size (by omega) (by omega)
      have HS0 : Hid (∀ wX, Below ws.heap.size ws wX → (wX.cell? ⟨w.heap.size, 0, none⟩ = some (.int .i64 0) ∧ wX.cell? ⟨w.heap.size, 1, none⟩ = some (.int .i64 0) ∧ wX.cell? ⟨w.heap.size, 2, none⟩ = some (.int .i64 0) ∧ wX.cell? ⟨w.heap.size, 3, none⟩ = some (.int .i64 0)) ∧ (wX.frozen? ⟨w.heap.size, 0, none⟩ = false ∧ wX.frozen? ⟨w.heap.size, 1, none⟩ = false ∧ wX.frozen? ⟨w.heap.size, 2, none⟩ = false ∧ wX.frozen? ⟨w.heap.size, 3, none⟩ = false)) := fun wX hX => by
        have hz := hT1.size
        refine ⟨⟨?_, ?_, ?_, ?_⟩, ?_, ?_, ?_, ?_⟩
        · exact (hX.cell (by simp; omega)).trans ((World.cell?_of_block hb0).trans r0)
        · exact (hX.cell (by simp; omega)).trans ((World.cell?_of_block hb0).trans r1)
        · exact (hX.cell (by simp; omega)).trans ((World.cell?_of_block hb0).trans r2)
        · exact (hX.cell (by simp; omega)).trans ((World.cell?_of_block hb0).trans r3)
        · exact (hX.frozen (by simp; omega)).trans ((World.frozen?_of_block hb0).trans g0)
        · exact (hX.frozen (by simp; omega)).trans ((World.frozen?_of_block hb0).trans g1)
        · exact (hX.frozen (by simp; omega)).trans ((World.frozen?_of_block hb0).trans g2)
        · exact (hX.frozen (by simp; omega)).trans ((World.frozen?_of_block hb0).trans g3)
      have HT1 : Hid (Touch (fun k => k = w.heap.size + 1) w3 ws) := hT1
      have HWS : Hid (ws = _) := hws
      clear hws hT1 hb0 r0 r1 r2 r3 g0 g1 g2 g3
      go_wp2_with fail
      rw [← HWS.out]
      refine (HSO.out ws).mono ?_
      rintro r w4 ⟨rfl, hb4⟩
      obtain ⟨⟨r0, r1, r2, r3⟩, g0, g1, g2, g3⟩ := HS0.out w4 hb4
      have HFN : Hid _ := HFIN.out wA w3 u' HBA.out HSA.out HST.out ws HT1.out w4 hb4
      obtain ⟨SX, hSX⟩ : ∃ SX, SX = seenH page need R.2 := ⟨_, rfl⟩
      rw [← hSX]
      have HSX : Hid (SX = _) := hSX
      clear hSX m0 m1 m2 m3 l0 l1 l2 l3 hb4
      unfold seenV
      go_wp2_with fail
      obtain ⟨wF, hwF⟩ : ∃ wF, wF = ((((w4.setCell ⟨w.heap.size, 0, none⟩ (.int .i64 SX.page)).setCell ⟨w.heap.size, 1, none⟩ (.int .i64 SX.need)).setCell ⟨w.heap.size, 2, none⟩ (.int .i64 SX.kind)).setCell ⟨w.heap.size, 3, none⟩ (.int .i64 SX.out)) := ⟨_, rfl⟩
      have f0 : wF.cell? ⟨w.heap.size, 0, none⟩ = some (.int .i64 SX.page) := by rw [hwF]; simp [go_sem, r0]
      have f1 : wF.cell? ⟨w.heap.size, 1, none⟩ = some (.int .i64 SX.need) := by rw [hwF]; simp [go_sem, r1]
      have f2 : wF.cell? ⟨w.heap.size, 2, none⟩ = some (.int .i64 SX.kind) := by rw [hwF]; simp [go_sem, r2]
      have f3 : wF.cell? ⟨w.heap.size, 3, none⟩ = some (.int .i64 SX.out) := by rw [hwF]; simp [go_sem, r3]
      have hT2 : Touch (fun k => k = w.heap.size) w4 wF := by rw [hwF]; exact Touch.put4 w4 _ _ _ _ _
      rw [← hwF]
      exact bodyPost_ret (v := .agg #[.int .i64 SX.page, .int .i64 SX.need, .int .i64 SX.kind, .int .i64 SX.out]) (by simp [results, Try.results50, go_sem, f0, f1, f2, f3]) rfl ⟨by rw [HV2.out.2, ← HSX.out]; rfl, u', by rw [HV2.out.1]; exact HFN.out wF hT2⟩
end Go.Proofs.Ytnmhkgmmpkjjeaa
