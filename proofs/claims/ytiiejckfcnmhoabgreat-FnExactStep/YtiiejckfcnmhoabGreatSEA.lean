import Derived.Test.YtiiejckfcnmhoabGreatUEA
import Derived.Test.YtiiejckfcnmhoabGreatUDelF
import Derived.Test.YtiiejckfcnmhoabGreatSCopyM
import Derived.Deep.DeepCutAuto
namespace Go.Proofs.YtiiejckfcnmhoabGreat
open Go.ChangeShapes Go.WideShapes Go.ChangeAt Go.RowKit
set_option linter.unusedVariables false
attribute [local go_sem ↓] Go.wp_at_zero Go.wp_at_succ

theorem tlbS_cells {w : World} {b c : Nat} {a : Option Addr} {xs : List TlbE} (h : ERow eTlb w b (.slice a xs.length c) xs) :
    ∃ g, (0 < xs.length → a = some ⟨g, 0, none⟩ ∧ g < w.heap.size) ∧ ∀ k P S O R D, k < xs.length → eAt eTlb xs k = ⟨P, S, O, R, D⟩ → ∀ wX : World, wX.heap[g]? = w.heap[g]? → wX.cell? ⟨g, k * 5, none⟩ = some (.int .i64 P) ∧ wX.cell? ⟨g, k * 5 + 1, none⟩ = some (.int .i64 S) ∧ wX.cell? ⟨g, k * 5 + 2, none⟩ = some (.int .i64 O) ∧ wX.cell? ⟨g, k * 5 + 3, none⟩ = some (.int .i64 R) ∧ wX.cell? ⟨g, k * 5 + 4, none⟩ = some (.bool D) := by
  obtain ⟨g, h1, h2⟩ := h.cellsB
  refine ⟨g, fun h0 => ⟨(h1 h0).1, (h1 h0).2.1⟩, fun k P S O R D hk he wX hX => ?_⟩
  have e0 : ∀ j, eCell eTlb xs k j = ((eTlb.enc ⟨P, S, O, R, D⟩)[j]?).getD (.bool false) := fun j => by unfold eCell; rw [he]
  have c : ∀ j, j < 5 → wX.cell? ⟨g, k * 5 + j, none⟩ = some (eCell eTlb xs k j) := fun j hj => h2 k hk j hj wX hX
  exact ⟨(c 0 (by omega)).trans (by rw [e0]; rfl), (c 1 (by omega)).trans (by rw [e0]; rfl), (c 2 (by omega)).trans (by rw [e0]; rfl), (c 3 (by omega)).trans (by rw [e0]; rfl), (c 4 (by omega)).trans (by rw [e0]; rfl)⟩

theorem wcS_cells {w : World} {b c : Nat} {a : Option Addr} {xs : List WcE} (h : ERow eWc w b (.slice a xs.length c) xs) :
    ∃ g, (0 < xs.length → a = some ⟨g, 0, none⟩ ∧ g < w.heap.size) ∧ ∀ k L P T D, k < xs.length → eAt eWc xs k = ⟨L, P, T, D⟩ → ∀ wX : World, wX.heap[g]? = w.heap[g]? → wX.cell? ⟨g, k * 4, none⟩ = some (.int .i64 L) ∧ wX.cell? ⟨g, k * 4 + 1, none⟩ = some (.int .i64 P) ∧ wX.cell? ⟨g, k * 4 + 2, none⟩ = some (.int .i64 T) ∧ wX.cell? ⟨g, k * 4 + 3, none⟩ = some (.bool D) := by
  obtain ⟨g, h1, h2⟩ := h.cellsB
  refine ⟨g, fun h0 => ⟨(h1 h0).1, (h1 h0).2.1⟩, fun k L P T D hk he wX hX => ?_⟩
  have e0 : ∀ j, eCell eWc xs k j = ((eWc.enc ⟨L, P, T, D⟩)[j]?).getD (.bool false) := fun j => by unfold eCell; rw [he]
  have c : ∀ j, j < 4 → wX.cell? ⟨g, k * 4 + j, none⟩ = some (eCell eWc xs k j) := fun j hj => h2 k hk j hj wX hX
  exact ⟨(c 0 (by omega)).trans (by rw [e0]; rfl), (c 1 (by omega)).trans (by rw [e0]; rfl), (c 2 (by omega)).trans (by rw [e0]; rfl), (c 3 (by omega)).trans (by rw [e0]; rfl)⟩

theorem wrS_cells {w : World} {b c : Nat} {a : Option Addr} {xs : List WriteE} (h : ERow eWrite w b (.slice a xs.length c) xs) :
    ∃ g, (0 < xs.length → a = some ⟨g, 0, none⟩ ∧ g < w.heap.size) ∧ ∀ k Ad Wd, k < xs.length → eAt eWrite xs k = ⟨Ad, Wd⟩ → ∀ wX : World, wX.heap[g]? = w.heap[g]? → wX.cell? ⟨g, k * 2, none⟩ = some (.int .i64 Ad) ∧ wX.cell? ⟨g, k * 2 + 1, none⟩ = some (.int .u64 Wd) := by
  obtain ⟨g, h1, h2⟩ := h.cellsB
  refine ⟨g, fun h0 => ⟨(h1 h0).1, (h1 h0).2.1⟩, fun k Ad Wd hk he wX hX => ?_⟩
  have e0 : ∀ j, eCell eWrite xs k j = ((eWrite.enc ⟨Ad, Wd⟩)[j]?).getD (.bool false) := fun j => by unfold eCell; rw [he]
  have c : ∀ j, j < 2 → wX.cell? ⟨g, k * 2 + j, none⟩ = some (eCell eWrite xs k j) := fun j hj => h2 k hk j hj wX hX
  exact ⟨(c 0 (by omega)).trans (by rw [e0]; rfl), (c 1 (by omega)).trans (by rw [e0]; rfl)⟩

theorem bit0_any (x : Int) (h0 : 0 ≤ x) (h1 : x < 18446744073709551616) (w : World) :
    Calls Tryz.prog 113 #[.int .u64 x, .int .i64 0] w fun e w' => e = .returned (.int .i64 (x % 2)) ∧ w' = w := by
  have hfl : ∀ w : World, Calls Tryz.prog 141 #[.int .u64 x, .int .i64 0, .int .i64 1] w fun e w' => e = .returned (.int .u64 (x % 2)) ∧ w' = w := fun w => by
    go_enter Tryz.func141, Tryz.ntmps141
    go_wp2_with fail
    go_ret
    exact ⟨rfl, rfl⟩
  have hm : 0 ≤ x % 2 ∧ x % 2 < 2 := by omega
  go_enter Tryz.func113, Tryz.ntmps113
  go_wp2_with (go_at_call 141; refine (hfl _).mono ?_; rintro e w1 ⟨rfl, hw1⟩; obtain rfl := hw1.symm)
  go_ret
  exact ⟨rfl, rfl⟩
theorem meetS_any (p a q b : Int) (h0 : 0 ≤ p ∧ p < 100000) (h1 : 0 ≤ a ∧ a < 100000) (h2 : 0 ≤ q ∧ q < 100000) (h3 : 0 ≤ b ∧ b < 100000) (w : World) :
    Calls Tryz.prog 70 #[.int .i64 p, .int .i64 a, .int .i64 q, .int .i64 b] w fun e w' => e = .returned (.bool (meets p a q b)) ∧ w' = w := by
  unfold meets
  by_cases c : p < q + b
  · have c' : decide (p < q + b) = true := decide_eq_true c
    by_cases d : q < p + a
    · have d' : decide (q < p + a) = true := decide_eq_true d
      rw [c', d']
      go_enter Tryz.func70, Tryz.ntmps70
      go_wp2_with fail
      go_ret
      exact ⟨rfl, rfl⟩
    · have d' : decide (q < p + a) = false := decide_eq_false d
      rw [c', d']
      go_enter Tryz.func70, Tryz.ntmps70
      go_wp2_with fail
      go_ret
      exact ⟨rfl, rfl⟩
  · have c' : decide (p < q + b) = false := decide_eq_false c
    rw [c']
    go_enter Tryz.func70, Tryz.ntmps70
    go_wp2_with fail
    go_ret
    exact ⟨by first | rfl | simp, rfl⟩
theorem hasFrS_any (a : Option Addr) (c b : Nat) (ps : List P3) (f : Int) (w : World) (hle : ps.length ≤ 273) (hr : PRow w b (.slice a ps.length c) ps) :
    Calls Tryz.prog 116 #[.slice a ps.length c, .int .i64 f] w fun e w' => e = .returned (.bool (plcHas ps f)) ∧ w' = w := by
  obtain ⟨gp, hp1, hp2⟩ := plc_cells hr
  have HP1 : Hid _ := hp1
  have HP2 : Hid _ := hp2
  clear hr hp1 hp2
  go_enter Tryz.func116, Tryz.ntmps116
  go_wp2_with fail
  go_loopw [5] (fun i wr => ∃ k : Nat, k ≤ ps.length ∧ i = .int .i64 k ∧ Hid (∀ j, j < k → decide ((pAt ps j).fr = f) = false) ∧ wr = w) (fun i _ => ps.length - (intOf i).toNat)
  case atStart => exact ⟨0, Nat.zero_le _, rfl, fun j hj => absurd hj (by omega), rfl⟩
  case round =>
    obtain ⟨k, hk, rfl, hall, rfl⟩ := hrel
    by_cases hlt : k < ps.length
    · obtain ⟨E, hE⟩ : ∃ E, pAt ps k = E := ⟨_, rfl⟩
      obtain ⟨F, L, P⟩ := E
      obtain ⟨rfl, hgl⟩ := HP1.out (by omega)
      obtain ⟨c0, c1, c2⟩ := HP2.out k F L P hlt hE _ (Below.refl _ _)
      have HE : Hid (pAt ps k = _) := hE
      have L1 : (0 : Int) ≤ (k : Int) := by omega
      have L2 : (k : Int) < (ps.length : Int) := by omega
      clear hE
      by_cases hf : F = f
      · have d : (F == f) = true := by simpa using hf
        have HR : Hid (plcHas ps f = true) := anyR_true _ k _ hlt (by rw [HE.out]; exact decide_eq_true hf)
        clear hf
        go_wp2_with fail
        go_ret
        exact ⟨by rw [HR.out]; rfl, rfl⟩
      · have d : (F == f) = false := by simpa using hf
        have HN : Hid (decide ((pAt ps k).fr = f) = false) := by rw [HE.out]; exact decide_eq_false hf
        clear hf
        go_wp2_with fail
        go_roundw
        case rel =>
          refine ⟨k + 1, by omega, by go_num, fun j hj => ?_, by first | rfl | trivial⟩
          by_cases e : j = k
          · rw [e]; exact HN.out
          · exact hall.out j (by omega)
        case measure => simp [intOf]; omega
    · have HR : Hid (plcHas ps f = false) := anyR_false _ _ (fun j hj => hall.out j (by omega))
      go_wp2_with fail
      go_ret
      exact ⟨by rw [HR.out]; rfl, rfl⟩

set_option maxRecDepth 100000 in
set_option maxHeartbeats 4000000 in
theorem latest_any (s : SV) (M : Mach) (b : Nat) (w : World) (hs : M.Small) (hm0 : 0 < M.mem.length) (hpa : ∀ i, i < M.pend.length → 0 ≤ (eAt eWrite M.pend i).addr ∧ (eAt eWrite M.pend i).addr < M.mem.length) (h : MRow w b (s.mv M) M) :
    Calls Tryz.prog 69 #[.agg #[.slice s.a1 M.mem.length s.c1, .slice s.a2 M.pend.length s.c2, .slice s.a3 M.tlb.length s.c3, .slice s.a4 M.wc.length s.c4]] w fun e w' => ∃ g c, e = .returned (.agg #[.slice (some ⟨g, 0, none⟩) M.mem.length c]) ∧ ERow eWord w' w.heap.size (.slice (some ⟨g, 0, none⟩) M.mem.length c) (lateL M) ∧ Below w.heap.size w w' := by
  have y1 := hs.w
  have y2 := hs.p
  obtain ⟨wb, hwb⟩ : ∃ wb, wb = (w.alloc (.cells #[.slice s.a1 M.mem.length s.c1, .slice s.a2 M.pend.length s.c2, .slice s.a3 M.tlb.length s.c3, .slice s.a4 M.wc.length s.c4] 36)).alloc (.cells #[.slice none 0 0] 31) := ⟨_, rfl⟩
  have hbb : Below w.heap.size w wb := by rw [hwb]; exact ((Below.refl _ _).alloc (Nat.le_refl _) _).alloc (by simp) _
  have hzb : wb.heap.size = w.heap.size + 2 := by rw [hwb]; simp
  have HBOX : Hid (∀ wX, Below wb.heap.size wb wX → (wX.cell? ⟨w.heap.size, 0, none⟩ = some (.slice s.a1 M.mem.length s.c1) ∧ wX.cell? ⟨w.heap.size, 1, none⟩ = some (.slice s.a2 M.pend.length s.c2) ∧ wX.cell? ⟨w.heap.size, 2, none⟩ = some (.slice s.a3 M.tlb.length s.c3) ∧ wX.cell? ⟨w.heap.size, 3, none⟩ = some (.slice s.a4 M.wc.length s.c4)) ∧ wX.cell? ⟨w.heap.size + 1, 0, none⟩ = some (.slice none 0 0) ∧ wX.frozen? ⟨w.heap.size + 1, 0, none⟩ = false) := fun wX hX => by
    refine ⟨⟨?_, ?_, ?_, ?_⟩, ?_, ?_⟩
    iterate 5 (exact (hX.cell (by simp; omega)).trans (by rw [hwb]; simp [go_sem]))
    exact (hX.frozen (by simp; omega)).trans (by rw [hwb]; simp [go_sem])
  have hrp : ERow eWrite w b (.slice s.a2 M.pend.length s.c2) M.pend := h.p
  obtain ⟨gq, hq1, hq2⟩ := wrS_cells hrp
  have hcp := copyMem_any (.slice s.a1 M.mem.length s.c1) M.mem b wb hs.w (h.below hbb).w
  rw [hwb] at hcp
  have HQ1 : Hid _ := hq1
  have HQ2 : Hid (∀ k Ad Wd, k < M.pend.length → eAt eWrite M.pend k = ⟨Ad, Wd⟩ → gq < w.heap.size → ∀ wX, Below w.heap.size w wX → wX.cell? ⟨gq, k * 2, none⟩ = some (.int .i64 Ad) ∧ wX.cell? ⟨gq, k * 2 + 1, none⟩ = some (.int .u64 Wd)) := fun k Ad Wd hk he hl wX hX => hq2 k Ad Wd hk he wX (hX.block gq hl)
  have HPA : Hid _ := hpa
  have HWB : Hid (wb = _) := hwb
  have HBB : Hid (Below w.heap.size w wb) := hbb
  have HZ : Hid (wb.heap.size = _) := hzb
  clear hwb hbb hzb h hrp hq1 hq2 hpa
  go_enter Tryz.func69, Tryz.ntmps69
  go_wp2_with fail
  refine hcp.mono ?_
  rintro e w1 ⟨g0, c0, rfl, hr1, hb1'⟩
  rw [← HWB.out] at hr1
  have hb1 : Below wb.heap.size wb w1 := by rw [HWB.out]; exact hb1'
  obtain ⟨X, hX⟩ : ∃ X, X = w1.heap.size := ⟨_, rfl⟩
  obtain ⟨wx, hwx⟩ : ∃ wx, wx = w1.alloc (.cells #[.slice (some ⟨g0, 0, none⟩) M.mem.length c0] 31) := ⟨_, rfl⟩
  have hg0 := hr1.own g0 rfl
  have bx : Below wb.heap.size wb wx := by rw [hwx]; exact hb1.alloc hb1.size _
  have hrx : ERow eWord wx wb.heap.size (.slice (some ⟨g0, 0, none⟩) M.mem.length c0) M.mem := by rw [hwx]; exact hr1.below ((Below.refl _ _).alloc (Nat.le_refl _) _)
  have cx : wx.cell? ⟨X, 0, none⟩ = some (.slice (some ⟨g0, 0, none⟩) M.mem.length c0) := by rw [hwx, hX]; simp [go_sem]
  have hzx : wx.heap.size = X + 1 := by rw [hwx, hX]; simp
  have HWX : Hid (wx = _) := hwx
  have HRX : Hid _ := hrx
  have HBX : Hid (Below wb.heap.size wb wx) := bx
  have HCX : Hid _ := cx
  have HXX : Hid (X = w1.heap.size) := hX
  have HZX : Hid (wx.heap.size = _) := hzx
  have x01 : g0 < X := by omega
  have x02 : wb.heap.size ≤ g0 := hg0.1
  clear hcp hb1' hr1 hwx bx hrx cx hzx hg0 hb1
  go_wp2_with fail
  rw [← HWX.out, ← HXX.out]
  clear hX
  go_loopw [4] (fun i wr => ∃ k : Nat, k ≤ M.pend.length ∧ i = .int .i64 k ∧ ERow eWord wr wb.heap.size (.slice (some ⟨g0, 0, none⟩) M.mem.length c0) (lateTo M k) ∧ Touch (fun q => q = g0) wx wr) (fun i _ => M.pend.length - (intOf i).toNat)
  case atStart => exact ⟨0, Nat.zero_le _, rfl, HRX.out, Touch.of_below (Below.refl _ _)⟩
  case round =>
    obtain ⟨k, hk, rfl, hrow, ht⟩ := hrel
    have hzx := HZX.out
    have hsz := ht.size
    have bW : Below wb.heap.size wb wr := Touch.below HBX.out ht (by omega) (fun q hq => by omega)
    have bW0 : Below w.heap.size w wr := HBB.out.trans (bW.mono (by have := HZ.out; omega))
    obtain ⟨⟨m0, m1, m2, m3⟩, z0, z1⟩ := HBOX.out wr bW
    have cX := (World.cell?_of_block (a := ⟨X, 0, none⟩) (ht.block X (by omega) (by show ¬ X = g0; omega))).trans HCX.out
    have N0 : w.heap.size < wr.heap.size := by have := HZ.out; have := bW.size; omega
    have N1 : w.heap.size + 1 < wr.heap.size := by have := HZ.out; have := bW.size; omega
    have N2 : ¬ w.heap.size = g0 := by have := HZ.out; omega
    have N3 : ¬ w.heap.size + 1 = g0 := by have := HZ.out; omega
    by_cases hlt : k < M.pend.length
    · obtain ⟨hae, hgl⟩ := HQ1.out (by omega)
      obtain ⟨E, hE⟩ : ∃ E, eAt eWrite M.pend k = E := ⟨_, rfl⟩
      obtain ⟨Ad0, Wd⟩ := E
      have hpa := HPA.out k hlt
      rw [hE] at hpa
      obtain ⟨Ad, hAd⟩ : ∃ Ad : Nat, Ad0 = Ad := ⟨Ad0.toNat, by have := hpa.1; dsimp only at this; omega⟩
      subst hAd
      have hpa2 : Ad < M.mem.length := by have := hpa.2; dsimp only at this; omega
      have hls := lateTo_succ M k hlt
      rw [hE] at hls
      have hls2 : lateTo M (k + 1) = (lateTo M k).set Ad Wd := by rw [hls]; rfl
      have hll := lateTo_length M k (by omega)
      obtain ⟨pc0, pc1⟩ := HQ2.out k Ad Wd hlt hE hgl wr bW0
      have hrow2 : ERow eWord wr wb.heap.size (.slice (some ⟨g0, 0, none⟩) (lateTo M k).length c0) (lateTo M k) := by rw [hll]; exact hrow
      obtain ⟨_, hlc, _, f, hr, hf⟩ := hrow2.full
      have hr' : wr.rowIs g0 eWord.T (c0 * 1) f := hr
      have oA := hr'.cell (i := Ad) (by omega)
      have zA := hr'.frozen Ad
      generalize f Ad = vA at oA
      have HKK : Hid (∀ wX : World, (∀ q, q ≠ g0 → wX.heap[q]? = wr.heap[q]?) → wX.cell? ⟨X, 0, none⟩ = some (.slice (some ⟨g0, 0, none⟩) M.mem.length c0) ∧ wX.cell? ⟨w.heap.size, 1, none⟩ = some (.slice (some ⟨gq, 0, none⟩) M.pend.length s.c2) ∧ (wX.cell? ⟨gq, k * 2, none⟩ = some (.int .i64 Ad) ∧ wX.cell? ⟨gq, k * 2 + 1, none⟩ = some (.int .u64 Wd))) := fun wX hX =>
        ⟨(World.cell?_of_block (hX X (by omega))).trans cX, (World.cell?_of_block (hX w.heap.size N2)).trans (by rw [← hae]; exact m1), (World.cell?_of_block (hX gq (by have := HZ.out; omega))).trans pc0, (World.cell?_of_block (hX gq (by have := HZ.out; omega))).trans pc1⟩
      have HROW : Hid (ERow eWord wr wb.heap.size (.slice (some ⟨g0, 0, none⟩) M.mem.length c0) (lateTo M k)) := hrow
      have HT : Hid (Touch (fun q => q = g0) wx wr) := ht
      have HLS : Hid (lateTo M (k + 1) = _) := hls2
      have HLL : Hid ((lateTo M k).length = _) := hll
      have L1 : (0 : Int) ≤ (k : Int) := by omega
      have L2 : (k : Int) < (M.pend.length : Int) := by omega
      have L3 : (0 : Int) ≤ (Ad : Int) := by omega
      have L4 : (Ad : Int) < (M.mem.length : Int) := by omega
      clear hrow ht hE hpa hls hls2 hll hr hr' hf hrow2 hae bW bW0
      go_wp2_with fail
      refine wp_region_held_drew (S := (fun wX => wX.cell? ⟨X, 0, none⟩ = some (.slice (some ⟨g0, 0, none⟩) M.mem.length c0) ∧ wX.cell? ⟨w.heap.size, 1, none⟩ = some (.slice (some ⟨gq, 0, none⟩) M.pend.length s.c2) ∧ (wX.cell? ⟨gq, k * 2, none⟩ = some (.int .i64 Ad) ∧ wX.cell? ⟨gq, k * 2 + 1, none⟩ = some (.int .u64 Wd)))) (by kernel_rfl) (HKK.out wr.drew (fun q hq => rfl)) (fun hHeld => ?_)
      refine wpAnyH_take (i := 0) (v := ?_) rfl (by kernel_rfl) (by kernel_rfl) (by kernel_rfl) (fun _ _ _ h => h) (Or.inl ⟨by rfl, ?_⟩) (by assumption) ?_
      rotate_left
      · (intro w hSw; (try dsimp only at hSw); go_simp; try with_reducible rfl)
      simp only [Act.put, List.setIfInBounds_toArray, List.set_cons_zero, List.set_cons_succ, List.getElem_toArray, List.getElem_cons_zero]
      refine wpAnyH_take (i := 1) (v := ?_) rfl (by kernel_rfl) (by kernel_rfl) (by kernel_rfl) (fun _ _ _ h => h) (Or.inl ⟨by rfl, ?_⟩) (by assumption) ?_
      rotate_left
      · (intro w hSw; (try dsimp only at hSw); go_simp; try with_reducible rfl)
      simp only [Act.put, List.setIfInBounds_toArray, List.set_cons_zero, List.set_cons_succ, List.getElem_toArray, List.getElem_cons_zero, List.getElem_cons_succ]
      refine wpAnyH_take (i := 2) (v := ?_) rfl (by kernel_rfl) (by kernel_rfl) (by kernel_rfl) (fun _ _ _ h => h) (Or.inl ⟨by rfl, ?_⟩) (by assumption) ?_
      rotate_left
      · (intro w hSw; (try dsimp only at hSw); go_simp; try with_reducible rfl)
      simp only [Act.put, List.setIfInBounds_toArray, List.set_cons_zero, List.set_cons_succ, List.getElem_toArray, List.getElem_cons_zero, List.getElem_cons_succ]
      refine wpAnyH_take (i := 3) (v := ?_) rfl (by kernel_rfl) (by kernel_rfl) (by kernel_rfl) (fun _ _ _ h => h) (Or.inl ⟨by rfl, ?_⟩) (by assumption) ?_
      rotate_left
      · (intro w hSw; (try dsimp only at hSw); go_simp; try with_reducible rfl)
      simp only [Act.put, List.setIfInBounds_toArray, List.set_cons_zero, List.set_cons_succ, List.getElem_toArray, List.getElem_cons_zero, List.getElem_cons_succ]
      refine wpAnyH_take (i := 4) (v := ?_) rfl (by kernel_rfl) (by kernel_rfl) (by kernel_rfl) (fun _ _ _ h => h) (Or.inl ⟨by rfl, ?_⟩) (by assumption) ?_
      rotate_left
      · (intro w hSw; (try dsimp only at hSw); go_simp; try with_reducible rfl)
      simp only [Act.put, List.setIfInBounds_toArray, List.set_cons_zero, List.set_cons_succ, List.getElem_toArray, List.getElem_cons_zero, List.getElem_cons_succ]
      refine wpAnyH_take (i := 5) (v := ?_) rfl (by kernel_rfl) (by kernel_rfl) (by kernel_rfl) (fun _ _ _ h => h) (Or.inl ⟨by rfl, ?_⟩) (by assumption) ?_
      rotate_left
      · (intro w hSw; (try dsimp only at hSw); go_simp; try with_reducible rfl)
      simp only [Act.put, List.setIfInBounds_toArray, List.set_cons_zero, List.set_cons_succ, List.getElem_toArray, List.getElem_cons_zero, List.getElem_cons_succ]
      refine wpAnyH_take (i := 6) (v := ?_) rfl (by kernel_rfl) (by kernel_rfl) (by kernel_rfl) (fun _ _ _ h => h) (Or.inl ⟨by rfl, ?_⟩) (by assumption) ?_
      rotate_left
      · (intro w hSw; (try dsimp only at hSw); go_simp; try with_reducible rfl)
      simp only [Act.put, List.setIfInBounds_toArray, List.set_cons_zero, List.set_cons_succ, List.getElem_toArray, List.getElem_cons_zero, List.getElem_cons_succ]
      refine wpAnyH_take (i := 7) (v := ?_) rfl (by kernel_rfl) (by kernel_rfl) (by kernel_rfl) (fun _ _ _ h => h) (Or.inl ⟨by rfl, ?_⟩) (by assumption) ?_
      rotate_left
      · (intro w hSw; (try dsimp only at hSw); go_simp; try with_reducible rfl)
      simp only [Act.put, List.setIfInBounds_toArray, List.set_cons_zero, List.set_cons_succ, List.getElem_toArray, List.getElem_cons_zero, List.getElem_cons_succ]
      refine wpAnyH_take (i := 8) (v := ?_) rfl (by kernel_rfl) (by kernel_rfl) (by kernel_rfl) (fun _ _ _ h => h) (Or.inl ⟨by rfl, ?_⟩) (by assumption) ?_
      rotate_left
      · (intro w hSw; (try dsimp only at hSw); go_simp; try with_reducible rfl)
      simp only [Act.put, List.setIfInBounds_toArray, List.set_cons_zero, List.set_cons_succ, List.getElem_toArray, List.getElem_cons_zero, List.getElem_cons_succ]
      refine wpAnyH_take (i := 9) (v := ?_) rfl (by kernel_rfl) (by kernel_rfl) (by kernel_rfl) (fun _ _ _ h => h) (Or.inl ⟨by rfl, ?_⟩) (by assumption) ?_
      rotate_left
      · (intro w hSw; (try dsimp only at hSw); go_simp; try with_reducible rfl)
      simp only [Act.put, List.setIfInBounds_toArray, List.set_cons_zero, List.set_cons_succ, List.getElem_toArray, List.getElem_cons_zero, List.getElem_cons_succ]
      refine wpAnyH_take (i := 10) (v := ?_) rfl (by kernel_rfl) (by kernel_rfl) (by kernel_rfl) (fun _ _ _ h => h) (Or.inl ⟨by rfl, ?_⟩) (by assumption) ?_
      rotate_left
      · (intro w hSw; (try dsimp only at hSw); go_simp; try with_reducible rfl)
      simp only [Act.put, List.setIfInBounds_toArray, List.set_cons_zero, List.set_cons_succ, List.getElem_toArray, List.getElem_cons_zero, List.getElem_cons_succ]
      refine wpAnyH_take (i := 11) (v := ?_) rfl (by kernel_rfl) (by kernel_rfl) (by kernel_rfl) (fun _ _ _ h => h) (Or.inl ⟨by rfl, ?_⟩) (by assumption) ?_
      rotate_left
      · (intro w hSw; (try dsimp only at hSw); go_simp; try with_reducible rfl)
      simp only [Act.put, List.setIfInBounds_toArray, List.set_cons_zero, List.set_cons_succ, List.getElem_toArray, List.getElem_cons_zero, List.getElem_cons_succ]
      refine wpAnyH_take (i := 12) (v := ?_) rfl (by kernel_rfl) (by kernel_rfl) (by kernel_rfl) (fun _ _ _ h => h) (Or.inl ⟨by rfl, ?_⟩) (by assumption) ?_
      rotate_left
      · (intro w hSw; (try dsimp only at hSw); go_simp; try with_reducible rfl)
      simp only [Act.put, List.setIfInBounds_toArray, List.set_cons_zero, List.set_cons_succ, List.getElem_toArray, List.getElem_cons_zero, List.getElem_cons_succ]
      refine wpAnyH_take (i := 13) (v := ?_) rfl (by kernel_rfl) (by kernel_rfl) (by kernel_rfl) (fun _ _ _ h => h) (Or.inl ⟨by rfl, ?_⟩) (by assumption) ?_
      rotate_left
      · (intro w hSw; (try dsimp only at hSw); go_simp; try with_reducible rfl)
      simp only [Act.put, List.setIfInBounds_toArray, List.set_cons_zero, List.set_cons_succ, List.getElem_toArray, List.getElem_cons_zero, List.getElem_cons_succ]
      refine wpAnyH_take (i := 14) (v := ?_) rfl (by kernel_rfl) (by kernel_rfl) (by kernel_rfl) (fun _ _ _ h => h) (Or.inl ⟨by rfl, ?_⟩) (by assumption) ?_
      rotate_left
      · (intro w hSw; (try dsimp only at hSw); go_simp; try with_reducible rfl)
      simp only [Act.put, List.setIfInBounds_toArray, List.set_cons_zero, List.set_cons_succ, List.getElem_toArray, List.getElem_cons_zero, List.getElem_cons_succ]
      refine wpAnyH_ready (rs := [15]) (by kernel_rfl) (by simp) ?_
      refine AllReadyH.cons rfl (fun K hK => ?_) AllReadyH.nil
      go_simp
      refine hK.out _ _ (HKK.out _ (fun q hq => Below.heap_setCell _ _ _ _ hq)) (fun hHeld5 => ?_)
      clear hK K
      refine wpAnyH_done (by kernel_rfl) ?_ _
      go_wp2_with fail
      go_roundw
      case rel =>
        refine ⟨k + 1, by omega, by go_num, ?_, ?_⟩
        · rw [HLS.out]
          exact ERow.setWord (HROW.out.below ((Below.refl _ _).drew)) Ad (by rw [HLL.out]; exact hpa2) Wd
        · exact HT.out.then (S' := fun q => q = g0) ⟨rfl, rfl, rfl, by simp, fun q hq hn => Below.heap_setCell _ _ _ _ hn⟩ (fun q _ e => e)
      case measure => simp [intOf]; omega
    · obtain rfl : k = M.pend.length := by omega
      rw [lateTo_all] at hrow
      have HROW : Hid (ERow eWord wr wb.heap.size (.slice (some ⟨g0, 0, none⟩) M.mem.length c0) (lateL M)) := hrow
      have HBW : Hid (Below w.heap.size w wr) := bW0
      have HX2 : Hid (wb.heap.size ≤ g0) := x02
      clear hrow ht bW bW0
      go_wp2_with fail
      refine bodyPost_ret (v := .agg #[.slice (some ⟨g0, 0, none⟩) M.mem.length c0]) (by simp [results, Tryz.results69, go_sem, z0]) rfl ⟨g0, c0, rfl, ?_, HBW.out.setCell (by dsimp only; omega) _⟩
      refine ERow.rebase (base := wb.heap.size) (HROW.out.touch (S := fun q => q = w.heap.size + 1) ⟨rfl, rfl, rfl, by simp, fun q hq hn => Below.heap_setCell _ _ _ _ hn⟩ (fun q hq e => ?_)) (by have := HZ.out; omega)
      have h1 : g0 = q := by simpa [Value.ownBlock] using hq
      have h2 := HX2.out
      have h3 := HZ.out
      omega

set_option maxRecDepth 100000 in
set_option maxHeartbeats 4000000 in
theorem cachS_any (s : SV) (M : Mach) (b : Nat) (lv fs cL : Int) (w : World) (hs : M.Small) (hv : validB M = true) (hf0 : 0 ≤ fs ∧ fs < 100000) (hc0 : 0 ≤ cL ∧ cL < 100000) (h : MRow w b (s.mv M) M) :
    Calls Tryz.prog 115 #[.agg #[.slice s.a1 M.mem.length s.c1, .slice s.a2 M.pend.length s.c2, .slice s.a3 M.tlb.length s.c3, .slice s.a4 M.wc.length s.c4], .int .i64 lv, .int .i64 fs, .int .i64 cL] w fun e w' => e = .returned (.bool (cachedB M lv fs cL)) ∧ Below w.heap.size w w' := by
  have y3 := hs.t
  have y4 := hs.c
  obtain ⟨wb, hwb⟩ : ∃ wb, wb = w.alloc (.cells #[.slice s.a1 M.mem.length s.c1, .slice s.a2 M.pend.length s.c2, .slice s.a3 M.tlb.length s.c3, .slice s.a4 M.wc.length s.c4] 36) := ⟨_, rfl⟩
  have hbb : Below w.heap.size w wb := by rw [hwb]; exact (Below.refl _ _).alloc (Nat.le_refl _) _
  have hzb : wb.heap.size = w.heap.size + 1 := by rw [hwb]; simp
  have HBOX : Hid (∀ wX, Below wb.heap.size wb wX → wX.cell? ⟨w.heap.size, 0, none⟩ = some (.slice s.a1 M.mem.length s.c1) ∧ wX.cell? ⟨w.heap.size, 1, none⟩ = some (.slice s.a2 M.pend.length s.c2) ∧ wX.cell? ⟨w.heap.size, 2, none⟩ = some (.slice s.a3 M.tlb.length s.c3) ∧ wX.cell? ⟨w.heap.size, 3, none⟩ = some (.slice s.a4 M.wc.length s.c4)) := fun wX hX => by
    refine ⟨?_, ?_, ?_, ?_⟩
    iterate 4 (exact (hX.cell (by simp; omega)).trans (by rw [hwb]; simp [go_sem]))
  have hrt : ERow eTlb w b (.slice s.a3 M.tlb.length s.c3) M.tlb := h.t
  have hrc : ERow eWc w b (.slice s.a4 M.wc.length s.c4) M.wc := h.c
  obtain ⟨gt, ht1, ht2⟩ := tlbS_cells hrt
  obtain ⟨gw, hw1, hw2⟩ := wcS_cells hrc
  have HT : Hid (∀ k P S O R D, k < M.tlb.length → eAt eTlb M.tlb k = ⟨P, S, O, R, D⟩ → s.a3 = some ⟨gt, 0, none⟩ ∧ gt < w.heap.size ∧ ∀ wX, Below wb.heap.size wb wX → wX.cell? ⟨gt, k * 5, none⟩ = some (.int .i64 P) ∧ wX.cell? ⟨gt, k * 5 + 1, none⟩ = some (.int .i64 S) ∧ wX.cell? ⟨gt, k * 5 + 2, none⟩ = some (.int .i64 O) ∧ wX.cell? ⟨gt, k * 5 + 3, none⟩ = some (.int .i64 R) ∧ wX.cell? ⟨gt, k * 5 + 4, none⟩ = some (.bool D)) := fun k P S O R D hk he => by
    obtain ⟨e1, e2⟩ := ht1 (by omega)
    exact ⟨e1, e2, fun wX hX => ht2 k P S O R D hk he wX ((hbb.trans (hX.mono (by omega))).block gt e2)⟩
  have HW : Hid (∀ k L P T D, k < M.wc.length → eAt eWc M.wc k = ⟨L, P, T, D⟩ → s.a4 = some ⟨gw, 0, none⟩ ∧ gw < w.heap.size ∧ ∀ wX, Below wb.heap.size wb wX → wX.cell? ⟨gw, k * 4, none⟩ = some (.int .i64 L) ∧ wX.cell? ⟨gw, k * 4 + 1, none⟩ = some (.int .i64 P) ∧ wX.cell? ⟨gw, k * 4 + 2, none⟩ = some (.int .i64 T) ∧ wX.cell? ⟨gw, k * 4 + 3, none⟩ = some (.bool D)) := fun k L P T D hk he => by
    obtain ⟨e1, e2⟩ := hw1 (by omega)
    exact ⟨e1, e2, fun wX hX => hw2 k L P T D hk he wX ((hbb.trans (hX.mono (by omega))).block gw e2)⟩
  have HV : Hid (validB M = true) := hv
  have HWB : Hid (wb = _) := hwb
  have HBB : Hid (Below w.heap.size w wb) := hbb
  have HZ : Hid (wb.heap.size = _) := hzb
  clear hwb hbb hzb h hrt hrc ht1 ht2 hw1 hw2 hv
  go_enter Tryz.func115, Tryz.ntmps115
  go_wp2_with fail
  rw [← HWB.out]
  go_loopw [9] (fun i wr => ∃ k : Nat, k ≤ M.tlb.length ∧ i = .int .i64 k ∧ Hid (∀ j, j < k → cachT M fs cL j = false) ∧ Below wb.heap.size wb wr) (fun i _ => M.tlb.length - (intOf i).toNat)
  case atStart => exact ⟨0, Nat.zero_le _, rfl, fun j hj => absurd hj (by omega), Below.refl _ _⟩
  case round =>
    obtain ⟨k, hk, rfl, hall, hb⟩ := hrel
    obtain ⟨m0, m1, m2, m3⟩ := HBOX.out wr hb
    by_cases hlt : k < M.tlb.length
    · obtain ⟨E, hE⟩ : ∃ E, eAt eTlb M.tlb k = E := ⟨_, rfl⟩
      obtain ⟨P, S, O, R, D⟩ := E
      obtain ⟨hae, hgl, hcs⟩ := HT.out k P S O R D hlt hE
      have htv := valid_tlb HV.out k hlt
      rw [hE] at htv
      have hts : (0 ≤ P ∧ P < 100000) ∧ (0 ≤ S ∧ S < 100000) := by
        simp only [tlbOkB, pageOk, Bool.and_eq_true, Bool.or_eq_true, decide_eq_true_eq] at htv
        omega
      have hmt := meetS_any fs cL P S hf0 hc0 hts.1 hts.2
      rw [meets_comm] at hmt
      have HCT : Hid (cachT M fs cL k = meets P S fs cL) := by unfold cachT; rw [hE]; rfl
      have HKK : Hid (∀ wX, Below wr.heap.size wr wX → wX.cell? ⟨w.heap.size, 2, none⟩ = some (.slice (some ⟨gt, 0, none⟩) M.tlb.length s.c3) ∧ (wX.cell? ⟨gt, k * 5, none⟩ = some (.int .i64 P) ∧ wX.cell? ⟨gt, k * 5 + 1, none⟩ = some (.int .i64 S) ∧ wX.cell? ⟨gt, k * 5 + 2, none⟩ = some (.int .i64 O) ∧ wX.cell? ⟨gt, k * 5 + 3, none⟩ = some (.int .i64 R) ∧ wX.cell? ⟨gt, k * 5 + 4, none⟩ = some (.bool D))) := fun wX hX => ⟨by rw [← hae]; exact (HBOX.out wX (hb.trans (hX.mono hb.size))).2.2.1, hcs wX (hb.trans (hX.mono hb.size))⟩
      have m2' : wr.cell? ⟨w.heap.size, 2, none⟩ = some (.slice (some ⟨gt, 0, none⟩) M.tlb.length s.c3) := by rw [← hae]; exact m2
      have L1 : (0 : Int) ≤ (k : Int) := by omega
      have L2 : (k : Int) < (M.tlb.length : Int) := by omega
      have HB : Hid (Below wb.heap.size wb wr) := hb
      clear hae hcs htv hts hE hb m2
      cases hm : meets P S fs cL <;> rw [hm] at hmt
      · have HF : Hid (cachT M fs cL k = false) := by rw [HCT.out]; exact hm
        clear hm
        go_wp2_with fail
        refine wp_region_held_drew (S := (fun wX => wX.cell? ⟨w.heap.size, 2, none⟩ = some (.slice (some ⟨gt, 0, none⟩) M.tlb.length s.c3) ∧ (wX.cell? ⟨gt, k * 5, none⟩ = some (.int .i64 P) ∧ wX.cell? ⟨gt, k * 5 + 1, none⟩ = some (.int .i64 S) ∧ wX.cell? ⟨gt, k * 5 + 2, none⟩ = some (.int .i64 O) ∧ wX.cell? ⟨gt, k * 5 + 3, none⟩ = some (.int .i64 R) ∧ wX.cell? ⟨gt, k * 5 + 4, none⟩ = some (.bool D)))) (by kernel_rfl) (HKK.out _ ((Below.refl _ _).drew)) (fun hHeld => ?_)
        refine wpAnyH_take (i := 0) (v := ?_) rfl (by kernel_rfl) (by kernel_rfl) (by kernel_rfl) (fun _ _ _ h => h) (Or.inl ⟨by rfl, ?_⟩) (by assumption) ?_
        rotate_left
        · (intro w hSw; (try dsimp only at hSw); go_simp; try with_reducible rfl)
        simp only [Act.put, List.setIfInBounds_toArray, List.set_cons_zero, List.set_cons_succ, List.getElem_toArray, List.getElem_cons_zero]
        refine wpAnyH_take (i := 1) (v := ?_) rfl (by kernel_rfl) (by kernel_rfl) (by kernel_rfl) (fun _ _ _ h => h) (Or.inl ⟨by rfl, ?_⟩) (by assumption) ?_
        rotate_left
        · (intro w hSw; (try dsimp only at hSw); go_simp; try with_reducible rfl)
        simp only [Act.put, List.setIfInBounds_toArray, List.set_cons_zero, List.set_cons_succ, List.getElem_toArray, List.getElem_cons_zero, List.getElem_cons_succ]
        refine wpAnyH_take (i := 2) (v := ?_) rfl (by kernel_rfl) (by kernel_rfl) (by kernel_rfl) (fun _ _ _ h => h) (Or.inl ⟨by rfl, ?_⟩) (by assumption) ?_
        rotate_left
        · (intro w hSw; (try dsimp only at hSw); go_simp; try with_reducible rfl)
        simp only [Act.put, List.setIfInBounds_toArray, List.set_cons_zero, List.set_cons_succ, List.getElem_toArray, List.getElem_cons_zero, List.getElem_cons_succ]
        refine wpAnyH_take (i := 3) (v := ?_) rfl (by kernel_rfl) (by kernel_rfl) (by kernel_rfl) (fun _ _ _ h => h) (Or.inl ⟨by rfl, ?_⟩) (by assumption) ?_
        rotate_left
        · (intro w hSw; (try dsimp only at hSw); go_simp; try with_reducible rfl)
        simp only [Act.put, List.setIfInBounds_toArray, List.set_cons_zero, List.set_cons_succ, List.getElem_toArray, List.getElem_cons_zero, List.getElem_cons_succ]
        refine wpAnyH_take (i := 4) (v := ?_) rfl (by kernel_rfl) (by kernel_rfl) (by kernel_rfl) (fun _ _ _ h => h) (Or.inl ⟨by rfl, ?_⟩) (by assumption) ?_
        rotate_left
        · (intro w hSw; (try dsimp only at hSw); go_simp; try with_reducible rfl)
        simp only [Act.put, List.setIfInBounds_toArray, List.set_cons_zero, List.set_cons_succ, List.getElem_toArray, List.getElem_cons_zero, List.getElem_cons_succ]
        refine wpAnyH_take (i := 5) (v := ?_) rfl (by kernel_rfl) (by kernel_rfl) (by kernel_rfl) (fun _ _ _ h => h) (Or.inl ⟨by rfl, ?_⟩) (by assumption) ?_
        rotate_left
        · (intro w hSw; (try dsimp only at hSw); go_simp; try with_reducible rfl)
        simp only [Act.put, List.setIfInBounds_toArray, List.set_cons_zero, List.set_cons_succ, List.getElem_toArray, List.getElem_cons_zero, List.getElem_cons_succ]
        refine wpAnyH_take (i := 6) (v := ?_) rfl (by kernel_rfl) (by kernel_rfl) (by kernel_rfl) (fun _ _ _ h => h) (Or.inl ⟨by rfl, ?_⟩) (by assumption) ?_
        rotate_left
        · (intro w hSw; (try dsimp only at hSw); go_simp; try with_reducible rfl)
        simp only [Act.put, List.setIfInBounds_toArray, List.set_cons_zero, List.set_cons_succ, List.getElem_toArray, List.getElem_cons_zero, List.getElem_cons_succ]
        refine wpAnyH_take (i := 7) (v := ?_) rfl (by kernel_rfl) (by kernel_rfl) (by kernel_rfl) (fun _ _ _ h => h) (Or.inl ⟨by rfl, ?_⟩) (by assumption) ?_
        rotate_left
        · (intro w hSw; (try dsimp only at hSw); go_simp; try with_reducible rfl)
        simp only [Act.put, List.setIfInBounds_toArray, List.set_cons_zero, List.set_cons_succ, List.getElem_toArray, List.getElem_cons_zero, List.getElem_cons_succ]
        refine wpAnyH_take (i := 8) (v := ?_) rfl (by kernel_rfl) (by kernel_rfl) (by kernel_rfl) (fun _ _ _ h => h) (Or.inl ⟨by rfl, ?_⟩) (by assumption) ?_
        rotate_left
        · (intro w hSw; (try dsimp only at hSw); go_simp; try with_reducible rfl)
        simp only [Act.put, List.setIfInBounds_toArray, List.set_cons_zero, List.set_cons_succ, List.getElem_toArray, List.getElem_cons_zero, List.getElem_cons_succ]
        refine wpAnyH_take (i := 9) (v := ?_) rfl (by kernel_rfl) (by kernel_rfl) (by kernel_rfl) (fun _ _ _ h => h) (Or.inl ⟨by rfl, ?_⟩) (by assumption) ?_
        rotate_left
        · (intro w hSw; (try dsimp only at hSw); go_simp; try with_reducible rfl)
        simp only [Act.put, List.setIfInBounds_toArray, List.set_cons_zero, List.set_cons_succ, List.getElem_toArray, List.getElem_cons_zero, List.getElem_cons_succ]
        refine wpAnyH_take (i := 10) (v := ?_) rfl (by kernel_rfl) (by kernel_rfl) (by kernel_rfl) (fun _ _ _ h => h) (Or.inl ⟨by rfl, ?_⟩) (by assumption) ?_
        rotate_left
        · (intro w hSw; (try dsimp only at hSw); go_simp; try with_reducible rfl)
        simp only [Act.put, List.setIfInBounds_toArray, List.set_cons_zero, List.set_cons_succ, List.getElem_toArray, List.getElem_cons_zero, List.getElem_cons_succ]
        refine wpAnyH_take (i := 11) (v := ?_) rfl (by kernel_rfl) (by kernel_rfl) (by kernel_rfl) (fun _ _ _ h => h) (Or.inl ⟨by rfl, ?_⟩) (by assumption) ?_
        rotate_left
        · (intro w hSw; (try dsimp only at hSw); go_simp; try with_reducible rfl)
        simp only [Act.put, List.setIfInBounds_toArray, List.set_cons_zero, List.set_cons_succ, List.getElem_toArray, List.getElem_cons_zero, List.getElem_cons_succ]
        refine wpAnyH_take (i := 12) (v := ?_) rfl (by kernel_rfl) (by kernel_rfl) (by kernel_rfl) (fun _ _ _ h => h) (Or.inl ⟨by rfl, ?_⟩) (by assumption) ?_
        rotate_left
        · (intro w hSw; (try dsimp only at hSw); go_simp; try with_reducible rfl)
        simp only [Act.put, List.setIfInBounds_toArray, List.set_cons_zero, List.set_cons_succ, List.getElem_toArray, List.getElem_cons_zero, List.getElem_cons_succ]
        refine wpAnyH_take (i := 13) (v := ?_) rfl (by kernel_rfl) (by kernel_rfl) (by kernel_rfl) (fun _ _ _ h => h) (Or.inl ⟨by rfl, ?_⟩) (by assumption) ?_
        rotate_left
        · (intro w hSw; (try dsimp only at hSw); go_simp; try with_reducible rfl)
        simp only [Act.put, List.setIfInBounds_toArray, List.set_cons_zero, List.set_cons_succ, List.getElem_toArray, List.getElem_cons_zero, List.getElem_cons_succ]
        refine wpAnyH_ready (rs := [14]) (by kernel_rfl) (by simp) ?_
        refine AllReadyH.cons rfl (fun K hK => ?_) AllReadyH.nil
        go_simp
        go_at_call 70
        refine (hmt _).mono ?_
        rintro e w2 ⟨rfl, hw2⟩
        obtain rfl := hw2.symm
        go_wp2_with fail
        refine hK.out _ _ (HKK.out _ ((Below.refl _ _).drew)) (fun hHeld2 => ?_)
        clear hK K
        refine wpAnyH_done (by kernel_rfl) ?_ _
        go_wp2_with fail
        go_roundw
        case rel =>
          refine ⟨k + 1, by omega, by go_num, fun j hj => ?_, HB.out.drew⟩
          by_cases e : j = k
          · rw [e]; exact HF.out
          · exact hall.out j (by omega)
        case measure => simp [intOf]; omega
      · have HR : Hid (cachedB M lv fs cL = true) := by unfold cachedB; rw [anyR_true _ k _ hlt (by rw [HCT.out]; exact hm)]; rfl
        clear hm
        go_wp2_with fail
        refine wp_region_held_drew (S := (fun wX => wX.cell? ⟨w.heap.size, 2, none⟩ = some (.slice (some ⟨gt, 0, none⟩) M.tlb.length s.c3) ∧ (wX.cell? ⟨gt, k * 5, none⟩ = some (.int .i64 P) ∧ wX.cell? ⟨gt, k * 5 + 1, none⟩ = some (.int .i64 S) ∧ wX.cell? ⟨gt, k * 5 + 2, none⟩ = some (.int .i64 O) ∧ wX.cell? ⟨gt, k * 5 + 3, none⟩ = some (.int .i64 R) ∧ wX.cell? ⟨gt, k * 5 + 4, none⟩ = some (.bool D)))) (by kernel_rfl) (HKK.out _ ((Below.refl _ _).drew)) (fun hHeld => ?_)
        refine wpAnyH_take (i := 0) (v := ?_) rfl (by kernel_rfl) (by kernel_rfl) (by kernel_rfl) (fun _ _ _ h => h) (Or.inl ⟨by rfl, ?_⟩) (by assumption) ?_
        rotate_left
        · (intro w hSw; (try dsimp only at hSw); go_simp; try with_reducible rfl)
        simp only [Act.put, List.setIfInBounds_toArray, List.set_cons_zero, List.set_cons_succ, List.getElem_toArray, List.getElem_cons_zero]
        refine wpAnyH_take (i := 1) (v := ?_) rfl (by kernel_rfl) (by kernel_rfl) (by kernel_rfl) (fun _ _ _ h => h) (Or.inl ⟨by rfl, ?_⟩) (by assumption) ?_
        rotate_left
        · (intro w hSw; (try dsimp only at hSw); go_simp; try with_reducible rfl)
        simp only [Act.put, List.setIfInBounds_toArray, List.set_cons_zero, List.set_cons_succ, List.getElem_toArray, List.getElem_cons_zero, List.getElem_cons_succ]
        refine wpAnyH_take (i := 2) (v := ?_) rfl (by kernel_rfl) (by kernel_rfl) (by kernel_rfl) (fun _ _ _ h => h) (Or.inl ⟨by rfl, ?_⟩) (by assumption) ?_
        rotate_left
        · (intro w hSw; (try dsimp only at hSw); go_simp; try with_reducible rfl)
        simp only [Act.put, List.setIfInBounds_toArray, List.set_cons_zero, List.set_cons_succ, List.getElem_toArray, List.getElem_cons_zero, List.getElem_cons_succ]
        refine wpAnyH_take (i := 3) (v := ?_) rfl (by kernel_rfl) (by kernel_rfl) (by kernel_rfl) (fun _ _ _ h => h) (Or.inl ⟨by rfl, ?_⟩) (by assumption) ?_
        rotate_left
        · (intro w hSw; (try dsimp only at hSw); go_simp; try with_reducible rfl)
        simp only [Act.put, List.setIfInBounds_toArray, List.set_cons_zero, List.set_cons_succ, List.getElem_toArray, List.getElem_cons_zero, List.getElem_cons_succ]
        refine wpAnyH_take (i := 4) (v := ?_) rfl (by kernel_rfl) (by kernel_rfl) (by kernel_rfl) (fun _ _ _ h => h) (Or.inl ⟨by rfl, ?_⟩) (by assumption) ?_
        rotate_left
        · (intro w hSw; (try dsimp only at hSw); go_simp; try with_reducible rfl)
        simp only [Act.put, List.setIfInBounds_toArray, List.set_cons_zero, List.set_cons_succ, List.getElem_toArray, List.getElem_cons_zero, List.getElem_cons_succ]
        refine wpAnyH_take (i := 5) (v := ?_) rfl (by kernel_rfl) (by kernel_rfl) (by kernel_rfl) (fun _ _ _ h => h) (Or.inl ⟨by rfl, ?_⟩) (by assumption) ?_
        rotate_left
        · (intro w hSw; (try dsimp only at hSw); go_simp; try with_reducible rfl)
        simp only [Act.put, List.setIfInBounds_toArray, List.set_cons_zero, List.set_cons_succ, List.getElem_toArray, List.getElem_cons_zero, List.getElem_cons_succ]
        refine wpAnyH_take (i := 6) (v := ?_) rfl (by kernel_rfl) (by kernel_rfl) (by kernel_rfl) (fun _ _ _ h => h) (Or.inl ⟨by rfl, ?_⟩) (by assumption) ?_
        rotate_left
        · (intro w hSw; (try dsimp only at hSw); go_simp; try with_reducible rfl)
        simp only [Act.put, List.setIfInBounds_toArray, List.set_cons_zero, List.set_cons_succ, List.getElem_toArray, List.getElem_cons_zero, List.getElem_cons_succ]
        refine wpAnyH_take (i := 7) (v := ?_) rfl (by kernel_rfl) (by kernel_rfl) (by kernel_rfl) (fun _ _ _ h => h) (Or.inl ⟨by rfl, ?_⟩) (by assumption) ?_
        rotate_left
        · (intro w hSw; (try dsimp only at hSw); go_simp; try with_reducible rfl)
        simp only [Act.put, List.setIfInBounds_toArray, List.set_cons_zero, List.set_cons_succ, List.getElem_toArray, List.getElem_cons_zero, List.getElem_cons_succ]
        refine wpAnyH_take (i := 8) (v := ?_) rfl (by kernel_rfl) (by kernel_rfl) (by kernel_rfl) (fun _ _ _ h => h) (Or.inl ⟨by rfl, ?_⟩) (by assumption) ?_
        rotate_left
        · (intro w hSw; (try dsimp only at hSw); go_simp; try with_reducible rfl)
        simp only [Act.put, List.setIfInBounds_toArray, List.set_cons_zero, List.set_cons_succ, List.getElem_toArray, List.getElem_cons_zero, List.getElem_cons_succ]
        refine wpAnyH_take (i := 9) (v := ?_) rfl (by kernel_rfl) (by kernel_rfl) (by kernel_rfl) (fun _ _ _ h => h) (Or.inl ⟨by rfl, ?_⟩) (by assumption) ?_
        rotate_left
        · (intro w hSw; (try dsimp only at hSw); go_simp; try with_reducible rfl)
        simp only [Act.put, List.setIfInBounds_toArray, List.set_cons_zero, List.set_cons_succ, List.getElem_toArray, List.getElem_cons_zero, List.getElem_cons_succ]
        refine wpAnyH_take (i := 10) (v := ?_) rfl (by kernel_rfl) (by kernel_rfl) (by kernel_rfl) (fun _ _ _ h => h) (Or.inl ⟨by rfl, ?_⟩) (by assumption) ?_
        rotate_left
        · (intro w hSw; (try dsimp only at hSw); go_simp; try with_reducible rfl)
        simp only [Act.put, List.setIfInBounds_toArray, List.set_cons_zero, List.set_cons_succ, List.getElem_toArray, List.getElem_cons_zero, List.getElem_cons_succ]
        refine wpAnyH_take (i := 11) (v := ?_) rfl (by kernel_rfl) (by kernel_rfl) (by kernel_rfl) (fun _ _ _ h => h) (Or.inl ⟨by rfl, ?_⟩) (by assumption) ?_
        rotate_left
        · (intro w hSw; (try dsimp only at hSw); go_simp; try with_reducible rfl)
        simp only [Act.put, List.setIfInBounds_toArray, List.set_cons_zero, List.set_cons_succ, List.getElem_toArray, List.getElem_cons_zero, List.getElem_cons_succ]
        refine wpAnyH_take (i := 12) (v := ?_) rfl (by kernel_rfl) (by kernel_rfl) (by kernel_rfl) (fun _ _ _ h => h) (Or.inl ⟨by rfl, ?_⟩) (by assumption) ?_
        rotate_left
        · (intro w hSw; (try dsimp only at hSw); go_simp; try with_reducible rfl)
        simp only [Act.put, List.setIfInBounds_toArray, List.set_cons_zero, List.set_cons_succ, List.getElem_toArray, List.getElem_cons_zero, List.getElem_cons_succ]
        refine wpAnyH_take (i := 13) (v := ?_) rfl (by kernel_rfl) (by kernel_rfl) (by kernel_rfl) (fun _ _ _ h => h) (Or.inl ⟨by rfl, ?_⟩) (by assumption) ?_
        rotate_left
        · (intro w hSw; (try dsimp only at hSw); go_simp; try with_reducible rfl)
        simp only [Act.put, List.setIfInBounds_toArray, List.set_cons_zero, List.set_cons_succ, List.getElem_toArray, List.getElem_cons_zero, List.getElem_cons_succ]
        refine wpAnyH_ready (rs := [14]) (by kernel_rfl) (by simp) ?_
        refine AllReadyH.cons rfl (fun K hK => ?_) AllReadyH.nil
        go_simp
        go_at_call 70
        refine (hmt _).mono ?_
        rintro e w2 ⟨rfl, hw2⟩
        obtain rfl := hw2.symm
        go_wp2_with fail
        refine hK.out _ _ (HKK.out _ ((Below.refl _ _).drew)) (fun hHeld2 => ?_)
        clear hK K
        refine wpAnyH_done (by kernel_rfl) ?_ _
        go_wp2_with fail
        go_ret
        exact ⟨by rw [HR.out]; rfl, HBB.out.trans (HB.out.drew.mono HBB.out.size)⟩
    · have HTN : Hid (anyR (cachT M fs cL) M.tlb.length = false) := anyR_false _ _ (fun j hj => hall.out j (by omega))
      obtain ⟨wA, rfl⟩ : ∃ wA : World, wA = wr := ⟨_, rfl⟩
      have HBA : Hid (Below wb.heap.size wb wA) := hb
      have L9 : ¬ (k : Int) < (M.tlb.length : Int) := by omega
      clear hall hb
      go_wp2_with fail
      clear m0 m1 m2 m3
      go_loopw [10] (fun i wr => ∃ k : Nat, k ≤ M.wc.length ∧ i = .int .i64 k ∧ Hid (∀ j, j < k → cachW M lv fs cL j = false) ∧ Below wb.heap.size wb wr) (fun i _ => M.wc.length - (intOf i).toNat)
      case atStart => exact ⟨0, Nat.zero_le _, rfl, fun j hj => absurd hj (by omega), HBA.out⟩
      case round =>
        obtain ⟨k, hk, rfl, hall, hb⟩ := hrel
        obtain ⟨m0, m1, m2, m3⟩ := HBOX.out wr hb
        by_cases hlt : k < M.wc.length
        · obtain ⟨E, hE⟩ : ∃ E, eAt eWc M.wc k = E := ⟨_, rfl⟩
          obtain ⟨L2, P, T, D⟩ := E
          obtain ⟨hae, hgl, hcs⟩ := HW.out k L2 P T D hlt hE
          have htv := valid_wc HV.out k hlt
          rw [hE] at htv
          have hts : (0 ≤ P ∧ P < 100000) ∧ (L2 = 2 ∨ L2 = 3) := by
            simp only [wcOkB, pageOk, Bool.and_eq_true, Bool.or_eq_true, decide_eq_true_eq] at htv
            omega
          have hcv := covers_any (L2 - 1)
          obtain ⟨S, hS⟩ : ∃ S, S = cov (L2 - 1) := ⟨_, rfl⟩
          have hS2 : S = 16 * cov L2 := by rw [hS]; rcases hts.2 with rfl | rfl <;> decide
          have hS3 : 0 ≤ S ∧ S < 100000 := by rw [hS]; rcases hts.2 with rfl | rfl <;> decide
          rw [← hS] at hcv
          have hmt := meetS_any fs cL P S hf0 hc0 hts.1 hS3
          rw [meets_comm] at hmt
          have W1 : IntKind.i64.wrap (L2 - 1) = L2 - 1 := by rw [IntKind.wrap_i64]; omega
          have HCT : Hid (cachW M lv fs cL k = (decide (lv < L2) && meets P S fs cL)) := by unfold cachW; rw [hE, hS2]; rfl
          obtain ⟨wx, hwx⟩ : ∃ wx, wx = wr.alloc (.cells #[.int .i64 L2, .int .i64 P, .int .i64 T, .bool D] 113) := ⟨_, rfl⟩
          have bx : Below wb.heap.size wb wx := by rw [hwx]; exact hb.alloc hb.size _
          have hzx : wx.heap.size = wr.heap.size + 1 := by rw [hwx]; simp
          have HKX : Hid (∀ wX, Below wx.heap.size wx wX → wX.cell? ⟨wr.heap.size, 0, none⟩ = some (.int .i64 L2) ∧ wX.cell? ⟨wr.heap.size, 1, none⟩ = some (.int .i64 P) ∧ wX.cell? ⟨wr.heap.size, 2, none⟩ = some (.int .i64 T) ∧ wX.cell? ⟨wr.heap.size, 3, none⟩ = some (.bool D)) := fun wX hX => by
            refine ⟨?_, ?_, ?_, ?_⟩
            iterate 4 (exact (hX.cell (by simp; omega)).trans (by rw [hwx]; simp [go_sem]))
          obtain ⟨c0, c1, c2, c3⟩ := hcs wr hb
          have m3' : wr.cell? ⟨w.heap.size, 3, none⟩ = some (.slice (some ⟨gw, 0, none⟩) M.wc.length s.c4) := by rw [← hae]; exact m3
          have HWX : Hid (wx = _) := hwx
          have HBX : Hid (Below wb.heap.size wb wx) := bx
          have L1 : (0 : Int) ≤ (k : Int) := by omega
          have L2' : (k : Int) < (M.wc.length : Int) := by omega
          clear hae hcs htv hts hE hb m3 hS hS2 hwx bx hzx
          by_cases hLL : lv < L2
          · have dL : decide (lv < L2) = true := decide_eq_true hLL
            cases hm : meets P S fs cL <;> rw [hm] at hmt
            · have HF : Hid (cachW M lv fs cL k = false) := by rw [HCT.out, hm, Bool.and_false]; rfl
              clear hm
              go_wp2_with fail
              rw [← HWX.out]
              refine wp_region_held_drew (S := (fun wX => wX.cell? ⟨wr.heap.size, 0, none⟩ = some (.int .i64 L2) ∧ wX.cell? ⟨wr.heap.size, 1, none⟩ = some (.int .i64 P) ∧ wX.cell? ⟨wr.heap.size, 2, none⟩ = some (.int .i64 T) ∧ wX.cell? ⟨wr.heap.size, 3, none⟩ = some (.bool D))) (by kernel_rfl) (HKX.out _ ((Below.refl _ _).drew)) (fun hHeld => ?_)
              refine wpAnyH_take (i := 0) (v := ?_) rfl (by kernel_rfl) (by kernel_rfl) (by kernel_rfl) (fun _ _ _ h => h) (Or.inl ⟨by rfl, ?_⟩) (by assumption) ?_
              rotate_left
              · (intro w hSw; (try dsimp only at hSw); go_simp; try with_reducible rfl)
              simp only [Act.put, List.setIfInBounds_toArray, List.set_cons_zero, List.set_cons_succ, List.getElem_toArray, List.getElem_cons_zero]
              refine wpAnyH_take (i := 1) (v := ?_) rfl (by kernel_rfl) (by kernel_rfl) (by kernel_rfl) (fun _ _ _ h => h) (Or.inl ⟨by rfl, ?_⟩) (by assumption) ?_
              rotate_left
              · (intro w hSw; (try dsimp only at hSw); go_simp; try with_reducible rfl)
              simp only [Act.put, List.setIfInBounds_toArray, List.set_cons_zero, List.set_cons_succ, List.getElem_toArray, List.getElem_cons_zero, List.getElem_cons_succ]
              refine wpAnyH_take (i := 2) (v := ?_) rfl (by kernel_rfl) (by kernel_rfl) (by kernel_rfl) (fun _ _ _ h => h) (Or.inl ⟨by rfl, ?_⟩) (by assumption) ?_
              rotate_left
              · (intro w hSw; (try dsimp only at hSw); go_simp; try with_reducible rfl)
              simp only [Act.put, List.setIfInBounds_toArray, List.set_cons_zero, List.set_cons_succ, List.getElem_toArray, List.getElem_cons_zero, List.getElem_cons_succ]
              refine wpAnyH_take (i := 3) (v := ?_) rfl (by kernel_rfl) (by kernel_rfl) (by kernel_rfl) (fun _ _ _ h => h) (Or.inl ⟨by rfl, ?_⟩) (by assumption) ?_
              rotate_left
              · (intro w hSw; (try dsimp only at hSw); go_simp; try with_reducible rfl)
              simp only [Act.put, List.setIfInBounds_toArray, List.set_cons_zero, List.set_cons_succ, List.getElem_toArray, List.getElem_cons_zero, List.getElem_cons_succ]
              refine wpAnyH_take (i := 4) (v := ?_) rfl (by kernel_rfl) (by kernel_rfl) (by kernel_rfl) (fun _ _ _ h => h) (Or.inl ⟨by rfl, ?_⟩) (by assumption) ?_
              rotate_left
              · (intro w hSw; (try dsimp only at hSw); go_simp; try with_reducible rfl)
              simp only [Act.put, List.setIfInBounds_toArray, List.set_cons_zero, List.set_cons_succ, List.getElem_toArray, List.getElem_cons_zero, List.getElem_cons_succ]
              refine wpAnyH_take (i := 5) (v := ?_) rfl (by kernel_rfl) (by kernel_rfl) (by kernel_rfl) (fun _ _ _ h => h) (Or.inl ⟨by rfl, ?_⟩) (by assumption) ?_
              rotate_left
              · (intro w hSw; (try dsimp only at hSw); go_simp; try with_reducible rfl)
              simp only [Act.put, List.setIfInBounds_toArray, List.set_cons_zero, List.set_cons_succ, List.getElem_toArray, List.getElem_cons_zero, List.getElem_cons_succ]
              refine wpAnyH_take (i := 6) (v := ?_) rfl (by kernel_rfl) (by kernel_rfl) (by kernel_rfl) (fun _ _ _ h => h) (Or.inl ⟨by rfl, ?_⟩) (by assumption) ?_
              rotate_left
              · (intro w hSw; (try dsimp only at hSw); go_simp; try with_reducible rfl)
              simp only [Act.put, List.setIfInBounds_toArray, List.set_cons_zero, List.set_cons_succ, List.getElem_toArray, List.getElem_cons_zero, List.getElem_cons_succ]
              refine wpAnyH_take (i := 7) (v := ?_) rfl (by kernel_rfl) (by kernel_rfl) (by kernel_rfl) (fun _ _ _ h => h) (Or.inl ⟨by rfl, ?_⟩) (by assumption) ?_
              rotate_left
              · (intro w hSw; (try dsimp only at hSw); go_simp; try with_reducible rfl)
              simp only [Act.put, List.setIfInBounds_toArray, List.set_cons_zero, List.set_cons_succ, List.getElem_toArray, List.getElem_cons_zero, List.getElem_cons_succ]
              refine wpAnyH_take (i := 8) (v := ?_) rfl (by kernel_rfl) (by kernel_rfl) (by kernel_rfl) (fun _ _ _ h => h) (Or.inl ⟨by rfl, ?_⟩) (by assumption) ?_
              rotate_left
              · (intro w hSw; (try dsimp only at hSw); go_simp; try with_reducible rfl)
              simp only [Act.put, List.setIfInBounds_toArray, List.set_cons_zero, List.set_cons_succ, List.getElem_toArray, List.getElem_cons_zero, List.getElem_cons_succ]
              refine wpAnyH_take (i := 9) (v := ?_) rfl (by kernel_rfl) (by kernel_rfl) (by kernel_rfl) (fun _ _ _ h => h) (Or.inl ⟨by rfl, ?_⟩) (by assumption) ?_
              rotate_left
              · (intro w hSw; (try dsimp only at hSw); go_simp; try with_reducible rfl)
              simp only [Act.put, List.setIfInBounds_toArray, List.set_cons_zero, List.set_cons_succ, List.getElem_toArray, List.getElem_cons_zero, List.getElem_cons_succ]
              refine wpAnyH_take (i := 10) (v := ?_) rfl (by kernel_rfl) (by kernel_rfl) (by kernel_rfl) (fun _ _ _ h => h) (Or.inl ⟨by rfl, ?_⟩) (by assumption) ?_
              rotate_left
              · (intro w hSw; (try dsimp only at hSw); go_simp; try with_reducible rfl)
              simp only [Act.put, List.setIfInBounds_toArray, List.set_cons_zero, List.set_cons_succ, List.getElem_toArray, List.getElem_cons_zero, List.getElem_cons_succ]
              refine wpAnyH_take (i := 11) (v := ?_) rfl (by kernel_rfl) (by kernel_rfl) (by kernel_rfl) (fun _ _ _ h => h) (Or.inl ⟨by rfl, ?_⟩) (by assumption) ?_
              rotate_left
              · (intro w hSw; (try dsimp only at hSw); go_simp; try with_reducible rfl)
              simp only [Act.put, List.setIfInBounds_toArray, List.set_cons_zero, List.set_cons_succ, List.getElem_toArray, List.getElem_cons_zero, List.getElem_cons_succ]
              refine wpAnyH_ready (rs := [12]) (by kernel_rfl) (by simp) ?_
              refine AllReadyH.cons rfl (fun K hK => ?_) AllReadyH.nil
              go_simp
              go_at_call 71
              refine (hcv _).mono ?_
              rintro e w2 ⟨rfl, hw2⟩
              obtain rfl := hw2.symm
              go_wp2_with fail
              refine hK.out _ _ (HKX.out _ ((Below.refl _ _).drew)) (fun hHeld2 => ?_)
              clear hK K
              refine wpAnyH_ready (rs := [13]) (by kernel_rfl) (by simp) ?_
              refine AllReadyH.cons rfl (fun K hK => ?_) AllReadyH.nil
              go_simp
              go_at_call 70
              refine (hmt _).mono ?_
              rintro e w2 ⟨rfl, hw2⟩
              obtain rfl := hw2.symm
              go_wp2_with fail
              refine hK.out _ _ (HKX.out _ ((Below.refl _ _).drew)) (fun hHeld2 => ?_)
              clear hK K
              refine wpAnyH_take (i := 14) (v := ?_) rfl (by kernel_rfl) (by kernel_rfl) (by kernel_rfl) (fun _ _ _ h => h) (Or.inl ⟨by rfl, ?_⟩) (by assumption) ?_
              rotate_left
              · (intro w hSw; (try dsimp only at hSw); go_simp; try with_reducible rfl)
              simp only [Act.put, List.setIfInBounds_toArray, List.set_cons_zero, List.set_cons_succ, List.getElem_toArray, List.getElem_cons_zero, List.getElem_cons_succ]
              refine wpAnyH_done (by kernel_rfl) ?_ _
              go_wp2_with fail
              go_roundw
              case rel =>
                refine ⟨k + 1, by omega, by go_num, fun j hj => ?_, HBX.out.drew⟩
                by_cases e : j = k
                · rw [e]; exact HF.out
                · exact hall.out j (by omega)
              case measure => simp [intOf]; omega
            · have HR : Hid (cachedB M lv fs cL = true) := by unfold cachedB; rw [anyR_true (cachW M lv fs cL) k _ hlt (by rw [HCT.out, hm, dL]; rfl), Bool.or_true]; rfl
              clear hm
              go_wp2_with fail
              rw [← HWX.out]
              refine wp_region_held_drew (S := (fun wX => wX.cell? ⟨wr.heap.size, 0, none⟩ = some (.int .i64 L2) ∧ wX.cell? ⟨wr.heap.size, 1, none⟩ = some (.int .i64 P) ∧ wX.cell? ⟨wr.heap.size, 2, none⟩ = some (.int .i64 T) ∧ wX.cell? ⟨wr.heap.size, 3, none⟩ = some (.bool D))) (by kernel_rfl) (HKX.out _ ((Below.refl _ _).drew)) (fun hHeld => ?_)
              refine wpAnyH_take (i := 0) (v := ?_) rfl (by kernel_rfl) (by kernel_rfl) (by kernel_rfl) (fun _ _ _ h => h) (Or.inl ⟨by rfl, ?_⟩) (by assumption) ?_
              rotate_left
              · (intro w hSw; (try dsimp only at hSw); go_simp; try with_reducible rfl)
              simp only [Act.put, List.setIfInBounds_toArray, List.set_cons_zero, List.set_cons_succ, List.getElem_toArray, List.getElem_cons_zero]
              refine wpAnyH_take (i := 1) (v := ?_) rfl (by kernel_rfl) (by kernel_rfl) (by kernel_rfl) (fun _ _ _ h => h) (Or.inl ⟨by rfl, ?_⟩) (by assumption) ?_
              rotate_left
              · (intro w hSw; (try dsimp only at hSw); go_simp; try with_reducible rfl)
              simp only [Act.put, List.setIfInBounds_toArray, List.set_cons_zero, List.set_cons_succ, List.getElem_toArray, List.getElem_cons_zero, List.getElem_cons_succ]
              refine wpAnyH_take (i := 2) (v := ?_) rfl (by kernel_rfl) (by kernel_rfl) (by kernel_rfl) (fun _ _ _ h => h) (Or.inl ⟨by rfl, ?_⟩) (by assumption) ?_
              rotate_left
              · (intro w hSw; (try dsimp only at hSw); go_simp; try with_reducible rfl)
              simp only [Act.put, List.setIfInBounds_toArray, List.set_cons_zero, List.set_cons_succ, List.getElem_toArray, List.getElem_cons_zero, List.getElem_cons_succ]
              refine wpAnyH_take (i := 3) (v := ?_) rfl (by kernel_rfl) (by kernel_rfl) (by kernel_rfl) (fun _ _ _ h => h) (Or.inl ⟨by rfl, ?_⟩) (by assumption) ?_
              rotate_left
              · (intro w hSw; (try dsimp only at hSw); go_simp; try with_reducible rfl)
              simp only [Act.put, List.setIfInBounds_toArray, List.set_cons_zero, List.set_cons_succ, List.getElem_toArray, List.getElem_cons_zero, List.getElem_cons_succ]
              refine wpAnyH_take (i := 4) (v := ?_) rfl (by kernel_rfl) (by kernel_rfl) (by kernel_rfl) (fun _ _ _ h => h) (Or.inl ⟨by rfl, ?_⟩) (by assumption) ?_
              rotate_left
              · (intro w hSw; (try dsimp only at hSw); go_simp; try with_reducible rfl)
              simp only [Act.put, List.setIfInBounds_toArray, List.set_cons_zero, List.set_cons_succ, List.getElem_toArray, List.getElem_cons_zero, List.getElem_cons_succ]
              refine wpAnyH_take (i := 5) (v := ?_) rfl (by kernel_rfl) (by kernel_rfl) (by kernel_rfl) (fun _ _ _ h => h) (Or.inl ⟨by rfl, ?_⟩) (by assumption) ?_
              rotate_left
              · (intro w hSw; (try dsimp only at hSw); go_simp; try with_reducible rfl)
              simp only [Act.put, List.setIfInBounds_toArray, List.set_cons_zero, List.set_cons_succ, List.getElem_toArray, List.getElem_cons_zero, List.getElem_cons_succ]
              refine wpAnyH_take (i := 6) (v := ?_) rfl (by kernel_rfl) (by kernel_rfl) (by kernel_rfl) (fun _ _ _ h => h) (Or.inl ⟨by rfl, ?_⟩) (by assumption) ?_
              rotate_left
              · (intro w hSw; (try dsimp only at hSw); go_simp; try with_reducible rfl)
              simp only [Act.put, List.setIfInBounds_toArray, List.set_cons_zero, List.set_cons_succ, List.getElem_toArray, List.getElem_cons_zero, List.getElem_cons_succ]
              refine wpAnyH_take (i := 7) (v := ?_) rfl (by kernel_rfl) (by kernel_rfl) (by kernel_rfl) (fun _ _ _ h => h) (Or.inl ⟨by rfl, ?_⟩) (by assumption) ?_
              rotate_left
              · (intro w hSw; (try dsimp only at hSw); go_simp; try with_reducible rfl)
              simp only [Act.put, List.setIfInBounds_toArray, List.set_cons_zero, List.set_cons_succ, List.getElem_toArray, List.getElem_cons_zero, List.getElem_cons_succ]
              refine wpAnyH_take (i := 8) (v := ?_) rfl (by kernel_rfl) (by kernel_rfl) (by kernel_rfl) (fun _ _ _ h => h) (Or.inl ⟨by rfl, ?_⟩) (by assumption) ?_
              rotate_left
              · (intro w hSw; (try dsimp only at hSw); go_simp; try with_reducible rfl)
              simp only [Act.put, List.setIfInBounds_toArray, List.set_cons_zero, List.set_cons_succ, List.getElem_toArray, List.getElem_cons_zero, List.getElem_cons_succ]
              refine wpAnyH_take (i := 9) (v := ?_) rfl (by kernel_rfl) (by kernel_rfl) (by kernel_rfl) (fun _ _ _ h => h) (Or.inl ⟨by rfl, ?_⟩) (by assumption) ?_
              rotate_left
              · (intro w hSw; (try dsimp only at hSw); go_simp; try with_reducible rfl)
              simp only [Act.put, List.setIfInBounds_toArray, List.set_cons_zero, List.set_cons_succ, List.getElem_toArray, List.getElem_cons_zero, List.getElem_cons_succ]
              refine wpAnyH_take (i := 10) (v := ?_) rfl (by kernel_rfl) (by kernel_rfl) (by kernel_rfl) (fun _ _ _ h => h) (Or.inl ⟨by rfl, ?_⟩) (by assumption) ?_
              rotate_left
              · (intro w hSw; (try dsimp only at hSw); go_simp; try with_reducible rfl)
              simp only [Act.put, List.setIfInBounds_toArray, List.set_cons_zero, List.set_cons_succ, List.getElem_toArray, List.getElem_cons_zero, List.getElem_cons_succ]
              refine wpAnyH_take (i := 11) (v := ?_) rfl (by kernel_rfl) (by kernel_rfl) (by kernel_rfl) (fun _ _ _ h => h) (Or.inl ⟨by rfl, ?_⟩) (by assumption) ?_
              rotate_left
              · (intro w hSw; (try dsimp only at hSw); go_simp; try with_reducible rfl)
              simp only [Act.put, List.setIfInBounds_toArray, List.set_cons_zero, List.set_cons_succ, List.getElem_toArray, List.getElem_cons_zero, List.getElem_cons_succ]
              refine wpAnyH_ready (rs := [12]) (by kernel_rfl) (by simp) ?_
              refine AllReadyH.cons rfl (fun K hK => ?_) AllReadyH.nil
              go_simp
              go_at_call 71
              refine (hcv _).mono ?_
              rintro e w2 ⟨rfl, hw2⟩
              obtain rfl := hw2.symm
              go_wp2_with fail
              refine hK.out _ _ (HKX.out _ ((Below.refl _ _).drew)) (fun hHeld2 => ?_)
              clear hK K
              refine wpAnyH_ready (rs := [13]) (by kernel_rfl) (by simp) ?_
              refine AllReadyH.cons rfl (fun K hK => ?_) AllReadyH.nil
              go_simp
              go_at_call 70
              refine (hmt _).mono ?_
              rintro e w2 ⟨rfl, hw2⟩
              obtain rfl := hw2.symm
              go_wp2_with fail
              refine hK.out _ _ (HKX.out _ ((Below.refl _ _).drew)) (fun hHeld2 => ?_)
              clear hK K
              refine wpAnyH_take (i := 14) (v := ?_) rfl (by kernel_rfl) (by kernel_rfl) (by kernel_rfl) (fun _ _ _ h => h) (Or.inl ⟨by rfl, ?_⟩) (by assumption) ?_
              rotate_left
              · (intro w hSw; (try dsimp only at hSw); go_simp; try with_reducible rfl)
              simp only [Act.put, List.setIfInBounds_toArray, List.set_cons_zero, List.set_cons_succ, List.getElem_toArray, List.getElem_cons_zero, List.getElem_cons_succ]
              refine wpAnyH_done (by kernel_rfl) ?_ _
              go_wp2_with fail
              go_ret
              exact ⟨by rw [HR.out]; rfl, HBB.out.trans (HBX.out.drew.mono HBB.out.size)⟩
          · have dL : decide (lv < L2) = false := decide_eq_false hLL
            have HF : Hid (cachW M lv fs cL k = false) := by rw [HCT.out, dL]; rfl
            go_wp2_with fail
            rw [← HWX.out]
            refine wp_region_held_drew (S := (fun wX => wX.cell? ⟨wr.heap.size, 0, none⟩ = some (.int .i64 L2) ∧ wX.cell? ⟨wr.heap.size, 1, none⟩ = some (.int .i64 P) ∧ wX.cell? ⟨wr.heap.size, 2, none⟩ = some (.int .i64 T) ∧ wX.cell? ⟨wr.heap.size, 3, none⟩ = some (.bool D))) (by kernel_rfl) (HKX.out _ ((Below.refl _ _).drew)) (fun hHeld => ?_)
            refine wpAnyH_take (i := 0) (v := ?_) rfl (by kernel_rfl) (by kernel_rfl) (by kernel_rfl) (fun _ _ _ h => h) (Or.inl ⟨by rfl, ?_⟩) (by assumption) ?_
            rotate_left
            · (intro w hSw; (try dsimp only at hSw); go_simp; try with_reducible rfl)
            simp only [Act.put, List.setIfInBounds_toArray, List.set_cons_zero, List.set_cons_succ, List.getElem_toArray, List.getElem_cons_zero]
            refine wpAnyH_take (i := 1) (v := ?_) rfl (by kernel_rfl) (by kernel_rfl) (by kernel_rfl) (fun _ _ _ h => h) (Or.inl ⟨by rfl, ?_⟩) (by assumption) ?_
            rotate_left
            · (intro w hSw; (try dsimp only at hSw); go_simp; try with_reducible rfl)
            simp only [Act.put, List.setIfInBounds_toArray, List.set_cons_zero, List.set_cons_succ, List.getElem_toArray, List.getElem_cons_zero, List.getElem_cons_succ]
            refine wpAnyH_take (i := 2) (v := ?_) rfl (by kernel_rfl) (by kernel_rfl) (by kernel_rfl) (fun _ _ _ h => h) (Or.inl ⟨by rfl, ?_⟩) (by assumption) ?_
            rotate_left
            · (intro w hSw; (try dsimp only at hSw); go_simp; try with_reducible rfl)
            simp only [Act.put, List.setIfInBounds_toArray, List.set_cons_zero, List.set_cons_succ, List.getElem_toArray, List.getElem_cons_zero, List.getElem_cons_succ]
            refine wpAnyH_take (i := 3) (v := ?_) rfl (by kernel_rfl) (by kernel_rfl) (by kernel_rfl) (fun _ _ _ h => h) (Or.inl ⟨by rfl, ?_⟩) (by assumption) ?_
            rotate_left
            · (intro w hSw; (try dsimp only at hSw); go_simp; try with_reducible rfl)
            simp only [Act.put, List.setIfInBounds_toArray, List.set_cons_zero, List.set_cons_succ, List.getElem_toArray, List.getElem_cons_zero, List.getElem_cons_succ]
            refine wpAnyH_take (i := 4) (v := ?_) rfl (by kernel_rfl) (by kernel_rfl) (by kernel_rfl) (fun _ _ _ h => h) (Or.inl ⟨by rfl, ?_⟩) (by assumption) ?_
            rotate_left
            · (intro w hSw; (try dsimp only at hSw); go_simp; try with_reducible rfl)
            simp only [Act.put, List.setIfInBounds_toArray, List.set_cons_zero, List.set_cons_succ, List.getElem_toArray, List.getElem_cons_zero, List.getElem_cons_succ]
            refine wpAnyH_take (i := 5) rfl (by kernel_rfl) (by kernel_rfl) (by kernel_rfl) (fun _ _ _ h => h) (Or.inr ⟨by rfl, rfl⟩) (by assumption) ?_
            simp only [Act.put, List.setIfInBounds_toArray, List.set_cons_zero, List.set_cons_succ, List.getElem_toArray, List.getElem_cons_zero, List.getElem_cons_succ]
            refine wpAnyH_take (i := 6) rfl (by kernel_rfl) (by kernel_rfl) (by kernel_rfl) (fun _ _ _ h => h) (Or.inr ⟨by rfl, rfl⟩) (by assumption) ?_
            simp only [Act.put, List.setIfInBounds_toArray, List.set_cons_zero, List.set_cons_succ, List.getElem_toArray, List.getElem_cons_zero, List.getElem_cons_succ]
            refine wpAnyH_take (i := 7) rfl (by kernel_rfl) (by kernel_rfl) (by kernel_rfl) (fun _ _ _ h => h) (Or.inr ⟨by rfl, rfl⟩) (by assumption) ?_
            simp only [Act.put, List.setIfInBounds_toArray, List.set_cons_zero, List.set_cons_succ, List.getElem_toArray, List.getElem_cons_zero, List.getElem_cons_succ]
            refine wpAnyH_take (i := 8) rfl (by kernel_rfl) (by kernel_rfl) (by kernel_rfl) (fun _ _ _ h => h) (Or.inr ⟨by rfl, rfl⟩) (by assumption) ?_
            simp only [Act.put, List.setIfInBounds_toArray, List.set_cons_zero, List.set_cons_succ, List.getElem_toArray, List.getElem_cons_zero, List.getElem_cons_succ]
            refine wpAnyH_take (i := 9) rfl (by kernel_rfl) (by kernel_rfl) (by kernel_rfl) (fun _ _ _ h => h) (Or.inr ⟨by rfl, rfl⟩) (by assumption) ?_
            simp only [Act.put, List.setIfInBounds_toArray, List.set_cons_zero, List.set_cons_succ, List.getElem_toArray, List.getElem_cons_zero, List.getElem_cons_succ]
            refine wpAnyH_take (i := 10) rfl (by kernel_rfl) (by kernel_rfl) (by kernel_rfl) (fun _ _ _ h => h) (Or.inr ⟨by rfl, rfl⟩) (by assumption) ?_
            simp only [Act.put, List.setIfInBounds_toArray, List.set_cons_zero, List.set_cons_succ, List.getElem_toArray, List.getElem_cons_zero, List.getElem_cons_succ]
            refine wpAnyH_take (i := 11) rfl (by kernel_rfl) (by kernel_rfl) (by kernel_rfl) (fun _ _ _ h => h) (Or.inr ⟨by rfl, rfl⟩) (by assumption) ?_
            simp only [Act.put, List.setIfInBounds_toArray, List.set_cons_zero, List.set_cons_succ, List.getElem_toArray, List.getElem_cons_zero, List.getElem_cons_succ]
            refine wpAnyH_take (i := 12) rfl (by kernel_rfl) (by kernel_rfl) (by kernel_rfl) (fun _ _ _ h => h) (Or.inr ⟨by rfl, rfl⟩) (by assumption) ?_
            simp only [Act.put, List.setIfInBounds_toArray, List.set_cons_zero, List.set_cons_succ, List.getElem_toArray, List.getElem_cons_zero, List.getElem_cons_succ]
            refine wpAnyH_take (i := 13) rfl (by kernel_rfl) (by kernel_rfl) (by kernel_rfl) (fun _ _ _ h => h) (Or.inr ⟨by rfl, rfl⟩) (by assumption) ?_
            simp only [Act.put, List.setIfInBounds_toArray, List.set_cons_zero, List.set_cons_succ, List.getElem_toArray, List.getElem_cons_zero, List.getElem_cons_succ]
            refine wpAnyH_take (i := 14) (v := ?_) rfl (by kernel_rfl) (by kernel_rfl) (by kernel_rfl) (fun _ _ _ h => h) (Or.inl ⟨by rfl, ?_⟩) (by assumption) ?_
            rotate_left
            · (intro w hSw; (try dsimp only at hSw); go_simp; try with_reducible rfl)
            simp only [Act.put, List.setIfInBounds_toArray, List.set_cons_zero, List.set_cons_succ, List.getElem_toArray, List.getElem_cons_zero, List.getElem_cons_succ]
            refine wpAnyH_done (by kernel_rfl) ?_ _
            go_wp2_with fail
            go_roundw
            case rel =>
              refine ⟨k + 1, by omega, by go_num, fun j hj => ?_, HBX.out.drew⟩
              by_cases e : j = k
              · rw [e]; exact HF.out
              · exact hall.out j (by omega)
            case measure => simp [intOf]; omega
        · have HR : Hid (cachedB M lv fs cL = false) := by unfold cachedB; rw [HTN.out, anyR_false _ _ (fun j hj => hall.out j (by omega))]; rfl
          have L8 : ¬ (k : Int) < (M.wc.length : Int) := by omega
          go_wp2_with fail
          go_ret
          exact ⟨by rw [HR.out]; rfl, HBB.out.trans (hb.mono HBB.out.size)⟩
end Go.Proofs.YtiiejckfcnmhoabGreat
namespace Go.Proofs.YtiiejckfcnmhoabGreat
open Go.ChangeShapes Go.WideShapes Go.ChangeAt Go.RowKit
set_option linter.unusedVariables false
attribute [local go_sem ↓] Go.wp_at_zero Go.wp_at_succ

set_option maxRecDepth 100000 in
set_option maxHeartbeats 2000000 in
theorem wellS_any (s : SV) (M : Mach) (K A Bb W : Int) (w : World) (hs : M.Small) :
    Calls Tryz.prog 66 #[.agg #[.slice s.a1 M.mem.length s.c1, .slice s.a2 M.pend.length s.c2, .slice s.a3 M.tlb.length s.c3, .slice s.a4 M.wc.length s.c4], .agg #[.int .i64 K, .int .i64 A, .int .i64 Bb, .int .u64 W]] w fun e w' => e = .returned (.bool (opB M ⟨K, A, Bb, W⟩)) ∧ Below w.heap.size w w' := by
  have y1 := hs.w
  have y2 := hs.p
  by_cases k1 : K = 1
  · subst k1
    have e : opB M ⟨1, A, Bb, W⟩ = decide (0 ≤ A ∧ A < (M.mem.length : Int) ∧ Bb = 0 ∧ (M.pend.length : Int) < 10000) := by
      unfold opB
      rw [if_pos rfl]
      exact decide_eq_decide.2 ⟨fun hh => ⟨hh.1, hh.2.1, hh.2.2.1, by omega⟩, fun hh => ⟨hh.1, hh.2.1, hh.2.2.1, by omega⟩⟩
    rw [e]
    clear e
    by_cases h0 : 0 ≤ A
    · have d0 : decide (0 ≤ A) = true := by simpa using h0
      by_cases h1 : A < (M.mem.length : Int)
      · have d1 : decide (A < (M.mem.length : Int)) = true := by simpa using h1
        by_cases h2 : Bb = 0
        · have d2 : (Bb == 0) = true := by simpa using h2
          by_cases h3 : (M.pend.length : Int) < 10000
          · have d3 : decide ((M.pend.length : Int) < 10000) = true := by simpa using h3
            rw [decide_eq_true (p := 0 ≤ A ∧ A < (M.mem.length : Int) ∧ Bb = 0 ∧ (M.pend.length : Int) < 10000) (by omega)]
            go_enter Tryz.func66, Tryz.ntmps66
            go_wp2_with fail
            go_ret
            exact ⟨by first | rfl | simp, ((Below.refl _ _).alloc (Nat.le_refl _) _).alloc (by simp) _⟩
          · have d3 : decide ((M.pend.length : Int) < 10000) = false := by simpa using h3
            rw [decide_eq_false (p := 0 ≤ A ∧ A < (M.mem.length : Int) ∧ Bb = 0 ∧ (M.pend.length : Int) < 10000) (fun h => h3 (by omega))]
            clear h3
            go_enter Tryz.func66, Tryz.ntmps66
            go_wp2_with fail
            go_ret
            exact ⟨by first | rfl | simp, ((Below.refl _ _).alloc (Nat.le_refl _) _).alloc (by simp) _⟩
        · have d2 : (Bb == 0) = false := by simpa using h2
          rw [decide_eq_false (p := 0 ≤ A ∧ A < (M.mem.length : Int) ∧ Bb = 0 ∧ (M.pend.length : Int) < 10000) (fun h => h2 (by omega))]
          clear h2
          go_enter Tryz.func66, Tryz.ntmps66
          go_wp2_with fail
          go_ret
          exact ⟨by first | rfl | simp, ((Below.refl _ _).alloc (Nat.le_refl _) _).alloc (by simp) _⟩
      · have d1 : decide (A < (M.mem.length : Int)) = false := by simpa using h1
        rw [decide_eq_false (p := 0 ≤ A ∧ A < (M.mem.length : Int) ∧ Bb = 0 ∧ (M.pend.length : Int) < 10000) (fun h => h1 (by omega))]
        clear h1
        go_enter Tryz.func66, Tryz.ntmps66
        go_wp2_with fail
        go_ret
        exact ⟨by first | rfl | simp, ((Below.refl _ _).alloc (Nat.le_refl _) _).alloc (by simp) _⟩
    · have d0 : decide (0 ≤ A) = false := by simpa using h0
      rw [decide_eq_false (p := 0 ≤ A ∧ A < (M.mem.length : Int) ∧ Bb = 0 ∧ (M.pend.length : Int) < 10000) (fun h => h0 (by omega))]
      clear h0
      go_enter Tryz.func66, Tryz.ntmps66
      go_wp2_with fail
      go_ret
      exact ⟨by first | rfl | simp, ((Below.refl _ _).alloc (Nat.le_refl _) _).alloc (by simp) _⟩
  · have dk1 : (K == 1) = false := by simpa using k1
    by_cases hW : W = 0
    · subst hW
      by_cases k2 : K = 2
      · subst k2
        have e : opB M ⟨2, A, Bb, 0⟩ = decide (A = 0 ∧ Bb = 0) := by unfold opB; rw [if_neg (by dsimp only; decide), if_pos rfl]; simp
        rw [e]
        clear e k1 dk1
        by_cases h0 : A = 0
        · have d0 : (A == 0) = true := by simpa using h0
          by_cases h1 : Bb = 0
          · have d1 : (Bb == 0) = true := by simpa using h1
            rw [decide_eq_true (p := A = 0 ∧ Bb = 0) (by omega)]
            go_enter Tryz.func66, Tryz.ntmps66
            go_wp2_with fail
            go_ret
            exact ⟨by first | rfl | simp, ((Below.refl _ _).alloc (Nat.le_refl _) _).alloc (by simp) _⟩
          · have d1 : (Bb == 0) = false := by simpa using h1
            rw [decide_eq_false (p := A = 0 ∧ Bb = 0) (fun h => h1 (by omega))]
            clear h1
            go_enter Tryz.func66, Tryz.ntmps66
            go_wp2_with fail
            go_ret
            exact ⟨by first | rfl | simp, ((Below.refl _ _).alloc (Nat.le_refl _) _).alloc (by simp) _⟩
        · have d0 : (A == 0) = false := by simpa using h0
          rw [decide_eq_false (p := A = 0 ∧ Bb = 0) (fun h => h0 (by omega))]
          clear h0
          go_enter Tryz.func66, Tryz.ntmps66
          go_wp2_with fail
          go_ret
          exact ⟨by first | rfl | simp, ((Below.refl _ _).alloc (Nat.le_refl _) _).alloc (by simp) _⟩
      · have dk2 : (K == 2) = false := by simpa using k2
        by_cases k3 : K = 3
        · subst k3
          have e : opB M ⟨3, A, Bb, 0⟩ = decide (0 ≤ A ∧ A < 4096 ∧ 1 ≤ Bb ∧ A + Bb ≤ 4096) := by unfold opB; rw [if_neg (by dsimp only; decide), if_neg (by dsimp only; decide), if_pos rfl]; simp
          rw [e]
          clear e k1 k2 dk1 dk2
          by_cases h0 : 0 ≤ A
          · have d0 : decide (0 ≤ A) = true := by simpa using h0
            by_cases h1 : A < 4096
            · have d1 : decide (A < 4096) = true := by simpa using h1
              by_cases h2 : 1 ≤ Bb
              · have d2 : decide (1 ≤ Bb) = true := by simpa using h2
                by_cases h3 : Bb ≤ 4096
                · have d3 : decide (Bb ≤ 4096) = true := by simpa using h3
                  by_cases h4 : A + Bb ≤ 4096
                  · have d4 : decide (A + Bb ≤ 4096) = true := by simpa using h4
                    rw [decide_eq_true (p := 0 ≤ A ∧ A < 4096 ∧ 1 ≤ Bb ∧ A + Bb ≤ 4096) (by omega)]
                    go_enter Tryz.func66, Tryz.ntmps66
                    go_wp2_with fail
                    go_ret
                    exact ⟨by first | rfl | simp, ((Below.refl _ _).alloc (Nat.le_refl _) _).alloc (by simp) _⟩
                  · have d4 : decide (A + Bb ≤ 4096) = false := by simpa using h4
                    rw [decide_eq_false (p := 0 ≤ A ∧ A < 4096 ∧ 1 ≤ Bb ∧ A + Bb ≤ 4096) (fun h => h4 (by omega))]
                    clear h4
                    go_enter Tryz.func66, Tryz.ntmps66
                    go_wp2_with fail
                    go_ret
                    exact ⟨by first | rfl | simp, ((Below.refl _ _).alloc (Nat.le_refl _) _).alloc (by simp) _⟩
                · have d3 : decide (Bb ≤ 4096) = false := by simpa using h3
                  rw [decide_eq_false (p := 0 ≤ A ∧ A < 4096 ∧ 1 ≤ Bb ∧ A + Bb ≤ 4096) (fun h => h3 (by omega))]
                  clear h3
                  go_enter Tryz.func66, Tryz.ntmps66
                  go_wp2_with fail
                  go_ret
                  exact ⟨by first | rfl | simp, ((Below.refl _ _).alloc (Nat.le_refl _) _).alloc (by simp) _⟩
              · have d2 : decide (1 ≤ Bb) = false := by simpa using h2
                rw [decide_eq_false (p := 0 ≤ A ∧ A < 4096 ∧ 1 ≤ Bb ∧ A + Bb ≤ 4096) (fun h => h2 (by omega))]
                clear h2
                go_enter Tryz.func66, Tryz.ntmps66
                go_wp2_with fail
                go_ret
                exact ⟨by first | rfl | simp, ((Below.refl _ _).alloc (Nat.le_refl _) _).alloc (by simp) _⟩
            · have d1 : decide (A < 4096) = false := by simpa using h1
              rw [decide_eq_false (p := 0 ≤ A ∧ A < 4096 ∧ 1 ≤ Bb ∧ A + Bb ≤ 4096) (fun h => h1 (by omega))]
              clear h1
              go_enter Tryz.func66, Tryz.ntmps66
              go_wp2_with fail
              go_ret
              exact ⟨by first | rfl | simp, ((Below.refl _ _).alloc (Nat.le_refl _) _).alloc (by simp) _⟩
          · have d0 : decide (0 ≤ A) = false := by simpa using h0
            rw [decide_eq_false (p := 0 ≤ A ∧ A < 4096 ∧ 1 ≤ Bb ∧ A + Bb ≤ 4096) (fun h => h0 (by omega))]
            clear h0
            go_enter Tryz.func66, Tryz.ntmps66
            go_wp2_with fail
            go_ret
            exact ⟨by first | rfl | simp, ((Below.refl _ _).alloc (Nat.le_refl _) _).alloc (by simp) _⟩
        · have dk3 : (K == 3) = false := by simpa using k3
          by_cases k4 : K = 4
          · subst k4
            have e : opB M ⟨4, A, Bb, 0⟩ = decide (0 ≤ A ∧ A < nfr M.mem.length ∧ Bb = 0) := by unfold opB; rw [if_neg (by dsimp only; decide), if_neg (by dsimp only; decide), if_neg (by dsimp only; decide), if_pos rfl]; simp
            rw [e]
            have hfr := frames_any s.a1 M.mem.length s.c1 (by omega)
            obtain ⟨nf, hnf⟩ : ∃ nf, nf = nfr M.mem.length := ⟨_, rfl⟩
            rw [← hnf] at hfr ⊢
            obtain ⟨wb, hwb⟩ : ∃ wb, wb = (w.alloc (.cells #[.slice s.a1 M.mem.length s.c1, .slice s.a2 M.pend.length s.c2, .slice s.a3 M.tlb.length s.c3, .slice s.a4 M.wc.length s.c4] 36)).alloc (.cells #[.int .i64 4, .int .i64 A, .int .i64 Bb, .int .u64 0] 51) := ⟨_, rfl⟩
            have hbb : Below w.heap.size w wb := by rw [hwb]; exact ((Below.refl _ _).alloc (Nat.le_refl _) _).alloc (by simp) _
            have hzb : wb.heap.size = w.heap.size + 2 := by rw [hwb]; simp
            have HK : Hid (∀ wX, Below wb.heap.size wb wX → (wX.cell? ⟨w.heap.size, 0, none⟩ = some (.slice s.a1 M.mem.length s.c1) ∧ wX.cell? ⟨w.heap.size, 1, none⟩ = some (.slice s.a2 M.pend.length s.c2) ∧ wX.cell? ⟨w.heap.size, 2, none⟩ = some (.slice s.a3 M.tlb.length s.c3) ∧ wX.cell? ⟨w.heap.size, 3, none⟩ = some (.slice s.a4 M.wc.length s.c4)) ∧ (wX.cell? ⟨w.heap.size + 1, 1, none⟩ = some (.int .i64 A) ∧ wX.cell? ⟨w.heap.size + 1, 2, none⟩ = some (.int .i64 Bb))) := fun wX hX => by
              refine ⟨⟨?_, ?_, ?_, ?_⟩, ?_, ?_⟩
              iterate 6 (exact (hX.cell (by simp; omega)).trans (by rw [hwb]; simp [go_sem]))
            have HWB : Hid (wb = _) := hwb
            have HBB : Hid (Below w.heap.size w wb) := hbb
            clear e k1 k2 k3 dk1 dk2 dk3 hnf hwb hbb hzb
            by_cases h0 : 0 ≤ A
            · have d0 : decide (0 ≤ A) = true := by simpa using h0
              by_cases h1 : A < nf
              · have d1 : decide (A < nf) = true := by simpa using h1
                by_cases h2 : Bb = 0
                · have d2 : (Bb == 0) = true := by simpa using h2
                  rw [decide_eq_true (p := 0 ≤ A ∧ A < nf ∧ Bb = 0) (by omega)]
                  have D2 : Hid _ := d2
                  clear d2 h2
                  go_enter Tryz.func66, Tryz.ntmps66
                  go_wp2_with fail
                  rw [← HWB.out]
                  have d2 := D2.out
                  refine wp_region_held_drew (S := (fun wX => (wX.cell? ⟨w.heap.size, 0, none⟩ = some (.slice s.a1 M.mem.length s.c1) ∧ wX.cell? ⟨w.heap.size, 1, none⟩ = some (.slice s.a2 M.pend.length s.c2) ∧ wX.cell? ⟨w.heap.size, 2, none⟩ = some (.slice s.a3 M.tlb.length s.c3) ∧ wX.cell? ⟨w.heap.size, 3, none⟩ = some (.slice s.a4 M.wc.length s.c4)) ∧ (wX.cell? ⟨w.heap.size + 1, 1, none⟩ = some (.int .i64 A) ∧ wX.cell? ⟨w.heap.size + 1, 2, none⟩ = some (.int .i64 Bb)))) (by kernel_rfl) (HK.out _ ((Below.refl _ _).drew)) (fun hHeld => ?_)
                  refine wpAnyH_take (i := 0) (v := ?_) rfl (by kernel_rfl) (by kernel_rfl) (by kernel_rfl) (fun _ _ _ h => h) (Or.inl ⟨by rfl, ?_⟩) (by assumption) ?_
                  rotate_left
                  · (intro w hSw; (try dsimp only at hSw); go_simp; try with_reducible rfl)
                  simp only [Act.put, List.setIfInBounds_toArray, List.set_cons_zero, List.set_cons_succ, List.getElem_toArray, List.getElem_cons_zero]
                  refine wpAnyH_take (i := 1) (v := ?_) rfl (by kernel_rfl) (by kernel_rfl) (by kernel_rfl) (fun _ _ _ h => h) (Or.inl ⟨by rfl, ?_⟩) (by assumption) ?_
                  rotate_left
                  · (intro w hSw; (try dsimp only at hSw); go_simp; try with_reducible rfl)
                  simp only [Act.put, List.setIfInBounds_toArray, List.set_cons_zero, List.set_cons_succ, List.getElem_toArray, List.getElem_cons_zero, List.getElem_cons_succ]
                  refine wpAnyH_take (i := 2) (v := ?_) rfl (by kernel_rfl) (by kernel_rfl) (by kernel_rfl) (fun _ _ _ h => h) (Or.inl ⟨by rfl, ?_⟩) (by assumption) ?_
                  rotate_left
                  · (intro w hSw; (try dsimp only at hSw); go_simp; try with_reducible rfl)
                  simp only [Act.put, List.setIfInBounds_toArray, List.set_cons_zero, List.set_cons_succ, List.getElem_toArray, List.getElem_cons_zero, List.getElem_cons_succ]
                  refine wpAnyH_take (i := 3) (v := ?_) rfl (by kernel_rfl) (by kernel_rfl) (by kernel_rfl) (fun _ _ _ h => h) (Or.inl ⟨by rfl, ?_⟩) (by assumption) ?_
                  rotate_left
                  · (intro w hSw; (try dsimp only at hSw); go_simp; try with_reducible rfl)
                  simp only [Act.put, List.setIfInBounds_toArray, List.set_cons_zero, List.set_cons_succ, List.getElem_toArray, List.getElem_cons_zero, List.getElem_cons_succ]
                  refine wpAnyH_take (i := 4) (v := ?_) rfl (by kernel_rfl) (by kernel_rfl) (by kernel_rfl) (fun _ _ _ h => h) (Or.inl ⟨by rfl, ?_⟩) (by assumption) ?_
                  rotate_left
                  · (intro w hSw; (try dsimp only at hSw); go_simp; try with_reducible rfl)
                  simp only [Act.put, List.setIfInBounds_toArray, List.set_cons_zero, List.set_cons_succ, List.getElem_toArray, List.getElem_cons_zero, List.getElem_cons_succ]
                  refine wpAnyH_take (i := 5) (v := ?_) rfl (by kernel_rfl) (by kernel_rfl) (by kernel_rfl) (fun _ _ _ h => h) (Or.inl ⟨by rfl, ?_⟩) (by assumption) ?_
                  rotate_left
                  · (intro w hSw; (try dsimp only at hSw); go_simp; try with_reducible rfl)
                  simp only [Act.put, List.setIfInBounds_toArray, List.set_cons_zero, List.set_cons_succ, List.getElem_toArray, List.getElem_cons_zero, List.getElem_cons_succ]
                  refine wpAnyH_take (i := 6) (v := ?_) rfl (by kernel_rfl) (by kernel_rfl) (by kernel_rfl) (fun _ _ _ h => h) (Or.inl ⟨by rfl, ?_⟩) (by assumption) ?_
                  rotate_left
                  · (intro w hSw; (try dsimp only at hSw); go_simp; try with_reducible rfl)
                  simp only [Act.put, List.setIfInBounds_toArray, List.set_cons_zero, List.set_cons_succ, List.getElem_toArray, List.getElem_cons_zero, List.getElem_cons_succ]
                  refine wpAnyH_take (i := 7) (v := ?_) rfl (by kernel_rfl) (by kernel_rfl) (by kernel_rfl) (fun _ _ _ h => h) (Or.inl ⟨by rfl, ?_⟩) (by assumption) ?_
                  rotate_left
                  · (intro w hSw; (try dsimp only at hSw); go_simp; try with_reducible rfl)
                  simp only [Act.put, List.setIfInBounds_toArray, List.set_cons_zero, List.set_cons_succ, List.getElem_toArray, List.getElem_cons_zero, List.getElem_cons_succ]
                  refine wpAnyH_ready (rs := [8]) (by kernel_rfl) (by simp) ?_
                  refine AllReadyH.cons rfl (fun K hK => ?_) AllReadyH.nil
                  go_simp
                  go_at_call 86
                  refine (hfr _).mono ?_
                  rintro e w1 ⟨rfl, hb1⟩
                  go_wp2_with fail
                  refine hK.out _ _ (by refine HK.out _ ?_; exact (Below.refl _ _).drew.trans (hb1.mono (by simp))) (fun hHeld2 => ?_)
                  clear hK K
                  refine wpAnyH_take (i := 9) (v := ?_) rfl (by kernel_rfl) (by kernel_rfl) (by kernel_rfl) (fun _ _ _ h => h) (Or.inl ⟨by rfl, ?_⟩) (by assumption) ?_
                  rotate_left
                  · (intro w hSw; (try dsimp only at hSw); go_simp; try with_reducible rfl)
                  simp only [Act.put, List.setIfInBounds_toArray, List.set_cons_zero, List.set_cons_succ, List.getElem_toArray, List.getElem_cons_zero, List.getElem_cons_succ]
                  refine wpAnyH_take (i := 10) (v := ?_) rfl (by kernel_rfl) (by kernel_rfl) (by kernel_rfl) (fun _ _ _ h => h) (Or.inl ⟨by rfl, ?_⟩) (by assumption) ?_
                  rotate_left
                  · (intro w hSw; (try dsimp only at hSw); go_simp; try with_reducible rfl)
                  simp only [Act.put, List.setIfInBounds_toArray, List.set_cons_zero, List.set_cons_succ, List.getElem_toArray, List.getElem_cons_zero, List.getElem_cons_succ]
                  refine wpAnyH_take (i := 11) (v := ?_) rfl (by kernel_rfl) (by kernel_rfl) (by kernel_rfl) (fun _ _ _ h => h) (Or.inl ⟨by rfl, ?_⟩) (by assumption) ?_
                  rotate_left
                  · (intro w hSw; (try dsimp only at hSw); go_simp; try with_reducible rfl)
                  simp only [Act.put, List.setIfInBounds_toArray, List.set_cons_zero, List.set_cons_succ, List.getElem_toArray, List.getElem_cons_zero, List.getElem_cons_succ]
                  refine wpAnyH_take (i := 12) (v := ?_) rfl (by kernel_rfl) (by kernel_rfl) (by kernel_rfl) (fun _ _ _ h => h) (Or.inl ⟨by rfl, ?_⟩) (by assumption) ?_
                  rotate_left
                  · (intro w hSw; (try dsimp only at hSw); go_simp; try with_reducible rfl)
                  simp only [Act.put, List.setIfInBounds_toArray, List.set_cons_zero, List.set_cons_succ, List.getElem_toArray, List.getElem_cons_zero, List.getElem_cons_succ]
                  refine wpAnyH_take (i := 13) (v := ?_) rfl (by kernel_rfl) (by kernel_rfl) (by kernel_rfl) (fun _ _ _ h => h) (Or.inl ⟨by rfl, ?_⟩) (by assumption) ?_
                  rotate_left
                  · (intro w hSw; (try dsimp only at hSw); go_simp; try with_reducible rfl)
                  simp only [Act.put, List.setIfInBounds_toArray, List.set_cons_zero, List.set_cons_succ, List.getElem_toArray, List.getElem_cons_zero, List.getElem_cons_succ]
                  refine wpAnyH_take (i := 14) (v := ?_) rfl (by kernel_rfl) (by kernel_rfl) (by kernel_rfl) (fun _ _ _ h => h) (Or.inl ⟨by rfl, ?_⟩) (by assumption) ?_
                  rotate_left
                  · (intro w hSw; (try dsimp only at hSw); go_simp; try with_reducible rfl)
                  simp only [Act.put, List.setIfInBounds_toArray, List.set_cons_zero, List.set_cons_succ, List.getElem_toArray, List.getElem_cons_zero, List.getElem_cons_succ]
                  refine wpAnyH_take (i := 15) (v := ?_) rfl (by kernel_rfl) (by kernel_rfl) (by kernel_rfl) (fun _ _ _ h => h) (Or.inl ⟨by rfl, ?_⟩) (by assumption) ?_
                  rotate_left
                  · (intro w hSw; (try dsimp only at hSw); go_simp; try with_reducible rfl)
                  simp only [Act.put, List.setIfInBounds_toArray, List.set_cons_zero, List.set_cons_succ, List.getElem_toArray, List.getElem_cons_zero, List.getElem_cons_succ]
                  refine wpAnyH_take (i := 16) (v := ?_) rfl (by kernel_rfl) (by kernel_rfl) (by kernel_rfl) (fun _ _ _ h => h) (Or.inl ⟨by rfl, ?_⟩) (by assumption) ?_
                  rotate_left
                  · (intro w hSw; (try dsimp only at hSw); go_simp; try with_reducible rfl)
                  simp only [Act.put, List.setIfInBounds_toArray, List.set_cons_zero, List.set_cons_succ, List.getElem_toArray, List.getElem_cons_zero, List.getElem_cons_succ]
                  refine wpAnyH_done (by kernel_rfl) ?_ _
                  go_wp2_with fail
                  go_ret
                  refine ⟨by first | rfl | simp, HBB.out.trans (Below.mono ?_ HBB.out.size)⟩
                  exact (Below.refl _ _).drew.trans (hb1.mono (by simp))
                · have d2 : (Bb == 0) = false := by simpa using h2
                  rw [decide_eq_false (p := 0 ≤ A ∧ A < nf ∧ Bb = 0) (fun h => h2 (by omega))]
                  clear h2
                  have D2 : Hid _ := d2
                  clear d2
                  go_enter Tryz.func66, Tryz.ntmps66
                  go_wp2_with fail
                  rw [← HWB.out]
                  have d2 := D2.out
                  refine wp_region_held_drew (S := (fun wX => (wX.cell? ⟨w.heap.size, 0, none⟩ = some (.slice s.a1 M.mem.length s.c1) ∧ wX.cell? ⟨w.heap.size, 1, none⟩ = some (.slice s.a2 M.pend.length s.c2) ∧ wX.cell? ⟨w.heap.size, 2, none⟩ = some (.slice s.a3 M.tlb.length s.c3) ∧ wX.cell? ⟨w.heap.size, 3, none⟩ = some (.slice s.a4 M.wc.length s.c4)) ∧ (wX.cell? ⟨w.heap.size + 1, 1, none⟩ = some (.int .i64 A) ∧ wX.cell? ⟨w.heap.size + 1, 2, none⟩ = some (.int .i64 Bb)))) (by kernel_rfl) (HK.out _ ((Below.refl _ _).drew)) (fun hHeld => ?_)
                  refine wpAnyH_take (i := 0) (v := ?_) rfl (by kernel_rfl) (by kernel_rfl) (by kernel_rfl) (fun _ _ _ h => h) (Or.inl ⟨by rfl, ?_⟩) (by assumption) ?_
                  rotate_left
                  · (intro w hSw; (try dsimp only at hSw); go_simp; try with_reducible rfl)
                  simp only [Act.put, List.setIfInBounds_toArray, List.set_cons_zero, List.set_cons_succ, List.getElem_toArray, List.getElem_cons_zero]
                  refine wpAnyH_take (i := 1) (v := ?_) rfl (by kernel_rfl) (by kernel_rfl) (by kernel_rfl) (fun _ _ _ h => h) (Or.inl ⟨by rfl, ?_⟩) (by assumption) ?_
                  rotate_left
                  · (intro w hSw; (try dsimp only at hSw); go_simp; try with_reducible rfl)
                  simp only [Act.put, List.setIfInBounds_toArray, List.set_cons_zero, List.set_cons_succ, List.getElem_toArray, List.getElem_cons_zero, List.getElem_cons_succ]
                  refine wpAnyH_take (i := 2) (v := ?_) rfl (by kernel_rfl) (by kernel_rfl) (by kernel_rfl) (fun _ _ _ h => h) (Or.inl ⟨by rfl, ?_⟩) (by assumption) ?_
                  rotate_left
                  · (intro w hSw; (try dsimp only at hSw); go_simp; try with_reducible rfl)
                  simp only [Act.put, List.setIfInBounds_toArray, List.set_cons_zero, List.set_cons_succ, List.getElem_toArray, List.getElem_cons_zero, List.getElem_cons_succ]
                  refine wpAnyH_take (i := 3) (v := ?_) rfl (by kernel_rfl) (by kernel_rfl) (by kernel_rfl) (fun _ _ _ h => h) (Or.inl ⟨by rfl, ?_⟩) (by assumption) ?_
                  rotate_left
                  · (intro w hSw; (try dsimp only at hSw); go_simp; try with_reducible rfl)
                  simp only [Act.put, List.setIfInBounds_toArray, List.set_cons_zero, List.set_cons_succ, List.getElem_toArray, List.getElem_cons_zero, List.getElem_cons_succ]
                  refine wpAnyH_take (i := 4) (v := ?_) rfl (by kernel_rfl) (by kernel_rfl) (by kernel_rfl) (fun _ _ _ h => h) (Or.inl ⟨by rfl, ?_⟩) (by assumption) ?_
                  rotate_left
                  · (intro w hSw; (try dsimp only at hSw); go_simp; try with_reducible rfl)
                  simp only [Act.put, List.setIfInBounds_toArray, List.set_cons_zero, List.set_cons_succ, List.getElem_toArray, List.getElem_cons_zero, List.getElem_cons_succ]
                  refine wpAnyH_take (i := 5) (v := ?_) rfl (by kernel_rfl) (by kernel_rfl) (by kernel_rfl) (fun _ _ _ h => h) (Or.inl ⟨by rfl, ?_⟩) (by assumption) ?_
                  rotate_left
                  · (intro w hSw; (try dsimp only at hSw); go_simp; try with_reducible rfl)
                  simp only [Act.put, List.setIfInBounds_toArray, List.set_cons_zero, List.set_cons_succ, List.getElem_toArray, List.getElem_cons_zero, List.getElem_cons_succ]
                  refine wpAnyH_take (i := 6) (v := ?_) rfl (by kernel_rfl) (by kernel_rfl) (by kernel_rfl) (fun _ _ _ h => h) (Or.inl ⟨by rfl, ?_⟩) (by assumption) ?_
                  rotate_left
                  · (intro w hSw; (try dsimp only at hSw); go_simp; try with_reducible rfl)
                  simp only [Act.put, List.setIfInBounds_toArray, List.set_cons_zero, List.set_cons_succ, List.getElem_toArray, List.getElem_cons_zero, List.getElem_cons_succ]
                  refine wpAnyH_take (i := 7) (v := ?_) rfl (by kernel_rfl) (by kernel_rfl) (by kernel_rfl) (fun _ _ _ h => h) (Or.inl ⟨by rfl, ?_⟩) (by assumption) ?_
                  rotate_left
                  · (intro w hSw; (try dsimp only at hSw); go_simp; try with_reducible rfl)
                  simp only [Act.put, List.setIfInBounds_toArray, List.set_cons_zero, List.set_cons_succ, List.getElem_toArray, List.getElem_cons_zero, List.getElem_cons_succ]
                  refine wpAnyH_ready (rs := [8]) (by kernel_rfl) (by simp) ?_
                  refine AllReadyH.cons rfl (fun K hK => ?_) AllReadyH.nil
                  go_simp
                  go_at_call 86
                  refine (hfr _).mono ?_
                  rintro e w1 ⟨rfl, hb1⟩
                  go_wp2_with fail
                  refine hK.out _ _ (by refine HK.out _ ?_; exact (Below.refl _ _).drew.trans (hb1.mono (by simp))) (fun hHeld2 => ?_)
                  clear hK K
                  refine wpAnyH_take (i := 9) (v := ?_) rfl (by kernel_rfl) (by kernel_rfl) (by kernel_rfl) (fun _ _ _ h => h) (Or.inl ⟨by rfl, ?_⟩) (by assumption) ?_
                  rotate_left
                  · (intro w hSw; (try dsimp only at hSw); go_simp; try with_reducible rfl)
                  simp only [Act.put, List.setIfInBounds_toArray, List.set_cons_zero, List.set_cons_succ, List.getElem_toArray, List.getElem_cons_zero, List.getElem_cons_succ]
                  refine wpAnyH_take (i := 10) (v := ?_) rfl (by kernel_rfl) (by kernel_rfl) (by kernel_rfl) (fun _ _ _ h => h) (Or.inl ⟨by rfl, ?_⟩) (by assumption) ?_
                  rotate_left
                  · (intro w hSw; (try dsimp only at hSw); go_simp; try with_reducible rfl)
                  simp only [Act.put, List.setIfInBounds_toArray, List.set_cons_zero, List.set_cons_succ, List.getElem_toArray, List.getElem_cons_zero, List.getElem_cons_succ]
                  refine wpAnyH_take (i := 11) (v := ?_) rfl (by kernel_rfl) (by kernel_rfl) (by kernel_rfl) (fun _ _ _ h => h) (Or.inl ⟨by rfl, ?_⟩) (by assumption) ?_
                  rotate_left
                  · (intro w hSw; (try dsimp only at hSw); go_simp; try with_reducible rfl)
                  simp only [Act.put, List.setIfInBounds_toArray, List.set_cons_zero, List.set_cons_succ, List.getElem_toArray, List.getElem_cons_zero, List.getElem_cons_succ]
                  refine wpAnyH_take (i := 12) (v := ?_) rfl (by kernel_rfl) (by kernel_rfl) (by kernel_rfl) (fun _ _ _ h => h) (Or.inl ⟨by rfl, ?_⟩) (by assumption) ?_
                  rotate_left
                  · (intro w hSw; (try dsimp only at hSw); go_simp; try with_reducible rfl)
                  simp only [Act.put, List.setIfInBounds_toArray, List.set_cons_zero, List.set_cons_succ, List.getElem_toArray, List.getElem_cons_zero, List.getElem_cons_succ]
                  refine wpAnyH_take (i := 13) (v := ?_) rfl (by kernel_rfl) (by kernel_rfl) (by kernel_rfl) (fun _ _ _ h => h) (Or.inl ⟨by rfl, ?_⟩) (by assumption) ?_
                  rotate_left
                  · (intro w hSw; (try dsimp only at hSw); go_simp; try with_reducible rfl)
                  simp only [Act.put, List.setIfInBounds_toArray, List.set_cons_zero, List.set_cons_succ, List.getElem_toArray, List.getElem_cons_zero, List.getElem_cons_succ]
                  refine wpAnyH_take (i := 14) (v := ?_) rfl (by kernel_rfl) (by kernel_rfl) (by kernel_rfl) (fun _ _ _ h => h) (Or.inl ⟨by rfl, ?_⟩) (by assumption) ?_
                  rotate_left
                  · (intro w hSw; (try dsimp only at hSw); go_simp; try with_reducible rfl)
                  simp only [Act.put, List.setIfInBounds_toArray, List.set_cons_zero, List.set_cons_succ, List.getElem_toArray, List.getElem_cons_zero, List.getElem_cons_succ]
                  refine wpAnyH_take (i := 15) (v := ?_) rfl (by kernel_rfl) (by kernel_rfl) (by kernel_rfl) (fun _ _ _ h => h) (Or.inl ⟨by rfl, ?_⟩) (by assumption) ?_
                  rotate_left
                  · (intro w hSw; (try dsimp only at hSw); go_simp; try with_reducible rfl)
                  simp only [Act.put, List.setIfInBounds_toArray, List.set_cons_zero, List.set_cons_succ, List.getElem_toArray, List.getElem_cons_zero, List.getElem_cons_succ]
                  refine wpAnyH_take (i := 16) (v := ?_) rfl (by kernel_rfl) (by kernel_rfl) (by kernel_rfl) (fun _ _ _ h => h) (Or.inl ⟨by rfl, ?_⟩) (by assumption) ?_
                  rotate_left
                  · (intro w hSw; (try dsimp only at hSw); go_simp; try with_reducible rfl)
                  simp only [Act.put, List.setIfInBounds_toArray, List.set_cons_zero, List.set_cons_succ, List.getElem_toArray, List.getElem_cons_zero, List.getElem_cons_succ]
                  refine wpAnyH_done (by kernel_rfl) ?_ _
                  go_wp2_with fail
                  go_ret
                  refine ⟨by first | rfl | simp, HBB.out.trans (Below.mono ?_ HBB.out.size)⟩
                  exact (Below.refl _ _).drew.trans (hb1.mono (by simp))
              · have d1 : decide (A < nf) = false := by simpa using h1
                rw [decide_eq_false (p := 0 ≤ A ∧ A < nf ∧ Bb = 0) (fun h => h1 (by omega))]
                clear h1
                go_enter Tryz.func66, Tryz.ntmps66
                go_wp2_with fail
                rw [← HWB.out]
                refine wp_region_held_drew (S := (fun wX => (wX.cell? ⟨w.heap.size, 0, none⟩ = some (.slice s.a1 M.mem.length s.c1) ∧ wX.cell? ⟨w.heap.size, 1, none⟩ = some (.slice s.a2 M.pend.length s.c2) ∧ wX.cell? ⟨w.heap.size, 2, none⟩ = some (.slice s.a3 M.tlb.length s.c3) ∧ wX.cell? ⟨w.heap.size, 3, none⟩ = some (.slice s.a4 M.wc.length s.c4)) ∧ (wX.cell? ⟨w.heap.size + 1, 1, none⟩ = some (.int .i64 A) ∧ wX.cell? ⟨w.heap.size + 1, 2, none⟩ = some (.int .i64 Bb)))) (by kernel_rfl) (HK.out _ ((Below.refl _ _).drew)) (fun hHeld => ?_)
                refine wpAnyH_take (i := 0) (v := ?_) rfl (by kernel_rfl) (by kernel_rfl) (by kernel_rfl) (fun _ _ _ h => h) (Or.inl ⟨by rfl, ?_⟩) (by assumption) ?_
                rotate_left
                · (intro w hSw; (try dsimp only at hSw); go_simp; try with_reducible rfl)
                simp only [Act.put, List.setIfInBounds_toArray, List.set_cons_zero, List.set_cons_succ, List.getElem_toArray, List.getElem_cons_zero]
                refine wpAnyH_take (i := 1) (v := ?_) rfl (by kernel_rfl) (by kernel_rfl) (by kernel_rfl) (fun _ _ _ h => h) (Or.inl ⟨by rfl, ?_⟩) (by assumption) ?_
                rotate_left
                · (intro w hSw; (try dsimp only at hSw); go_simp; try with_reducible rfl)
                simp only [Act.put, List.setIfInBounds_toArray, List.set_cons_zero, List.set_cons_succ, List.getElem_toArray, List.getElem_cons_zero, List.getElem_cons_succ]
                refine wpAnyH_take (i := 2) (v := ?_) rfl (by kernel_rfl) (by kernel_rfl) (by kernel_rfl) (fun _ _ _ h => h) (Or.inl ⟨by rfl, ?_⟩) (by assumption) ?_
                rotate_left
                · (intro w hSw; (try dsimp only at hSw); go_simp; try with_reducible rfl)
                simp only [Act.put, List.setIfInBounds_toArray, List.set_cons_zero, List.set_cons_succ, List.getElem_toArray, List.getElem_cons_zero, List.getElem_cons_succ]
                refine wpAnyH_take (i := 3) (v := ?_) rfl (by kernel_rfl) (by kernel_rfl) (by kernel_rfl) (fun _ _ _ h => h) (Or.inl ⟨by rfl, ?_⟩) (by assumption) ?_
                rotate_left
                · (intro w hSw; (try dsimp only at hSw); go_simp; try with_reducible rfl)
                simp only [Act.put, List.setIfInBounds_toArray, List.set_cons_zero, List.set_cons_succ, List.getElem_toArray, List.getElem_cons_zero, List.getElem_cons_succ]
                refine wpAnyH_take (i := 4) (v := ?_) rfl (by kernel_rfl) (by kernel_rfl) (by kernel_rfl) (fun _ _ _ h => h) (Or.inl ⟨by rfl, ?_⟩) (by assumption) ?_
                rotate_left
                · (intro w hSw; (try dsimp only at hSw); go_simp; try with_reducible rfl)
                simp only [Act.put, List.setIfInBounds_toArray, List.set_cons_zero, List.set_cons_succ, List.getElem_toArray, List.getElem_cons_zero, List.getElem_cons_succ]
                refine wpAnyH_take (i := 5) (v := ?_) rfl (by kernel_rfl) (by kernel_rfl) (by kernel_rfl) (fun _ _ _ h => h) (Or.inl ⟨by rfl, ?_⟩) (by assumption) ?_
                rotate_left
                · (intro w hSw; (try dsimp only at hSw); go_simp; try with_reducible rfl)
                simp only [Act.put, List.setIfInBounds_toArray, List.set_cons_zero, List.set_cons_succ, List.getElem_toArray, List.getElem_cons_zero, List.getElem_cons_succ]
                refine wpAnyH_take (i := 6) (v := ?_) rfl (by kernel_rfl) (by kernel_rfl) (by kernel_rfl) (fun _ _ _ h => h) (Or.inl ⟨by rfl, ?_⟩) (by assumption) ?_
                rotate_left
                · (intro w hSw; (try dsimp only at hSw); go_simp; try with_reducible rfl)
                simp only [Act.put, List.setIfInBounds_toArray, List.set_cons_zero, List.set_cons_succ, List.getElem_toArray, List.getElem_cons_zero, List.getElem_cons_succ]
                refine wpAnyH_take (i := 7) (v := ?_) rfl (by kernel_rfl) (by kernel_rfl) (by kernel_rfl) (fun _ _ _ h => h) (Or.inl ⟨by rfl, ?_⟩) (by assumption) ?_
                rotate_left
                · (intro w hSw; (try dsimp only at hSw); go_simp; try with_reducible rfl)
                simp only [Act.put, List.setIfInBounds_toArray, List.set_cons_zero, List.set_cons_succ, List.getElem_toArray, List.getElem_cons_zero, List.getElem_cons_succ]
                refine wpAnyH_ready (rs := [8]) (by kernel_rfl) (by simp) ?_
                refine AllReadyH.cons rfl (fun K hK => ?_) AllReadyH.nil
                go_simp
                go_at_call 86
                refine (hfr _).mono ?_
                rintro e w1 ⟨rfl, hb1⟩
                go_wp2_with fail
                refine hK.out _ _ (by refine HK.out _ ?_; exact (Below.refl _ _).drew.trans (hb1.mono (by simp))) (fun hHeld2 => ?_)
                clear hK K
                refine wpAnyH_take (i := 9) (v := ?_) rfl (by kernel_rfl) (by kernel_rfl) (by kernel_rfl) (fun _ _ _ h => h) (Or.inl ⟨by rfl, ?_⟩) (by assumption) ?_
                rotate_left
                · (intro w hSw; (try dsimp only at hSw); go_simp; try with_reducible rfl)
                simp only [Act.put, List.setIfInBounds_toArray, List.set_cons_zero, List.set_cons_succ, List.getElem_toArray, List.getElem_cons_zero, List.getElem_cons_succ]
                refine wpAnyH_take (i := 10) (v := ?_) rfl (by kernel_rfl) (by kernel_rfl) (by kernel_rfl) (fun _ _ _ h => h) (Or.inl ⟨by rfl, ?_⟩) (by assumption) ?_
                rotate_left
                · (intro w hSw; (try dsimp only at hSw); go_simp; try with_reducible rfl)
                simp only [Act.put, List.setIfInBounds_toArray, List.set_cons_zero, List.set_cons_succ, List.getElem_toArray, List.getElem_cons_zero, List.getElem_cons_succ]
                refine wpAnyH_take (i := 11) (v := ?_) rfl (by kernel_rfl) (by kernel_rfl) (by kernel_rfl) (fun _ _ _ h => h) (Or.inl ⟨by rfl, ?_⟩) (by assumption) ?_
                rotate_left
                · (intro w hSw; (try dsimp only at hSw); go_simp; try with_reducible rfl)
                simp only [Act.put, List.setIfInBounds_toArray, List.set_cons_zero, List.set_cons_succ, List.getElem_toArray, List.getElem_cons_zero, List.getElem_cons_succ]
                refine wpAnyH_take (i := 12) rfl (by kernel_rfl) (by kernel_rfl) (by kernel_rfl) (fun _ _ _ h => h) (Or.inr ⟨by rfl, rfl⟩) (by assumption) ?_
                simp only [Act.put, List.setIfInBounds_toArray, List.set_cons_zero, List.set_cons_succ, List.getElem_toArray, List.getElem_cons_zero, List.getElem_cons_succ]
                refine wpAnyH_take (i := 13) rfl (by kernel_rfl) (by kernel_rfl) (by kernel_rfl) (fun _ _ _ h => h) (Or.inr ⟨by rfl, rfl⟩) (by assumption) ?_
                simp only [Act.put, List.setIfInBounds_toArray, List.set_cons_zero, List.set_cons_succ, List.getElem_toArray, List.getElem_cons_zero, List.getElem_cons_succ]
                refine wpAnyH_take (i := 14) rfl (by kernel_rfl) (by kernel_rfl) (by kernel_rfl) (fun _ _ _ h => h) (Or.inr ⟨by rfl, rfl⟩) (by assumption) ?_
                simp only [Act.put, List.setIfInBounds_toArray, List.set_cons_zero, List.set_cons_succ, List.getElem_toArray, List.getElem_cons_zero, List.getElem_cons_succ]
                refine wpAnyH_take (i := 15) (v := ?_) rfl (by kernel_rfl) (by kernel_rfl) (by kernel_rfl) (fun _ _ _ h => h) (Or.inl ⟨by rfl, ?_⟩) (by assumption) ?_
                rotate_left
                · (intro w hSw; (try dsimp only at hSw); go_simp; try with_reducible rfl)
                simp only [Act.put, List.setIfInBounds_toArray, List.set_cons_zero, List.set_cons_succ, List.getElem_toArray, List.getElem_cons_zero, List.getElem_cons_succ]
                refine wpAnyH_take (i := 16) (v := ?_) rfl (by kernel_rfl) (by kernel_rfl) (by kernel_rfl) (fun _ _ _ h => h) (Or.inl ⟨by rfl, ?_⟩) (by assumption) ?_
                rotate_left
                · (intro w hSw; (try dsimp only at hSw); go_simp; try with_reducible rfl)
                simp only [Act.put, List.setIfInBounds_toArray, List.set_cons_zero, List.set_cons_succ, List.getElem_toArray, List.getElem_cons_zero, List.getElem_cons_succ]
                refine wpAnyH_done (by kernel_rfl) ?_ _
                go_wp2_with fail
                go_ret
                refine ⟨by first | rfl | simp, HBB.out.trans (Below.mono ?_ HBB.out.size)⟩
                exact (Below.refl _ _).drew.trans (hb1.mono (by simp))
            · have d0 : decide (0 ≤ A) = false := by simpa using h0
              rw [decide_eq_false (p := 0 ≤ A ∧ A < nf ∧ Bb = 0) (fun h => h0 (by omega))]
              clear h0
              go_enter Tryz.func66, Tryz.ntmps66
              go_wp2_with fail
              rw [← HWB.out]
              refine wp_region_held_drew (S := (fun wX => (wX.cell? ⟨w.heap.size, 0, none⟩ = some (.slice s.a1 M.mem.length s.c1) ∧ wX.cell? ⟨w.heap.size, 1, none⟩ = some (.slice s.a2 M.pend.length s.c2) ∧ wX.cell? ⟨w.heap.size, 2, none⟩ = some (.slice s.a3 M.tlb.length s.c3) ∧ wX.cell? ⟨w.heap.size, 3, none⟩ = some (.slice s.a4 M.wc.length s.c4)) ∧ (wX.cell? ⟨w.heap.size + 1, 1, none⟩ = some (.int .i64 A) ∧ wX.cell? ⟨w.heap.size + 1, 2, none⟩ = some (.int .i64 Bb)))) (by kernel_rfl) (HK.out _ ((Below.refl _ _).drew)) (fun hHeld => ?_)
              refine wpAnyH_take (i := 0) (v := ?_) rfl (by kernel_rfl) (by kernel_rfl) (by kernel_rfl) (fun _ _ _ h => h) (Or.inl ⟨by rfl, ?_⟩) (by assumption) ?_
              rotate_left
              · (intro w hSw; (try dsimp only at hSw); go_simp; try with_reducible rfl)
              simp only [Act.put, List.setIfInBounds_toArray, List.set_cons_zero, List.set_cons_succ, List.getElem_toArray, List.getElem_cons_zero]
              refine wpAnyH_take (i := 1) (v := ?_) rfl (by kernel_rfl) (by kernel_rfl) (by kernel_rfl) (fun _ _ _ h => h) (Or.inl ⟨by rfl, ?_⟩) (by assumption) ?_
              rotate_left
              · (intro w hSw; (try dsimp only at hSw); go_simp; try with_reducible rfl)
              simp only [Act.put, List.setIfInBounds_toArray, List.set_cons_zero, List.set_cons_succ, List.getElem_toArray, List.getElem_cons_zero, List.getElem_cons_succ]
              refine wpAnyH_take (i := 2) (v := ?_) rfl (by kernel_rfl) (by kernel_rfl) (by kernel_rfl) (fun _ _ _ h => h) (Or.inl ⟨by rfl, ?_⟩) (by assumption) ?_
              rotate_left
              · (intro w hSw; (try dsimp only at hSw); go_simp; try with_reducible rfl)
              simp only [Act.put, List.setIfInBounds_toArray, List.set_cons_zero, List.set_cons_succ, List.getElem_toArray, List.getElem_cons_zero, List.getElem_cons_succ]
              refine wpAnyH_take (i := 3) (v := ?_) rfl (by kernel_rfl) (by kernel_rfl) (by kernel_rfl) (fun _ _ _ h => h) (Or.inl ⟨by rfl, ?_⟩) (by assumption) ?_
              rotate_left
              · (intro w hSw; (try dsimp only at hSw); go_simp; try with_reducible rfl)
              simp only [Act.put, List.setIfInBounds_toArray, List.set_cons_zero, List.set_cons_succ, List.getElem_toArray, List.getElem_cons_zero, List.getElem_cons_succ]
              refine wpAnyH_take (i := 4) rfl (by kernel_rfl) (by kernel_rfl) (by kernel_rfl) (fun _ _ _ h => h) (Or.inr ⟨by rfl, rfl⟩) (by assumption) ?_
              simp only [Act.put, List.setIfInBounds_toArray, List.set_cons_zero, List.set_cons_succ, List.getElem_toArray, List.getElem_cons_zero, List.getElem_cons_succ]
              refine wpAnyH_take (i := 5) rfl (by kernel_rfl) (by kernel_rfl) (by kernel_rfl) (fun _ _ _ h => h) (Or.inr ⟨by rfl, rfl⟩) (by assumption) ?_
              simp only [Act.put, List.setIfInBounds_toArray, List.set_cons_zero, List.set_cons_succ, List.getElem_toArray, List.getElem_cons_zero, List.getElem_cons_succ]
              refine wpAnyH_take (i := 6) rfl (by kernel_rfl) (by kernel_rfl) (by kernel_rfl) (fun _ _ _ h => h) (Or.inr ⟨by rfl, rfl⟩) (by assumption) ?_
              simp only [Act.put, List.setIfInBounds_toArray, List.set_cons_zero, List.set_cons_succ, List.getElem_toArray, List.getElem_cons_zero, List.getElem_cons_succ]
              refine wpAnyH_take (i := 7) rfl (by kernel_rfl) (by kernel_rfl) (by kernel_rfl) (fun _ _ _ h => h) (Or.inr ⟨by rfl, rfl⟩) (by assumption) ?_
              simp only [Act.put, List.setIfInBounds_toArray, List.set_cons_zero, List.set_cons_succ, List.getElem_toArray, List.getElem_cons_zero, List.getElem_cons_succ]
              refine wpAnyH_take (i := 8) rfl (by kernel_rfl) (by kernel_rfl) (by kernel_rfl) (fun _ _ _ h => h) (Or.inr ⟨by rfl, rfl⟩) (by assumption) ?_
              simp only [Act.put, List.setIfInBounds_toArray, List.set_cons_zero, List.set_cons_succ, List.getElem_toArray, List.getElem_cons_zero, List.getElem_cons_succ]
              refine wpAnyH_take (i := 9) rfl (by kernel_rfl) (by kernel_rfl) (by kernel_rfl) (fun _ _ _ h => h) (Or.inr ⟨by rfl, rfl⟩) (by assumption) ?_
              simp only [Act.put, List.setIfInBounds_toArray, List.set_cons_zero, List.set_cons_succ, List.getElem_toArray, List.getElem_cons_zero, List.getElem_cons_succ]
              refine wpAnyH_take (i := 10) (v := ?_) rfl (by kernel_rfl) (by kernel_rfl) (by kernel_rfl) (fun _ _ _ h => h) (Or.inl ⟨by rfl, ?_⟩) (by assumption) ?_
              rotate_left
              · (intro w hSw; (try dsimp only at hSw); go_simp; try with_reducible rfl)
              simp only [Act.put, List.setIfInBounds_toArray, List.set_cons_zero, List.set_cons_succ, List.getElem_toArray, List.getElem_cons_zero, List.getElem_cons_succ]
              refine wpAnyH_take (i := 11) (v := ?_) rfl (by kernel_rfl) (by kernel_rfl) (by kernel_rfl) (fun _ _ _ h => h) (Or.inl ⟨by rfl, ?_⟩) (by assumption) ?_
              rotate_left
              · (intro w hSw; (try dsimp only at hSw); go_simp; try with_reducible rfl)
              simp only [Act.put, List.setIfInBounds_toArray, List.set_cons_zero, List.set_cons_succ, List.getElem_toArray, List.getElem_cons_zero, List.getElem_cons_succ]
              refine wpAnyH_take (i := 12) rfl (by kernel_rfl) (by kernel_rfl) (by kernel_rfl) (fun _ _ _ h => h) (Or.inr ⟨by rfl, rfl⟩) (by assumption) ?_
              simp only [Act.put, List.setIfInBounds_toArray, List.set_cons_zero, List.set_cons_succ, List.getElem_toArray, List.getElem_cons_zero, List.getElem_cons_succ]
              refine wpAnyH_take (i := 13) rfl (by kernel_rfl) (by kernel_rfl) (by kernel_rfl) (fun _ _ _ h => h) (Or.inr ⟨by rfl, rfl⟩) (by assumption) ?_
              simp only [Act.put, List.setIfInBounds_toArray, List.set_cons_zero, List.set_cons_succ, List.getElem_toArray, List.getElem_cons_zero, List.getElem_cons_succ]
              refine wpAnyH_take (i := 14) rfl (by kernel_rfl) (by kernel_rfl) (by kernel_rfl) (fun _ _ _ h => h) (Or.inr ⟨by rfl, rfl⟩) (by assumption) ?_
              simp only [Act.put, List.setIfInBounds_toArray, List.set_cons_zero, List.set_cons_succ, List.getElem_toArray, List.getElem_cons_zero, List.getElem_cons_succ]
              refine wpAnyH_take (i := 15) (v := ?_) rfl (by kernel_rfl) (by kernel_rfl) (by kernel_rfl) (fun _ _ _ h => h) (Or.inl ⟨by rfl, ?_⟩) (by assumption) ?_
              rotate_left
              · (intro w hSw; (try dsimp only at hSw); go_simp; try with_reducible rfl)
              simp only [Act.put, List.setIfInBounds_toArray, List.set_cons_zero, List.set_cons_succ, List.getElem_toArray, List.getElem_cons_zero, List.getElem_cons_succ]
              refine wpAnyH_take (i := 16) (v := ?_) rfl (by kernel_rfl) (by kernel_rfl) (by kernel_rfl) (fun _ _ _ h => h) (Or.inl ⟨by rfl, ?_⟩) (by assumption) ?_
              rotate_left
              · (intro w hSw; (try dsimp only at hSw); go_simp; try with_reducible rfl)
              simp only [Act.put, List.setIfInBounds_toArray, List.set_cons_zero, List.set_cons_succ, List.getElem_toArray, List.getElem_cons_zero, List.getElem_cons_succ]
              refine wpAnyH_done (by kernel_rfl) ?_ _
              go_wp2_with fail
              go_ret
              refine ⟨by first | rfl | simp, HBB.out.trans (Below.mono ?_ HBB.out.size)⟩
              exact (Below.refl _ _).drew
          · have dk4 : (K == 4) = false := by simpa using k4
            have e : opB M ⟨K, A, Bb, 0⟩ = false := by unfold opB; rw [if_neg k1, if_neg k2, if_neg k3, if_neg k4]
            rw [e]
            clear e k1 k2 k3 k4
            go_enter Tryz.func66, Tryz.ntmps66
            go_wp2_with fail
            go_ret
            exact ⟨by first | rfl | simp, ((Below.refl _ _).alloc (Nat.le_refl _) _).alloc (by simp) _⟩
    · have dW : (W != 0) = true := by simpa using hW
      have e : opB M ⟨K, A, Bb, W⟩ = false := by
        unfold opB
        rw [if_neg k1]
        split
        · exact decide_eq_false (fun hh => hW hh.2.2)
        · split
          · exact decide_eq_false (fun hh => hW hh.2.2.2.2)
          · split
            · exact decide_eq_false (fun hh => hW hh.2.2.2)
            · rfl
      rw [e]
      clear e k1 hW
      go_enter Tryz.func66, Tryz.ntmps66
      go_wp2_with fail
      go_ret
      exact ⟨by first | rfl | simp, ((Below.refl _ _).alloc (Nat.le_refl _) _).alloc (by simp) _⟩

theorem MRow.memc {w : World} {b : Nat} {s : SV} {M : Mach} (h : MRow w b (s.mv M) M) (h0 : 0 < M.mem.length) : ∃ g, s.a1 = some ⟨g, 0, none⟩ ∧ CRow w g M.mem := by
  have h1 : ERow eWord w b (.slice s.a1 M.mem.length s.c1) M.mem := h.w
  obtain ⟨g, e, hc, _⟩ := eWord_c h1 h0
  exact ⟨g, e, hc⟩

set_option maxRecDepth 100000 in
set_option maxHeartbeats 4000000 in
theorem inUseS_any (s : SV) (M : Mach) (b : Nat) (f : Int) (w : World) (hs : M.Small) (hok : WOk M) (hv : validB M = true) (h : MRow w b (s.mv M) M) :
    Calls Tryz.prog 68 #[.agg #[.slice s.a1 M.mem.length s.c1, .slice s.a2 M.pend.length s.c2, .slice s.a3 M.tlb.length s.c3, .slice s.a4 M.wc.length s.c4], .int .i64 f] w fun e w' => e = .returned (.bool (inUse M f)) ∧ Below w.heap.size w w' := by
  have y4 := hs.c
  have y1 := hs.w
  have hmm := nfr_mul M.mem.length hok.n0
  have hm0 : 0 < M.mem.length := by omega
  have hpd : ∀ i, i < M.pend.length → 0 ≤ (eAt eWrite M.pend i).addr := fun i hi => (valid_pend hv i hi).1
  obtain ⟨g1, ha1, hc1⟩ := h.memc hm0
  obtain ⟨wb, hwb⟩ : ∃ wb, wb = w.alloc (.cells #[.slice s.a1 M.mem.length s.c1, .slice s.a2 M.pend.length s.c2, .slice s.a3 M.tlb.length s.c3, .slice s.a4 M.wc.length s.c4] 36) := ⟨_, rfl⟩
  have hbb : Below w.heap.size w wb := by rw [hwb]; exact (Below.refl _ _).alloc (Nat.le_refl _) _
  have hzb : wb.heap.size = w.heap.size + 1 := by rw [hwb]; simp
  have HBOX : Hid (∀ wX, Below wb.heap.size wb wX → wX.cell? ⟨w.heap.size, 0, none⟩ = some (.slice s.a1 M.mem.length s.c1) ∧ wX.cell? ⟨w.heap.size, 1, none⟩ = some (.slice s.a2 M.pend.length s.c2) ∧ wX.cell? ⟨w.heap.size, 2, none⟩ = some (.slice s.a3 M.tlb.length s.c3) ∧ wX.cell? ⟨w.heap.size, 3, none⟩ = some (.slice s.a4 M.wc.length s.c4)) := fun wX hX => by
    refine ⟨?_, ?_, ?_, ?_⟩
    iterate 4 (exact (hX.cell (by simp; omega)).trans (by rw [hwb]; simp [go_sem]))
  have hp1 := specPlaces_any g1 M.mem s.c1 hs.w hok.word wb (hc1.below hbb hc1.lt)
  rw [← ha1] at hp1
  have HLA : Hid (∀ wX, Below wb.heap.size wb wX → Calls Tryz.prog 69 #[.agg #[.slice s.a1 M.mem.length s.c1, .slice s.a2 M.pend.length s.c2, .slice s.a3 M.tlb.length s.c3, .slice s.a4 M.wc.length s.c4]] wX fun e w' => ∃ g c, e = .returned (.agg #[.slice (some ⟨g, 0, none⟩) M.mem.length c]) ∧ ERow eWord w' wX.heap.size (.slice (some ⟨g, 0, none⟩) M.mem.length c) (lateL M) ∧ Below wX.heap.size wX w') := fun wX hX => latest_any s M b wX hs hm0 (fun i hi => valid_pend hv i hi) (h.below (hbb.trans (hX.mono (by omega))))
  have HLZ : Hid (OkMem (lateL M)) := late_ok hok hpd
  have hrc : ERow eWc w b (.slice s.a4 M.wc.length s.c4) M.wc := h.c
  obtain ⟨gw, hw1, hw2⟩ := wcS_cells hrc
  have HW : Hid (∀ k L P T D, k < M.wc.length → eAt eWc M.wc k = ⟨L, P, T, D⟩ → s.a4 = some ⟨gw, 0, none⟩ ∧ gw < w.heap.size ∧ ∀ wX, Below wb.heap.size wb wX → wX.cell? ⟨gw, k * 4, none⟩ = some (.int .i64 L) ∧ wX.cell? ⟨gw, k * 4 + 1, none⟩ = some (.int .i64 P) ∧ wX.cell? ⟨gw, k * 4 + 2, none⟩ = some (.int .i64 T) ∧ wX.cell? ⟨gw, k * 4 + 3, none⟩ = some (.bool D)) := fun k L P T D hk he => by
    obtain ⟨e1, e2⟩ := hw1 (by omega)
    exact ⟨e1, e2, fun wX hX => hw2 k L P T D hk he wX ((hbb.trans (hX.mono (by omega))).block gw e2)⟩
  have HR0 : Hid (f = 0 → inUse M f = true) := fun e => by unfold inUse; rw [e, plcHas_root M.mem hok.n0]; rfl
  rw [hwb] at hp1
  have HWB : Hid (wb = _) := hwb
  have HBB : Hid (Below w.heap.size w wb) := hbb
  have HZ : Hid (wb.heap.size = _) := hzb
  have hle1 := plist_length M.mem
  have hle2 := plist_length (lateL M)
  have hll := lateL_length M
  clear h hrc hw1 hw2 hwb hbb hzb hc1 hok hv hpd ha1
  unfold PlacesPost at hp1
  go_enter Tryz.func68, Tryz.ntmps68
  go_wp2_with fail
  refine hp1.mono ?_
  rintro e w1 ⟨a1, c1, rfl, hr1, hb1'⟩
  have hb1 : Below wb.heap.size wb w1 := by rw [HWB.out]; exact hb1'
  obtain ⟨m0, m1, m2, m3⟩ := HBOX.out w1 hb1
  have HR1 : Hid (PRow w1 (w.alloc _).heap.size (.slice a1 (plist M.mem).length c1) (plist M.mem)) := hr1
  clear hp1 hb1' hr1
  go_wp2_with fail
  refine (HLA.out w1 hb1).mono ?_
  rintro e w2 ⟨g2, c2, rfl, hr2, hb2⟩
  have b2 : Below wb.heap.size wb w2 := hb1.trans (hb2.mono hb1.size)
  have hr2' : ERow eWord w2 w1.heap.size (.slice (some ⟨g2, 0, none⟩) (lateL M).length c2) (lateL M) := by rw [hll]; exact hr2
  obtain ⟨g2', e2, hc2, _⟩ := eWord_c hr2' (by omega)
  simp only [Option.some.injEq, Addr.mk.injEq, and_true] at e2
  obtain rfl := e2.symm
  have hp2 := specPlaces_any g2' (lateL M) c2 (by omega) HLZ.out.rng w2 hc2
  unfold PlacesPost at hp2
  rw [hll] at hp2
  clear hr2 hr2' hc2 m0 m1 m2 m3 e2
  go_wp2_with fail
  refine hp2.mono ?_
  rintro e w3 ⟨a3, c3, rfl, hr3, hb3⟩
  have b3 : Below wb.heap.size wb w3 := b2.trans (hb3.mono b2.size)
  have hh1 := hasFrS_any a1 c1 _ (plist M.mem) f w3 hle1 ((HR1.out.below hb2).below hb3)
  have hh2 := hasFrS_any a3 c3 _ (plist (lateL M)) f w3 hle2 hr3
  have HB3 : Hid (Below wb.heap.size wb w3) := b3
  clear hp2 hr3 hb3 hb2 hb1 b2 b3
  have HUS : Hid (∀ x y z, plcHas (plist M.mem) f = x → plcHas (plist (lateL M)) f = y → wcHas M f = z → inUse M f = (x || y || z)) := fun x y z hx hy hz => by unfold inUse; rw [hx, hy, hz]
  by_cases hf0 : f = 0
  · have HR := HR0.out hf0
    have d0 : (f == 0) = true := by simpa using hf0
    have HRR : Hid (inUse M f = true) := HR
    clear hf0 hh1 hh2 HR
    go_wp2_with fail
    go_ret
    exact ⟨by rw [HRR.out]; rfl, HBB.out.trans (HB3.out.mono HBB.out.size)⟩
  · have d0 : (f == 0) = false := by simpa using hf0
    clear hf0
    cases hx : plcHas (plist M.mem) f <;> rw [hx] at hh1
    · cases hy : plcHas (plist (lateL M)) f <;> rw [hy] at hh2
      · have HUZ : Hid (∀ z, wcHas M f = z → inUse M f = z) := fun z hz => by rw [HUS.out _ _ z hx hy hz]; rfl
        clear hx hy
        go_wp2_with fail
        refine hh1.mono ?_
        rintro e w4 ⟨rfl, hw4⟩
        obtain rfl := hw4.symm
        go_wp2_with fail
        refine hh2.mono ?_
        rintro e w4 ⟨rfl, hw4⟩
        obtain rfl := hw4.symm
        clear hh1 hh2 hw4
        go_wp2_with fail
        go_loopw [9] (fun i wr => ∃ k : Nat, k ≤ M.wc.length ∧ i = .int .i64 k ∧ Hid (∀ j, j < k → decide ((eAt eWc M.wc j).table = f) = false) ∧ Below wb.heap.size wb wr) (fun i _ => M.wc.length - (intOf i).toNat)
        case atStart => exact ⟨0, Nat.zero_le _, rfl, fun j hj => absurd hj (by omega), HB3.out⟩
        case round =>
          obtain ⟨k, hk, rfl, hall, hb⟩ := hrel
          obtain ⟨m0, m1, m2, m3⟩ := HBOX.out wr hb
          by_cases hlt2 : k < M.wc.length
          · obtain ⟨E, hE⟩ : ∃ E, eAt eWc M.wc k = E := ⟨_, rfl⟩
            obtain ⟨L, P, T, D⟩ := E
            obtain ⟨hae, hgt, hcs⟩ := HW.out k L P T D hlt2 hE
            rw [hae] at m3
            obtain ⟨c0', c1', c2', c3'⟩ := hcs wr hb
            have HE : Hid (eAt eWc M.wc k = _) := hE
            have L1 : (0 : Int) ≤ (k : Int) := by omega
            have L2 : (k : Int) < (M.wc.length : Int) := by omega
            have HB : Hid (Below wb.heap.size wb wr) := hb
            clear hE hcs hae hb
            by_cases hT : T = f
            · have d : (T == f) = true := by simpa using hT
              have HR : Hid (inUse M f = true) := HUZ.out true (anyR_true _ k _ hlt2 (by rw [HE.out]; exact decide_eq_true hT))
              clear hT
              go_wp2_with fail
              go_ret
              exact ⟨by rw [HR.out]; rfl, HBB.out.trans (HB.out.mono HBB.out.size)⟩
            · have d : (T == f) = false := by simpa using hT
              have HN : Hid (decide ((eAt eWc M.wc k).table = f) = false) := by rw [HE.out]; exact decide_eq_false hT
              clear hT
              go_wp2_with fail
              go_roundw
              case rel =>
                refine ⟨k + 1, by omega, by go_num, fun j hj => ?_, HB.out⟩
                by_cases e : j = k
                · rw [e]; exact HN.out
                · exact hall.out j (by omega)
              case measure => simp [intOf]; omega
          · have HR : Hid (inUse M f = false) := HUZ.out false (anyR_false _ _ (fun j hj => hall.out j (by omega)))
            have L2 : ¬ (k : Int) < (M.wc.length : Int) := by omega
            go_wp2_with fail
            go_ret
            exact ⟨by rw [HR.out]; rfl, HBB.out.trans (hb.mono HBB.out.size)⟩
      · have HR : Hid (inUse M f = true) := by rw [HUS.out _ _ _ hx hy rfl]; rfl
        clear hx hy
        go_wp2_with fail
        refine hh1.mono ?_
        rintro e w4 ⟨rfl, hw4⟩
        obtain rfl := hw4.symm
        go_wp2_with fail
        refine hh2.mono ?_
        rintro e w4 ⟨rfl, hw4⟩
        obtain rfl := hw4.symm
        go_wp2_with fail
        go_ret
        exact ⟨by rw [HR.out]; rfl, HBB.out.trans (HB3.out.mono HBB.out.size)⟩
    · have HR : Hid (inUse M f = true) := by rw [HUS.out _ _ _ hx rfl rfl]; rfl
      clear hx hh2
      go_wp2_with fail
      refine hh1.mono ?_
      rintro e w4 ⟨rfl, hw4⟩
      obtain rfl := hw4.symm
      go_wp2_with fail
      go_ret
      exact ⟨by rw [HR.out]; rfl, HBB.out.trans (HB3.out.mono HBB.out.size)⟩
end Go.Proofs.YtiiejckfcnmhoabGreat
namespace Go.Proofs.YtiiejckfcnmhoabGreat
open Go.ChangeShapes Go.WideShapes Go.ChangeAt Go.RowKit
set_option linter.unusedVariables false
attribute [local go_sem ↓] Go.wp_at_zero Go.wp_at_succ

set_option maxRecDepth 100000 in
set_option maxHeartbeats 8000000 in
theorem stepS_bad (s : SV) (M : Mach) (b : Nat) (K A Bb W : Int) (w : World) (hs : M.Small) (hv : validB M = false) (h : MRow w b (s.mv M) M) :
    Calls Tryz.prog 14 #[.agg #[.slice s.a1 M.mem.length s.c1, .slice s.a2 M.pend.length s.c2, .slice s.a3 M.tlb.length s.c3, .slice s.a4 M.wc.length s.c4], .agg #[.int .i64 K, .int .i64 A, .int .i64 Bb, .int .u64 W]] w fun e w' => ∃ s' : SV, e = .returned (.tuple #[.agg #[.slice s'.a1 zM.mem.length s'.c1, .slice s'.a2 zM.pend.length s'.c2, .slice s'.a3 zM.tlb.length s'.c3, .slice s'.a4 zM.wc.length s'.c4], .int .i64 9]) ∧ MRow w' w.heap.size (s'.mv zM) zM ∧ Below w.heap.size w w' := by
  obtain ⟨wb, hwb⟩ : ∃ wb, wb = ((w.alloc (.cells #[.slice s.a1 M.mem.length s.c1, .slice s.a2 M.pend.length s.c2, .slice s.a3 M.tlb.length s.c3, .slice s.a4 M.wc.length s.c4] 36)).alloc (.cells #[.int .i64 K, .int .i64 A, .int .i64 Bb, .int .u64 W] 51)).alloc (.cells #[.slice none 0 0, .slice none 0 0, .slice none 0 0, .slice none 0 0] 36) := ⟨_, rfl⟩
  have hbb : Below w.heap.size w wb := by rw [hwb]; exact (((Below.refl _ _).alloc (Nat.le_refl _) _).alloc (by simp) _).alloc (by simp; omega) _
  have hzb : wb.heap.size = w.heap.size + 3 := by rw [hwb]; simp
  have HBOX : Hid (∀ wX, Below wb.heap.size wb wX → (wX.cell? ⟨w.heap.size, 0, none⟩ = some (.slice s.a1 M.mem.length s.c1) ∧ wX.cell? ⟨w.heap.size, 1, none⟩ = some (.slice s.a2 M.pend.length s.c2) ∧ wX.cell? ⟨w.heap.size, 2, none⟩ = some (.slice s.a3 M.tlb.length s.c3) ∧ wX.cell? ⟨w.heap.size, 3, none⟩ = some (.slice s.a4 M.wc.length s.c4)) ∧ (wX.cell? ⟨w.heap.size + 1, 0, none⟩ = some (.int .i64 K) ∧ wX.cell? ⟨w.heap.size + 1, 1, none⟩ = some (.int .i64 A) ∧ wX.cell? ⟨w.heap.size + 1, 2, none⟩ = some (.int .i64 Bb) ∧ wX.cell? ⟨w.heap.size + 1, 3, none⟩ = some (.int .u64 W)) ∧ (wX.cell? ⟨w.heap.size + 2, 0, none⟩ = some (.slice none 0 0) ∧ wX.cell? ⟨w.heap.size + 2, 1, none⟩ = some (.slice none 0 0) ∧ wX.cell? ⟨w.heap.size + 2, 2, none⟩ = some (.slice none 0 0) ∧ wX.cell? ⟨w.heap.size + 2, 3, none⟩ = some (.slice none 0 0)) ∧ (wX.frozen? ⟨w.heap.size + 2, 0, none⟩ = false ∧ wX.frozen? ⟨w.heap.size + 2, 1, none⟩ = false ∧ wX.frozen? ⟨w.heap.size + 2, 2, none⟩ = false ∧ wX.frozen? ⟨w.heap.size + 2, 3, none⟩ = false) ∧ w.heap.size < wX.heap.size ∧ w.heap.size + 1 < wX.heap.size ∧ w.heap.size + 2 < wX.heap.size) := fun wX hX => by
    have hsz := hX.size
    refine ⟨⟨?_, ?_, ?_, ?_⟩, ⟨?_, ?_, ?_, ?_⟩, ⟨?_, ?_, ?_, ?_⟩, ⟨?_, ?_, ?_, ?_⟩, by omega, by omega, by omega⟩
    iterate 12 (exact (hX.cell (by simp; omega)).trans (by rw [hwb]; simp [go_sem]))
    iterate 4 (exact (hX.frozen (by simp; omega)).trans (by rw [hwb]; simp [go_sem]))
  have hvm := specValid_any s M b wb hs (h.below hbb)
  rw [hv, hwb] at hvm
  have HM : Hid (∀ wX, Below wb.heap.size wb wX → MRow wX b (s.mv M) M) := fun wX hX => h.below (hbb.trans (hX.mono (by omega)))
  have HCP : Hid (∀ wX, Below wb.heap.size wb wX → _) := fun wX hX => copyM_any s M b wX hs (HM.out wX hX)
  have HWF : Hid (∀ wX, Calls Tryz.prog 66 #[.agg #[.slice s.a1 M.mem.length s.c1, .slice s.a2 M.pend.length s.c2, .slice s.a3 M.tlb.length s.c3, .slice s.a4 M.wc.length s.c4], .agg #[.int .i64 K, .int .i64 A, .int .i64 Bb, .int .u64 W]] wX fun e w' => e = .returned (.bool (opB M ⟨K, A, Bb, W⟩)) ∧ Below wX.heap.size wX w') := fun wX => wellS_any s M K A Bb W wX hs
  have HWB : Hid (wb = _) := hwb
  have HBB : Hid (Below _ w wb) := hbb
  have HZ : Hid (wb.heap.size = w.heap.size + 3) := hzb
  have HVV : Hid (validB M = false) := hv
  clear hwb hbb hzb h hv
  go_enter Tryz.func14, Tryz.ntmps14
  go_wp2_with fail
  refine hvm.mono ?_
  rintro e w1 ⟨rfl, hb1'⟩
  have hb1 : Below wb.heap.size wb w1 := by rw [HWB.out]; exact hb1'
  have HB1 : Hid (Below wb.heap.size wb w1) := hb1
  clear hb1' hvm
  obtain ⟨_, _, ⟨r0, r1, r2, r3⟩, ⟨z0, z1, z2, z3⟩, N0, N1, N2⟩ := HBOX.out w1 hb1
  have HBN : Hid (Below w.heap.size w w1) := HBB.out.trans (hb1.mono HBB.out.size)
  clear hb1
  go_wp2_with fail
  refine bodyPost_ret (v := .tuple #[.agg #[.slice none 0 0, .slice none 0 0, .slice none 0 0, .slice none 0 0], .int .i64 9]) (by simp [results, Tryz.results14, go_sem, r0, r1, r2, r3]) rfl ⟨zS, rfl, zM_row _ _, ?_⟩
  exact (((HBN.out.setCell (by dsimp only; omega) _).setCell (by dsimp only; omega) _).setCell (by dsimp only; omega) _).setCell (by dsimp only; omega) _

set_option maxRecDepth 100000 in
set_option maxHeartbeats 8000000 in
theorem stepS_ill (s : SV) (M : Mach) (b : Nat) (K A Bb W : Int) (w : World) (hs : M.Small) (hv : validB M = true) (hop : opB M ⟨K, A, Bb, W⟩ = false) (h : MRow w b (s.mv M) M) :
    Calls Tryz.prog 14 #[.agg #[.slice s.a1 M.mem.length s.c1, .slice s.a2 M.pend.length s.c2, .slice s.a3 M.tlb.length s.c3, .slice s.a4 M.wc.length s.c4], .agg #[.int .i64 K, .int .i64 A, .int .i64 Bb, .int .u64 W]] w fun e w' => ∃ s' : SV, e = .returned (.tuple #[.agg #[.slice s'.a1 M.mem.length s'.c1, .slice s'.a2 M.pend.length s'.c2, .slice s'.a3 M.tlb.length s'.c3, .slice s'.a4 M.wc.length s'.c4], .int .i64 1]) ∧ MRow w' w.heap.size (s'.mv M) M ∧ Below w.heap.size w w' := by
  obtain ⟨wb, hwb⟩ : ∃ wb, wb = ((w.alloc (.cells #[.slice s.a1 M.mem.length s.c1, .slice s.a2 M.pend.length s.c2, .slice s.a3 M.tlb.length s.c3, .slice s.a4 M.wc.length s.c4] 36)).alloc (.cells #[.int .i64 K, .int .i64 A, .int .i64 Bb, .int .u64 W] 51)).alloc (.cells #[.slice none 0 0, .slice none 0 0, .slice none 0 0, .slice none 0 0] 36) := ⟨_, rfl⟩
  have hbb : Below w.heap.size w wb := by rw [hwb]; exact (((Below.refl _ _).alloc (Nat.le_refl _) _).alloc (by simp) _).alloc (by simp; omega) _
  have hzb : wb.heap.size = w.heap.size + 3 := by rw [hwb]; simp
  have HBOX : Hid (∀ wX, Below wb.heap.size wb wX → (wX.cell? ⟨w.heap.size, 0, none⟩ = some (.slice s.a1 M.mem.length s.c1) ∧ wX.cell? ⟨w.heap.size, 1, none⟩ = some (.slice s.a2 M.pend.length s.c2) ∧ wX.cell? ⟨w.heap.size, 2, none⟩ = some (.slice s.a3 M.tlb.length s.c3) ∧ wX.cell? ⟨w.heap.size, 3, none⟩ = some (.slice s.a4 M.wc.length s.c4)) ∧ (wX.cell? ⟨w.heap.size + 1, 0, none⟩ = some (.int .i64 K) ∧ wX.cell? ⟨w.heap.size + 1, 1, none⟩ = some (.int .i64 A) ∧ wX.cell? ⟨w.heap.size + 1, 2, none⟩ = some (.int .i64 Bb) ∧ wX.cell? ⟨w.heap.size + 1, 3, none⟩ = some (.int .u64 W)) ∧ (wX.cell? ⟨w.heap.size + 2, 0, none⟩ = some (.slice none 0 0) ∧ wX.cell? ⟨w.heap.size + 2, 1, none⟩ = some (.slice none 0 0) ∧ wX.cell? ⟨w.heap.size + 2, 2, none⟩ = some (.slice none 0 0) ∧ wX.cell? ⟨w.heap.size + 2, 3, none⟩ = some (.slice none 0 0)) ∧ (wX.frozen? ⟨w.heap.size + 2, 0, none⟩ = false ∧ wX.frozen? ⟨w.heap.size + 2, 1, none⟩ = false ∧ wX.frozen? ⟨w.heap.size + 2, 2, none⟩ = false ∧ wX.frozen? ⟨w.heap.size + 2, 3, none⟩ = false) ∧ w.heap.size < wX.heap.size ∧ w.heap.size + 1 < wX.heap.size ∧ w.heap.size + 2 < wX.heap.size) := fun wX hX => by
    have hsz := hX.size
    refine ⟨⟨?_, ?_, ?_, ?_⟩, ⟨?_, ?_, ?_, ?_⟩, ⟨?_, ?_, ?_, ?_⟩, ⟨?_, ?_, ?_, ?_⟩, by omega, by omega, by omega⟩
    iterate 12 (exact (hX.cell (by simp; omega)).trans (by rw [hwb]; simp [go_sem]))
    iterate 4 (exact (hX.frozen (by simp; omega)).trans (by rw [hwb]; simp [go_sem]))
  have hvm := specValid_any s M b wb hs (h.below hbb)
  rw [hv, hwb] at hvm
  have HM : Hid (∀ wX, Below wb.heap.size wb wX → MRow wX b (s.mv M) M) := fun wX hX => h.below (hbb.trans (hX.mono (by omega)))
  have HCP : Hid (∀ wX, Below wb.heap.size wb wX → _) := fun wX hX => copyM_any s M b wX hs (HM.out wX hX)
  have HWF : Hid (∀ wX, Calls Tryz.prog 66 #[.agg #[.slice s.a1 M.mem.length s.c1, .slice s.a2 M.pend.length s.c2, .slice s.a3 M.tlb.length s.c3, .slice s.a4 M.wc.length s.c4], .agg #[.int .i64 K, .int .i64 A, .int .i64 Bb, .int .u64 W]] wX fun e w' => e = .returned (.bool (opB M ⟨K, A, Bb, W⟩)) ∧ Below wX.heap.size wX w') := fun wX => wellS_any s M K A Bb W wX hs
  have HWB : Hid (wb = _) := hwb
  have HBB : Hid (Below _ w wb) := hbb
  have HZ : Hid (wb.heap.size = w.heap.size + 3) := hzb
  have HVV : Hid (validB M = true) := hv
  clear hwb hbb hzb h hv
  go_enter Tryz.func14, Tryz.ntmps14
  go_wp2_with fail
  refine hvm.mono ?_
  rintro e w1 ⟨rfl, hb1'⟩
  have hb1 : Below wb.heap.size wb w1 := by rw [HWB.out]; exact hb1'
  have HB1 : Hid (Below wb.heap.size wb w1) := hb1
  clear hb1' hvm
  obtain ⟨⟨q0, q1, q2, q3⟩, _, _, _, N0, N1, N2⟩ := HBOX.out w1 hb1
  clear hb1
  go_wp2_with fail
  refine (HCP.out w1 HB1.out).mono ?_
  rintro e w2 ⟨s1, rfl, hr2, hap2, hb2⟩
  obtain ⟨wO, hwO⟩ : ∃ wO, wO = w2.alloc (.cells #[.slice s1.a1 M.mem.length s1.c1, .slice s1.a2 M.pend.length s1.c2, .slice s1.a3 M.tlb.length s1.c3, .slice s1.a4 M.wc.length s1.c4] 36) := ⟨_, rfl⟩
  have hzO : wO.heap.size = w2.heap.size + 1 := by rw [hwO]; simp
  have b2 : Below wb.heap.size wb w2 := HB1.out.trans (hb2.mono HB1.out.size)
  have bO : Below wb.heap.size wb wO := by rw [hwO]; exact b2.alloc b2.size _
  have rO : MRow wO w1.heap.size (s1.mv M) M := by rw [hwO]; exact hr2.below ((Below.refl _ _).alloc (Nat.le_refl _) _)
  have HOB : Hid (∀ wX, Below wO.heap.size wO wX → (wX.cell? ⟨w2.heap.size, 0, none⟩ = some (.slice s1.a1 M.mem.length s1.c1) ∧ wX.cell? ⟨w2.heap.size, 1, none⟩ = some (.slice s1.a2 M.pend.length s1.c2) ∧ wX.cell? ⟨w2.heap.size, 2, none⟩ = some (.slice s1.a3 M.tlb.length s1.c3) ∧ wX.cell? ⟨w2.heap.size, 3, none⟩ = some (.slice s1.a4 M.wc.length s1.c4)) ∧ (wX.frozen? ⟨w2.heap.size, 0, none⟩ = false ∧ wX.frozen? ⟨w2.heap.size, 1, none⟩ = false ∧ wX.frozen? ⟨w2.heap.size, 2, none⟩ = false ∧ wX.frozen? ⟨w2.heap.size, 3, none⟩ = false)) := fun wX hX => by
    refine ⟨⟨?_, ?_, ?_, ?_⟩, ?_, ?_, ?_, ?_⟩
    iterate 4 (exact (hX.cell (by simp; omega)).trans (by rw [hwO]; simp [go_sem]))
    iterate 4 (exact (hX.frozen (by simp; omega)).trans (by rw [hwO]; simp [go_sem]))
  obtain ⟨⟨q0, q1, q2, q3⟩, ⟨p0, p1, p2, p3⟩, _, _, N0, N1, N2⟩ := HBOX.out w2 b2
  have hwf := HWF.out wO
  rw [hop, hwO] at hwf
  have HWO : Hid (wO = _) := hwO
  have HRO : Hid (MRow wO w1.heap.size (s1.mv M) M) := rO
  have HO2 : Hid (∀ k, (s1.mv M).owns k → w1.heap.size ≤ k ∧ k < w2.heap.size) := hr2.own
  have HAP : Hid ((s1.mv M).apart) := hap2
  have HBO : Hid (Below wb.heap.size wb wO) := bO
  have HZO : Hid (wO.heap.size = w2.heap.size + 1) := hzO
  have HS12 : Hid (w1.heap.size ≤ w2.heap.size) := hb2.size
  have N3 : w.heap.size + 2 < w2.heap.size := N2
  clear hr2 hb2 hwO b2 bO rO hzO hap2
  go_wp2_with fail
  refine hwf.mono ?_
  rintro e w3 ⟨rfl, hb3'⟩
  have hb3 : Below wO.heap.size wO w3 := by rw [HWO.out]; exact hb3'
  have b3 : Below wb.heap.size wb w3 := HBO.out.trans (hb3.mono HBO.out.size)
  have HB3 : Hid (Below wb.heap.size wb w3) := b3
  have HBO3 : Hid (Below wO.heap.size wO w3) := hb3
  obtain ⟨⟨q0, q1, q2, q3⟩, ⟨p0, p1, p2, p3⟩, ⟨r0, r1, r2, r3⟩, ⟨z0, z1, z2, z3⟩, N0, N1, N2⟩ := HBOX.out w3 b3
  obtain ⟨⟨o0, o1, o2, o3⟩, y0, y1, y2, y3⟩ := HOB.out w3 hb3
  clear hwf hb3' hb3 b3
  have HBN : Hid (Below wb.heap.size wb w3) := HB3
  have HON : Hid (Below wO.heap.size wO w3) := HBO3
  go_wp2_with fail
  obtain ⟨wF, hwF⟩ : ∃ wF, wF = ((((w3.setCell ⟨w.heap.size + 1 + 1, 0, none⟩ (.slice s1.a1 M.mem.length s1.c1)).setCell ⟨w.heap.size + 1 + 1, 1, none⟩ (.slice s1.a2 M.pend.length s1.c2)).setCell ⟨w.heap.size + 1 + 1, 2, none⟩ (.slice s1.a3 M.tlb.length s1.c3)).setCell ⟨w.heap.size + 1 + 1, 3, none⟩ (.slice s1.a4 M.wc.length s1.c4)) := ⟨_, rfl⟩
  rw [← hwF]
  have hTF : Touch (fun k => k = w.heap.size + 2) w3 wF := by
    rw [hwF]
    exact Touch.put (Touch.put (Touch.put (Touch.put (Touch.none _) _ _ (by rfl)) _ _ (by rfl)) _ _ (by rfl)) _ _ (by rfl)
  have f0 : wF.cell? ⟨w.heap.size + 1 + 1, 0, none⟩ = some (.slice s1.a1 M.mem.length s1.c1) := by rw [hwF]; simp [go_sem, r0]
  have f1 : wF.cell? ⟨w.heap.size + 1 + 1, 1, none⟩ = some (.slice s1.a2 M.pend.length s1.c2) := by rw [hwF]; simp [go_sem, r1]
  have f2 : wF.cell? ⟨w.heap.size + 1 + 1, 2, none⟩ = some (.slice s1.a3 M.tlb.length s1.c3) := by rw [hwF]; simp [go_sem, r2]
  have f3 : wF.cell? ⟨w.heap.size + 1 + 1, 3, none⟩ = some (.slice s1.a4 M.wc.length s1.c4) := by rw [hwF]; simp [go_sem, r3]
  have rF : MRow wF w1.heap.size (s1.mv M) M := by
    refine (HRO.out.below HON.out).touch hTF (fun k hk hh => ?_)
    have h1 := (HO2.out k hk).1
    have h2 := HB1.out.size
    have h3 := HZ.out
    omega
  have hbF : Below w.heap.size w wF := Touch.below (HBB.out.trans (HBN.out.mono HBB.out.size)) hTF (by have := HBN.out.size; have := HZ.out; omega) (fun k hk => by omega)
  exact bodyPost_ret (v := .tuple #[.agg #[.slice s1.a1 M.mem.length s1.c1, .slice s1.a2 M.pend.length s1.c2, .slice s1.a3 M.tlb.length s1.c3, .slice s1.a4 M.wc.length s1.c4], .int .i64 1]) (by simp [results, Tryz.results14, go_sem, f0, f1, f2, f3]) rfl ⟨s1, by first | rfl | simp, rF.rebase (by have := HB1.out.size; have := HZ.out; omega), hbF⟩

set_option maxRecDepth 100000 in
set_option maxHeartbeats 8000000 in
theorem stepS_free (s : SV) (M : Mach) (b : Nat) (A Bb W : Int) (w : World) (hs : M.Small) (hv : validB M = true) (hok : WOk M) (hop : opB M ⟨4, A, Bb, W⟩ = true) (cd : Int) (hcd : cd = if inUse M A then 4 else 0) (h : MRow w b (s.mv M) M) :
    Calls Tryz.prog 14 #[.agg #[.slice s.a1 M.mem.length s.c1, .slice s.a2 M.pend.length s.c2, .slice s.a3 M.tlb.length s.c3, .slice s.a4 M.wc.length s.c4], .agg #[.int .i64 4, .int .i64 A, .int .i64 Bb, .int .u64 W]] w fun e w' => ∃ s' : SV, e = .returned (.tuple #[.agg #[.slice s'.a1 M.mem.length s'.c1, .slice s'.a2 M.pend.length s'.c2, .slice s'.a3 M.tlb.length s'.c3, .slice s'.a4 M.wc.length s'.c4], .int .i64 cd]) ∧ MRow w' w.heap.size (s'.mv M) M ∧ Below w.heap.size w w' := by
  have HIU : Hid (∀ wX, MRow wX b (s.mv M) M → Calls Tryz.prog 68 #[.agg #[.slice s.a1 M.mem.length s.c1, .slice s.a2 M.pend.length s.c2, .slice s.a3 M.tlb.length s.c3, .slice s.a4 M.wc.length s.c4], .int .i64 A] wX fun e w' => e = .returned (.bool (inUse M A)) ∧ Below wX.heap.size wX w') := fun wX hX => inUseS_any s M b A wX hs hok hv hX
  obtain ⟨wb, hwb⟩ : ∃ wb, wb = ((w.alloc (.cells #[.slice s.a1 M.mem.length s.c1, .slice s.a2 M.pend.length s.c2, .slice s.a3 M.tlb.length s.c3, .slice s.a4 M.wc.length s.c4] 36)).alloc (.cells #[.int .i64 4, .int .i64 A, .int .i64 Bb, .int .u64 W] 51)).alloc (.cells #[.slice none 0 0, .slice none 0 0, .slice none 0 0, .slice none 0 0] 36) := ⟨_, rfl⟩
  have hbb : Below w.heap.size w wb := by rw [hwb]; exact (((Below.refl _ _).alloc (Nat.le_refl _) _).alloc (by simp) _).alloc (by simp; omega) _
  have hzb : wb.heap.size = w.heap.size + 3 := by rw [hwb]; simp
  have HBOX : Hid (∀ wX, Below wb.heap.size wb wX → (wX.cell? ⟨w.heap.size, 0, none⟩ = some (.slice s.a1 M.mem.length s.c1) ∧ wX.cell? ⟨w.heap.size, 1, none⟩ = some (.slice s.a2 M.pend.length s.c2) ∧ wX.cell? ⟨w.heap.size, 2, none⟩ = some (.slice s.a3 M.tlb.length s.c3) ∧ wX.cell? ⟨w.heap.size, 3, none⟩ = some (.slice s.a4 M.wc.length s.c4)) ∧ (wX.cell? ⟨w.heap.size + 1, 0, none⟩ = some (.int .i64 4) ∧ wX.cell? ⟨w.heap.size + 1, 1, none⟩ = some (.int .i64 A) ∧ wX.cell? ⟨w.heap.size + 1, 2, none⟩ = some (.int .i64 Bb) ∧ wX.cell? ⟨w.heap.size + 1, 3, none⟩ = some (.int .u64 W)) ∧ (wX.cell? ⟨w.heap.size + 2, 0, none⟩ = some (.slice none 0 0) ∧ wX.cell? ⟨w.heap.size + 2, 1, none⟩ = some (.slice none 0 0) ∧ wX.cell? ⟨w.heap.size + 2, 2, none⟩ = some (.slice none 0 0) ∧ wX.cell? ⟨w.heap.size + 2, 3, none⟩ = some (.slice none 0 0)) ∧ (wX.frozen? ⟨w.heap.size + 2, 0, none⟩ = false ∧ wX.frozen? ⟨w.heap.size + 2, 1, none⟩ = false ∧ wX.frozen? ⟨w.heap.size + 2, 2, none⟩ = false ∧ wX.frozen? ⟨w.heap.size + 2, 3, none⟩ = false) ∧ w.heap.size < wX.heap.size ∧ w.heap.size + 1 < wX.heap.size ∧ w.heap.size + 2 < wX.heap.size) := fun wX hX => by
    have hsz := hX.size
    refine ⟨⟨?_, ?_, ?_, ?_⟩, ⟨?_, ?_, ?_, ?_⟩, ⟨?_, ?_, ?_, ?_⟩, ⟨?_, ?_, ?_, ?_⟩, by omega, by omega, by omega⟩
    iterate 12 (exact (hX.cell (by simp; omega)).trans (by rw [hwb]; simp [go_sem]))
    iterate 4 (exact (hX.frozen (by simp; omega)).trans (by rw [hwb]; simp [go_sem]))
  have hvm := specValid_any s M b wb hs (h.below hbb)
  rw [hv, hwb] at hvm
  have HM : Hid (∀ wX, Below wb.heap.size wb wX → MRow wX b (s.mv M) M) := fun wX hX => h.below (hbb.trans (hX.mono (by omega)))
  have HCP : Hid (∀ wX, Below wb.heap.size wb wX → _) := fun wX hX => copyM_any s M b wX hs (HM.out wX hX)
  have HWF : Hid (∀ wX, Calls Tryz.prog 66 #[.agg #[.slice s.a1 M.mem.length s.c1, .slice s.a2 M.pend.length s.c2, .slice s.a3 M.tlb.length s.c3, .slice s.a4 M.wc.length s.c4], .agg #[.int .i64 4, .int .i64 A, .int .i64 Bb, .int .u64 W]] wX fun e w' => e = .returned (.bool (opB M ⟨4, A, Bb, W⟩)) ∧ Below wX.heap.size wX w') := fun wX => wellS_any s M 4 A Bb W wX hs
  have HWB : Hid (wb = _) := hwb
  have HBB : Hid (Below _ w wb) := hbb
  have HZ : Hid (wb.heap.size = w.heap.size + 3) := hzb
  have HVV : Hid (validB M = true) := hv
  clear hwb hbb hzb h hv
  go_enter Tryz.func14, Tryz.ntmps14
  go_wp2_with fail
  refine hvm.mono ?_
  rintro e w1 ⟨rfl, hb1'⟩
  have hb1 : Below wb.heap.size wb w1 := by rw [HWB.out]; exact hb1'
  have HB1 : Hid (Below wb.heap.size wb w1) := hb1
  clear hb1' hvm
  obtain ⟨⟨q0, q1, q2, q3⟩, _, _, _, N0, N1, N2⟩ := HBOX.out w1 hb1
  clear hb1
  go_wp2_with fail
  refine (HCP.out w1 HB1.out).mono ?_
  rintro e w2 ⟨s1, rfl, hr2, hap2, hb2⟩
  obtain ⟨wO, hwO⟩ : ∃ wO, wO = w2.alloc (.cells #[.slice s1.a1 M.mem.length s1.c1, .slice s1.a2 M.pend.length s1.c2, .slice s1.a3 M.tlb.length s1.c3, .slice s1.a4 M.wc.length s1.c4] 36) := ⟨_, rfl⟩
  have hzO : wO.heap.size = w2.heap.size + 1 := by rw [hwO]; simp
  have b2 : Below wb.heap.size wb w2 := HB1.out.trans (hb2.mono HB1.out.size)
  have bO : Below wb.heap.size wb wO := by rw [hwO]; exact b2.alloc b2.size _
  have rO : MRow wO w1.heap.size (s1.mv M) M := by rw [hwO]; exact hr2.below ((Below.refl _ _).alloc (Nat.le_refl _) _)
  have HOB : Hid (∀ wX, Below wO.heap.size wO wX → (wX.cell? ⟨w2.heap.size, 0, none⟩ = some (.slice s1.a1 M.mem.length s1.c1) ∧ wX.cell? ⟨w2.heap.size, 1, none⟩ = some (.slice s1.a2 M.pend.length s1.c2) ∧ wX.cell? ⟨w2.heap.size, 2, none⟩ = some (.slice s1.a3 M.tlb.length s1.c3) ∧ wX.cell? ⟨w2.heap.size, 3, none⟩ = some (.slice s1.a4 M.wc.length s1.c4)) ∧ (wX.frozen? ⟨w2.heap.size, 0, none⟩ = false ∧ wX.frozen? ⟨w2.heap.size, 1, none⟩ = false ∧ wX.frozen? ⟨w2.heap.size, 2, none⟩ = false ∧ wX.frozen? ⟨w2.heap.size, 3, none⟩ = false)) := fun wX hX => by
    refine ⟨⟨?_, ?_, ?_, ?_⟩, ?_, ?_, ?_, ?_⟩
    iterate 4 (exact (hX.cell (by simp; omega)).trans (by rw [hwO]; simp [go_sem]))
    iterate 4 (exact (hX.frozen (by simp; omega)).trans (by rw [hwO]; simp [go_sem]))
  obtain ⟨⟨q0, q1, q2, q3⟩, ⟨p0, p1, p2, p3⟩, _, _, N0, N1, N2⟩ := HBOX.out w2 b2
  have hwf := HWF.out wO
  rw [hop, hwO] at hwf
  have HWO : Hid (wO = _) := hwO
  have HRO : Hid (MRow wO w1.heap.size (s1.mv M) M) := rO
  have HO2 : Hid (∀ k, (s1.mv M).owns k → w1.heap.size ≤ k ∧ k < w2.heap.size) := hr2.own
  have HAP : Hid ((s1.mv M).apart) := hap2
  have HBO : Hid (Below wb.heap.size wb wO) := bO
  have HZO : Hid (wO.heap.size = w2.heap.size + 1) := hzO
  have HS12 : Hid (w1.heap.size ≤ w2.heap.size) := hb2.size
  have N3 : w.heap.size + 2 < w2.heap.size := N2
  clear hr2 hb2 hwO b2 bO rO hzO hap2
  go_wp2_with fail
  refine hwf.mono ?_
  rintro e w3 ⟨rfl, hb3'⟩
  have hb3 : Below wO.heap.size wO w3 := by rw [HWO.out]; exact hb3'
  have b3 : Below wb.heap.size wb w3 := HBO.out.trans (hb3.mono HBO.out.size)
  have HB3 : Hid (Below wb.heap.size wb w3) := b3
  have HBO3 : Hid (Below wO.heap.size wO w3) := hb3
  obtain ⟨⟨q0, q1, q2, q3⟩, ⟨p0, p1, p2, p3⟩, ⟨r0, r1, r2, r3⟩, ⟨z0, z1, z2, z3⟩, N0, N1, N2⟩ := HBOX.out w3 b3
  obtain ⟨⟨o0, o1, o2, o3⟩, y0, y1, y2, y3⟩ := HOB.out w3 hb3
  clear hwf hb3' hb3 b3
  have hiu := HIU.out w3 (HM.out w3 HB3.out)
  cases hi : inUse M A
  · rw [hi] at hiu
    have hcd0 : cd = 0 := by rw [hcd, hi]; rfl
    subst hcd0
    clear hi hcd
    go_wp2_with fail
    refine hiu.mono ?_
    rintro e w4 ⟨rfl, hb4⟩
    have HBN : Hid (Below wb.heap.size wb w4) := HB3.out.trans (hb4.mono HB3.out.size)
    have HON : Hid (Below wO.heap.size wO w4) := HBO3.out.trans (hb4.mono HBO3.out.size)
    obtain ⟨_, ⟨p0, p1, p2, p3⟩, ⟨r0, r1, r2, r3⟩, ⟨z0, z1, z2, z3⟩, N0, N1, N2⟩ := HBOX.out w4 HBN.out
    obtain ⟨⟨o0, o1, o2, o3⟩, y0, y1, y2, y3⟩ := HOB.out w4 HON.out
    clear hiu hb4
    go_wp2_with fail
    obtain ⟨wF, hwF⟩ : ∃ wF, wF = ((((w4.setCell ⟨w.heap.size + 1 + 1, 0, none⟩ (.slice s1.a1 M.mem.length s1.c1)).setCell ⟨w.heap.size + 1 + 1, 1, none⟩ (.slice s1.a2 M.pend.length s1.c2)).setCell ⟨w.heap.size + 1 + 1, 2, none⟩ (.slice s1.a3 M.tlb.length s1.c3)).setCell ⟨w.heap.size + 1 + 1, 3, none⟩ (.slice s1.a4 M.wc.length s1.c4)) := ⟨_, rfl⟩
    rw [← hwF]
    have hTF : Touch (fun k => k = w.heap.size + 2) w4 wF := by
      rw [hwF]
      exact Touch.put (Touch.put (Touch.put (Touch.put (Touch.none _) _ _ (by rfl)) _ _ (by rfl)) _ _ (by rfl)) _ _ (by rfl)
    have f0 : wF.cell? ⟨w.heap.size + 1 + 1, 0, none⟩ = some (.slice s1.a1 M.mem.length s1.c1) := by rw [hwF]; simp [go_sem, r0]
    have f1 : wF.cell? ⟨w.heap.size + 1 + 1, 1, none⟩ = some (.slice s1.a2 M.pend.length s1.c2) := by rw [hwF]; simp [go_sem, r1]
    have f2 : wF.cell? ⟨w.heap.size + 1 + 1, 2, none⟩ = some (.slice s1.a3 M.tlb.length s1.c3) := by rw [hwF]; simp [go_sem, r2]
    have f3 : wF.cell? ⟨w.heap.size + 1 + 1, 3, none⟩ = some (.slice s1.a4 M.wc.length s1.c4) := by rw [hwF]; simp [go_sem, r3]
    have rF : MRow wF w1.heap.size (s1.mv M) M := by
      refine (HRO.out.below HON.out).touch hTF (fun k hk hh => ?_)
      have h1 := (HO2.out k hk).1
      have h2 := HB1.out.size
      have h3 := HZ.out
      omega
    have hbF : Below w.heap.size w wF := Touch.below (HBB.out.trans (HBN.out.mono HBB.out.size)) hTF (by have := HBN.out.size; have := HZ.out; omega) (fun k hk => by omega)
    exact bodyPost_ret (v := .tuple #[.agg #[.slice s1.a1 M.mem.length s1.c1, .slice s1.a2 M.pend.length s1.c2, .slice s1.a3 M.tlb.length s1.c3, .slice s1.a4 M.wc.length s1.c4], .int .i64 0]) (by simp [results, Tryz.results14, go_sem, f0, f1, f2, f3]) rfl ⟨s1, by first | rfl | simp, rF.rebase (by have := HB1.out.size; have := HZ.out; omega), hbF⟩
  · rw [hi] at hiu
    have hcd0 : cd = 4 := by rw [hcd, hi]; rfl
    subst hcd0
    clear hi hcd
    go_wp2_with fail
    refine hiu.mono ?_
    rintro e w4 ⟨rfl, hb4⟩
    have HBN : Hid (Below wb.heap.size wb w4) := HB3.out.trans (hb4.mono HB3.out.size)
    have HON : Hid (Below wO.heap.size wO w4) := HBO3.out.trans (hb4.mono HBO3.out.size)
    obtain ⟨_, ⟨p0, p1, p2, p3⟩, ⟨r0, r1, r2, r3⟩, ⟨z0, z1, z2, z3⟩, N0, N1, N2⟩ := HBOX.out w4 HBN.out
    obtain ⟨⟨o0, o1, o2, o3⟩, y0, y1, y2, y3⟩ := HOB.out w4 HON.out
    clear hiu hb4
    go_wp2_with fail
    obtain ⟨wF, hwF⟩ : ∃ wF, wF = ((((w4.setCell ⟨w.heap.size + 1 + 1, 0, none⟩ (.slice s1.a1 M.mem.length s1.c1)).setCell ⟨w.heap.size + 1 + 1, 1, none⟩ (.slice s1.a2 M.pend.length s1.c2)).setCell ⟨w.heap.size + 1 + 1, 2, none⟩ (.slice s1.a3 M.tlb.length s1.c3)).setCell ⟨w.heap.size + 1 + 1, 3, none⟩ (.slice s1.a4 M.wc.length s1.c4)) := ⟨_, rfl⟩
    rw [← hwF]
    have hTF : Touch (fun k => k = w.heap.size + 2) w4 wF := by
      rw [hwF]
      exact Touch.put (Touch.put (Touch.put (Touch.put (Touch.none _) _ _ (by rfl)) _ _ (by rfl)) _ _ (by rfl)) _ _ (by rfl)
    have f0 : wF.cell? ⟨w.heap.size + 1 + 1, 0, none⟩ = some (.slice s1.a1 M.mem.length s1.c1) := by rw [hwF]; simp [go_sem, r0]
    have f1 : wF.cell? ⟨w.heap.size + 1 + 1, 1, none⟩ = some (.slice s1.a2 M.pend.length s1.c2) := by rw [hwF]; simp [go_sem, r1]
    have f2 : wF.cell? ⟨w.heap.size + 1 + 1, 2, none⟩ = some (.slice s1.a3 M.tlb.length s1.c3) := by rw [hwF]; simp [go_sem, r2]
    have f3 : wF.cell? ⟨w.heap.size + 1 + 1, 3, none⟩ = some (.slice s1.a4 M.wc.length s1.c4) := by rw [hwF]; simp [go_sem, r3]
    have rF : MRow wF w1.heap.size (s1.mv M) M := by
      refine (HRO.out.below HON.out).touch hTF (fun k hk hh => ?_)
      have h1 := (HO2.out k hk).1
      have h2 := HB1.out.size
      have h3 := HZ.out
      omega
    have hbF : Below w.heap.size w wF := Touch.below (HBB.out.trans (HBN.out.mono HBB.out.size)) hTF (by have := HBN.out.size; have := HZ.out; omega) (fun k hk => by omega)
    exact bodyPost_ret (v := .tuple #[.agg #[.slice s1.a1 M.mem.length s1.c1, .slice s1.a2 M.pend.length s1.c2, .slice s1.a3 M.tlb.length s1.c3, .slice s1.a4 M.wc.length s1.c4], .int .i64 4]) (by simp [results, Tryz.results14, go_sem, f0, f1, f2, f3]) rfl ⟨s1, by first | rfl | simp, rF.rebase (by have := HB1.out.size; have := HZ.out; omega), hbF⟩

set_option maxRecDepth 100000 in
set_option maxHeartbeats 8000000 in
theorem stepS_wrno (s : SV) (M : Mach) (b : Nat) (A Bb W : Int) (w : World) (hs : M.Small) (hv : validB M = true) (hop : opB M ⟨1, A, Bb, W⟩ = true) (cd : Int) (hcd : ¬ cd = 0) (hcod : ∀ wX, MRow wX b (s.mv M) M → Calls Tryz.prog 67 #[.agg #[.slice s.a1 M.mem.length s.c1, .slice s.a2 M.pend.length s.c2, .slice s.a3 M.tlb.length s.c3, .slice s.a4 M.wc.length s.c4], .agg #[.int .i64 1, .int .i64 A, .int .i64 Bb, .int .u64 W]] wX fun e w' => e = .returned (.int .i64 cd) ∧ Below wX.heap.size wX w') (h : MRow w b (s.mv M) M) :
    Calls Tryz.prog 14 #[.agg #[.slice s.a1 M.mem.length s.c1, .slice s.a2 M.pend.length s.c2, .slice s.a3 M.tlb.length s.c3, .slice s.a4 M.wc.length s.c4], .agg #[.int .i64 1, .int .i64 A, .int .i64 Bb, .int .u64 W]] w fun e w' => ∃ s' : SV, e = .returned (.tuple #[.agg #[.slice s'.a1 M.mem.length s'.c1, .slice s'.a2 M.pend.length s'.c2, .slice s'.a3 M.tlb.length s'.c3, .slice s'.a4 M.wc.length s'.c4], .int .i64 cd]) ∧ MRow w' w.heap.size (s'.mv M) M ∧ Below w.heap.size w w' := by
  obtain ⟨wb, hwb⟩ : ∃ wb, wb = ((w.alloc (.cells #[.slice s.a1 M.mem.length s.c1, .slice s.a2 M.pend.length s.c2, .slice s.a3 M.tlb.length s.c3, .slice s.a4 M.wc.length s.c4] 36)).alloc (.cells #[.int .i64 1, .int .i64 A, .int .i64 Bb, .int .u64 W] 51)).alloc (.cells #[.slice none 0 0, .slice none 0 0, .slice none 0 0, .slice none 0 0] 36) := ⟨_, rfl⟩
  have hbb : Below w.heap.size w wb := by rw [hwb]; exact (((Below.refl _ _).alloc (Nat.le_refl _) _).alloc (by simp) _).alloc (by simp; omega) _
  have hzb : wb.heap.size = w.heap.size + 3 := by rw [hwb]; simp
  have HBOX : Hid (∀ wX, Below wb.heap.size wb wX → (wX.cell? ⟨w.heap.size, 0, none⟩ = some (.slice s.a1 M.mem.length s.c1) ∧ wX.cell? ⟨w.heap.size, 1, none⟩ = some (.slice s.a2 M.pend.length s.c2) ∧ wX.cell? ⟨w.heap.size, 2, none⟩ = some (.slice s.a3 M.tlb.length s.c3) ∧ wX.cell? ⟨w.heap.size, 3, none⟩ = some (.slice s.a4 M.wc.length s.c4)) ∧ (wX.cell? ⟨w.heap.size + 1, 0, none⟩ = some (.int .i64 1) ∧ wX.cell? ⟨w.heap.size + 1, 1, none⟩ = some (.int .i64 A) ∧ wX.cell? ⟨w.heap.size + 1, 2, none⟩ = some (.int .i64 Bb) ∧ wX.cell? ⟨w.heap.size + 1, 3, none⟩ = some (.int .u64 W)) ∧ (wX.cell? ⟨w.heap.size + 2, 0, none⟩ = some (.slice none 0 0) ∧ wX.cell? ⟨w.heap.size + 2, 1, none⟩ = some (.slice none 0 0) ∧ wX.cell? ⟨w.heap.size + 2, 2, none⟩ = some (.slice none 0 0) ∧ wX.cell? ⟨w.heap.size + 2, 3, none⟩ = some (.slice none 0 0)) ∧ (wX.frozen? ⟨w.heap.size + 2, 0, none⟩ = false ∧ wX.frozen? ⟨w.heap.size + 2, 1, none⟩ = false ∧ wX.frozen? ⟨w.heap.size + 2, 2, none⟩ = false ∧ wX.frozen? ⟨w.heap.size + 2, 3, none⟩ = false) ∧ w.heap.size < wX.heap.size ∧ w.heap.size + 1 < wX.heap.size ∧ w.heap.size + 2 < wX.heap.size) := fun wX hX => by
    have hsz := hX.size
    refine ⟨⟨?_, ?_, ?_, ?_⟩, ⟨?_, ?_, ?_, ?_⟩, ⟨?_, ?_, ?_, ?_⟩, ⟨?_, ?_, ?_, ?_⟩, by omega, by omega, by omega⟩
    iterate 12 (exact (hX.cell (by simp; omega)).trans (by rw [hwb]; simp [go_sem]))
    iterate 4 (exact (hX.frozen (by simp; omega)).trans (by rw [hwb]; simp [go_sem]))
  have hvm := specValid_any s M b wb hs (h.below hbb)
  rw [hv, hwb] at hvm
  have HM : Hid (∀ wX, Below wb.heap.size wb wX → MRow wX b (s.mv M) M) := fun wX hX => h.below (hbb.trans (hX.mono (by omega)))
  have HCP : Hid (∀ wX, Below wb.heap.size wb wX → _) := fun wX hX => copyM_any s M b wX hs (HM.out wX hX)
  have HWF : Hid (∀ wX, Calls Tryz.prog 66 #[.agg #[.slice s.a1 M.mem.length s.c1, .slice s.a2 M.pend.length s.c2, .slice s.a3 M.tlb.length s.c3, .slice s.a4 M.wc.length s.c4], .agg #[.int .i64 1, .int .i64 A, .int .i64 Bb, .int .u64 W]] wX fun e w' => e = .returned (.bool (opB M ⟨1, A, Bb, W⟩)) ∧ Below wX.heap.size wX w') := fun wX => wellS_any s M 1 A Bb W wX hs
  have HWB : Hid (wb = _) := hwb
  have HBB : Hid (Below _ w wb) := hbb
  have HZ : Hid (wb.heap.size = w.heap.size + 3) := hzb
  have HVV : Hid (validB M = true) := hv
  clear hwb hbb hzb h hv
  go_enter Tryz.func14, Tryz.ntmps14
  go_wp2_with fail
  refine hvm.mono ?_
  rintro e w1 ⟨rfl, hb1'⟩
  have hb1 : Below wb.heap.size wb w1 := by rw [HWB.out]; exact hb1'
  have HB1 : Hid (Below wb.heap.size wb w1) := hb1
  clear hb1' hvm
  obtain ⟨⟨q0, q1, q2, q3⟩, _, _, _, N0, N1, N2⟩ := HBOX.out w1 hb1
  clear hb1
  go_wp2_with fail
  refine (HCP.out w1 HB1.out).mono ?_
  rintro e w2 ⟨s1, rfl, hr2, hap2, hb2⟩
  obtain ⟨wO, hwO⟩ : ∃ wO, wO = w2.alloc (.cells #[.slice s1.a1 M.mem.length s1.c1, .slice s1.a2 M.pend.length s1.c2, .slice s1.a3 M.tlb.length s1.c3, .slice s1.a4 M.wc.length s1.c4] 36) := ⟨_, rfl⟩
  have hzO : wO.heap.size = w2.heap.size + 1 := by rw [hwO]; simp
  have b2 : Below wb.heap.size wb w2 := HB1.out.trans (hb2.mono HB1.out.size)
  have bO : Below wb.heap.size wb wO := by rw [hwO]; exact b2.alloc b2.size _
  have rO : MRow wO w1.heap.size (s1.mv M) M := by rw [hwO]; exact hr2.below ((Below.refl _ _).alloc (Nat.le_refl _) _)
  have HOB : Hid (∀ wX, Below wO.heap.size wO wX → (wX.cell? ⟨w2.heap.size, 0, none⟩ = some (.slice s1.a1 M.mem.length s1.c1) ∧ wX.cell? ⟨w2.heap.size, 1, none⟩ = some (.slice s1.a2 M.pend.length s1.c2) ∧ wX.cell? ⟨w2.heap.size, 2, none⟩ = some (.slice s1.a3 M.tlb.length s1.c3) ∧ wX.cell? ⟨w2.heap.size, 3, none⟩ = some (.slice s1.a4 M.wc.length s1.c4)) ∧ (wX.frozen? ⟨w2.heap.size, 0, none⟩ = false ∧ wX.frozen? ⟨w2.heap.size, 1, none⟩ = false ∧ wX.frozen? ⟨w2.heap.size, 2, none⟩ = false ∧ wX.frozen? ⟨w2.heap.size, 3, none⟩ = false)) := fun wX hX => by
    refine ⟨⟨?_, ?_, ?_, ?_⟩, ?_, ?_, ?_, ?_⟩
    iterate 4 (exact (hX.cell (by simp; omega)).trans (by rw [hwO]; simp [go_sem]))
    iterate 4 (exact (hX.frozen (by simp; omega)).trans (by rw [hwO]; simp [go_sem]))
  obtain ⟨⟨q0, q1, q2, q3⟩, ⟨p0, p1, p2, p3⟩, _, _, N0, N1, N2⟩ := HBOX.out w2 b2
  have hwf := HWF.out wO
  rw [hop, hwO] at hwf
  have HWO : Hid (wO = _) := hwO
  have HRO : Hid (MRow wO w1.heap.size (s1.mv M) M) := rO
  have HO2 : Hid (∀ k, (s1.mv M).owns k → w1.heap.size ≤ k ∧ k < w2.heap.size) := hr2.own
  have HAP : Hid ((s1.mv M).apart) := hap2
  have HBO : Hid (Below wb.heap.size wb wO) := bO
  have HZO : Hid (wO.heap.size = w2.heap.size + 1) := hzO
  have HS12 : Hid (w1.heap.size ≤ w2.heap.size) := hb2.size
  have N3 : w.heap.size + 2 < w2.heap.size := N2
  clear hr2 hb2 hwO b2 bO rO hzO hap2
  go_wp2_with fail
  refine hwf.mono ?_
  rintro e w3 ⟨rfl, hb3'⟩
  have hb3 : Below wO.heap.size wO w3 := by rw [HWO.out]; exact hb3'
  have b3 : Below wb.heap.size wb w3 := HBO.out.trans (hb3.mono HBO.out.size)
  have HB3 : Hid (Below wb.heap.size wb w3) := b3
  have HBO3 : Hid (Below wO.heap.size wO w3) := hb3
  obtain ⟨⟨q0, q1, q2, q3⟩, ⟨p0, p1, p2, p3⟩, ⟨r0, r1, r2, r3⟩, ⟨z0, z1, z2, z3⟩, N0, N1, N2⟩ := HBOX.out w3 b3
  obtain ⟨⟨o0, o1, o2, o3⟩, y0, y1, y2, y3⟩ := HOB.out w3 hb3
  clear hwf hb3' hb3 b3
  have hcc := hcod w3 (HM.out w3 HB3.out)
  have dc : (cd == 0) = false := by simpa using hcd
  clear hcod hcd
  go_wp2_with fail
  refine hcc.mono ?_
  rintro e w4 ⟨rfl, hb4⟩
  have HBN : Hid (Below wb.heap.size wb w4) := HB3.out.trans (hb4.mono HB3.out.size)
  have HON : Hid (Below wO.heap.size wO w4) := HBO3.out.trans (hb4.mono HBO3.out.size)
  obtain ⟨_, ⟨p0, p1, p2, p3⟩, ⟨r0, r1, r2, r3⟩, ⟨z0, z1, z2, z3⟩, N0, N1, N2⟩ := HBOX.out w4 HBN.out
  obtain ⟨⟨o0, o1, o2, o3⟩, y0, y1, y2, y3⟩ := HOB.out w4 HON.out
  clear hcc hb4
  go_wp2_with fail
  obtain ⟨wF, hwF⟩ : ∃ wF, wF = ((((w4.setCell ⟨w.heap.size + 1 + 1, 0, none⟩ (.slice s1.a1 M.mem.length s1.c1)).setCell ⟨w.heap.size + 1 + 1, 1, none⟩ (.slice s1.a2 M.pend.length s1.c2)).setCell ⟨w.heap.size + 1 + 1, 2, none⟩ (.slice s1.a3 M.tlb.length s1.c3)).setCell ⟨w.heap.size + 1 + 1, 3, none⟩ (.slice s1.a4 M.wc.length s1.c4)) := ⟨_, rfl⟩
  rw [← hwF]
  have hTF : Touch (fun k => k = w.heap.size + 2) w4 wF := by
    rw [hwF]
    exact Touch.put (Touch.put (Touch.put (Touch.put (Touch.none _) _ _ (by rfl)) _ _ (by rfl)) _ _ (by rfl)) _ _ (by rfl)
  have f0 : wF.cell? ⟨w.heap.size + 1 + 1, 0, none⟩ = some (.slice s1.a1 M.mem.length s1.c1) := by rw [hwF]; simp [go_sem, r0]
  have f1 : wF.cell? ⟨w.heap.size + 1 + 1, 1, none⟩ = some (.slice s1.a2 M.pend.length s1.c2) := by rw [hwF]; simp [go_sem, r1]
  have f2 : wF.cell? ⟨w.heap.size + 1 + 1, 2, none⟩ = some (.slice s1.a3 M.tlb.length s1.c3) := by rw [hwF]; simp [go_sem, r2]
  have f3 : wF.cell? ⟨w.heap.size + 1 + 1, 3, none⟩ = some (.slice s1.a4 M.wc.length s1.c4) := by rw [hwF]; simp [go_sem, r3]
  have rF : MRow wF w1.heap.size (s1.mv M) M := by
    refine (HRO.out.below HON.out).touch hTF (fun k hk hh => ?_)
    have h1 := (HO2.out k hk).1
    have h2 := HB1.out.size
    have h3 := HZ.out
    omega
  have hbF : Below w.heap.size w wF := Touch.below (HBB.out.trans (HBN.out.mono HBB.out.size)) hTF (by have := HBN.out.size; have := HZ.out; omega) (fun k hk => by omega)
  exact bodyPost_ret (v := .tuple #[.agg #[.slice s1.a1 M.mem.length s1.c1, .slice s1.a2 M.pend.length s1.c2, .slice s1.a3 M.tlb.length s1.c3, .slice s1.a4 M.wc.length s1.c4], .int .i64 cd]) (by simp [results, Tryz.results14, go_sem, f0, f1, f2, f3]) rfl ⟨s1, by first | rfl | simp, rF.rebase (by have := HB1.out.size; have := HZ.out; omega), hbF⟩

set_option maxRecDepth 100000 in
set_option maxHeartbeats 8000000 in
theorem stepS_wryes (s : SV) (M : Mach) (b : Nat) (A Bb W : Int) (w : World) (hs : M.Small) (hv : validB M = true) (hop : opB M ⟨1, A, Bb, W⟩ = true) (hcod : ∀ wX, MRow wX b (s.mv M) M → Calls Tryz.prog 67 #[.agg #[.slice s.a1 M.mem.length s.c1, .slice s.a2 M.pend.length s.c2, .slice s.a3 M.tlb.length s.c3, .slice s.a4 M.wc.length s.c4], .agg #[.int .i64 1, .int .i64 A, .int .i64 Bb, .int .u64 W]] wX fun e w' => e = .returned (.int .i64 0) ∧ Below wX.heap.size wX w') (h : MRow w b (s.mv M) M) :
    Calls Tryz.prog 14 #[.agg #[.slice s.a1 M.mem.length s.c1, .slice s.a2 M.pend.length s.c2, .slice s.a3 M.tlb.length s.c3, .slice s.a4 M.wc.length s.c4], .agg #[.int .i64 1, .int .i64 A, .int .i64 Bb, .int .u64 W]] w fun e w' => ∃ s' : SV, e = .returned (.tuple #[.agg #[.slice s'.a1 (⟨M.mem, M.pend ++ [⟨A, W⟩], M.tlb, M.wc⟩ : Mach).mem.length s'.c1, .slice s'.a2 (⟨M.mem, M.pend ++ [⟨A, W⟩], M.tlb, M.wc⟩ : Mach).pend.length s'.c2, .slice s'.a3 (⟨M.mem, M.pend ++ [⟨A, W⟩], M.tlb, M.wc⟩ : Mach).tlb.length s'.c3, .slice s'.a4 (⟨M.mem, M.pend ++ [⟨A, W⟩], M.tlb, M.wc⟩ : Mach).wc.length s'.c4], .int .i64 0]) ∧ MRow w' w.heap.size (s'.mv (⟨M.mem, M.pend ++ [⟨A, W⟩], M.tlb, M.wc⟩ : Mach)) (⟨M.mem, M.pend ++ [⟨A, W⟩], M.tlb, M.wc⟩ : Mach) ∧ Below w.heap.size w w' := by
  have y2s := hs.p
  obtain ⟨iE, hiE, hz0, hz1, hz2⟩ := info_parts infoWrite
  obtain ⟨wb, hwb⟩ : ∃ wb, wb = ((w.alloc (.cells #[.slice s.a1 M.mem.length s.c1, .slice s.a2 M.pend.length s.c2, .slice s.a3 M.tlb.length s.c3, .slice s.a4 M.wc.length s.c4] 36)).alloc (.cells #[.int .i64 1, .int .i64 A, .int .i64 Bb, .int .u64 W] 51)).alloc (.cells #[.slice none 0 0, .slice none 0 0, .slice none 0 0, .slice none 0 0] 36) := ⟨_, rfl⟩
  have hbb : Below w.heap.size w wb := by rw [hwb]; exact (((Below.refl _ _).alloc (Nat.le_refl _) _).alloc (by simp) _).alloc (by simp; omega) _
  have hzb : wb.heap.size = w.heap.size + 3 := by rw [hwb]; simp
  have HBOX : Hid (∀ wX, Below wb.heap.size wb wX → (wX.cell? ⟨w.heap.size, 0, none⟩ = some (.slice s.a1 M.mem.length s.c1) ∧ wX.cell? ⟨w.heap.size, 1, none⟩ = some (.slice s.a2 M.pend.length s.c2) ∧ wX.cell? ⟨w.heap.size, 2, none⟩ = some (.slice s.a3 M.tlb.length s.c3) ∧ wX.cell? ⟨w.heap.size, 3, none⟩ = some (.slice s.a4 M.wc.length s.c4)) ∧ (wX.cell? ⟨w.heap.size + 1, 0, none⟩ = some (.int .i64 1) ∧ wX.cell? ⟨w.heap.size + 1, 1, none⟩ = some (.int .i64 A) ∧ wX.cell? ⟨w.heap.size + 1, 2, none⟩ = some (.int .i64 Bb) ∧ wX.cell? ⟨w.heap.size + 1, 3, none⟩ = some (.int .u64 W)) ∧ (wX.cell? ⟨w.heap.size + 2, 0, none⟩ = some (.slice none 0 0) ∧ wX.cell? ⟨w.heap.size + 2, 1, none⟩ = some (.slice none 0 0) ∧ wX.cell? ⟨w.heap.size + 2, 2, none⟩ = some (.slice none 0 0) ∧ wX.cell? ⟨w.heap.size + 2, 3, none⟩ = some (.slice none 0 0)) ∧ (wX.frozen? ⟨w.heap.size + 2, 0, none⟩ = false ∧ wX.frozen? ⟨w.heap.size + 2, 1, none⟩ = false ∧ wX.frozen? ⟨w.heap.size + 2, 2, none⟩ = false ∧ wX.frozen? ⟨w.heap.size + 2, 3, none⟩ = false) ∧ w.heap.size < wX.heap.size ∧ w.heap.size + 1 < wX.heap.size ∧ w.heap.size + 2 < wX.heap.size) := fun wX hX => by
    have hsz := hX.size
    refine ⟨⟨?_, ?_, ?_, ?_⟩, ⟨?_, ?_, ?_, ?_⟩, ⟨?_, ?_, ?_, ?_⟩, ⟨?_, ?_, ?_, ?_⟩, by omega, by omega, by omega⟩
    iterate 12 (exact (hX.cell (by simp; omega)).trans (by rw [hwb]; simp [go_sem]))
    iterate 4 (exact (hX.frozen (by simp; omega)).trans (by rw [hwb]; simp [go_sem]))
  have hvm := specValid_any s M b wb hs (h.below hbb)
  rw [hv, hwb] at hvm
  have HM : Hid (∀ wX, Below wb.heap.size wb wX → MRow wX b (s.mv M) M) := fun wX hX => h.below (hbb.trans (hX.mono (by omega)))
  have HCP : Hid (∀ wX, Below wb.heap.size wb wX → _) := fun wX hX => copyM_any s M b wX hs (HM.out wX hX)
  have HWF : Hid (∀ wX, Calls Tryz.prog 66 #[.agg #[.slice s.a1 M.mem.length s.c1, .slice s.a2 M.pend.length s.c2, .slice s.a3 M.tlb.length s.c3, .slice s.a4 M.wc.length s.c4], .agg #[.int .i64 1, .int .i64 A, .int .i64 Bb, .int .u64 W]] wX fun e w' => e = .returned (.bool (opB M ⟨1, A, Bb, W⟩)) ∧ Below wX.heap.size wX w') := fun wX => wellS_any s M 1 A Bb W wX hs
  have HWB : Hid (wb = _) := hwb
  have HBB : Hid (Below _ w wb) := hbb
  have HZ : Hid (wb.heap.size = w.heap.size + 3) := hzb
  have HVV : Hid (validB M = true) := hv
  clear hwb hbb hzb h hv
  go_enter Tryz.func14, Tryz.ntmps14
  go_wp2_with fail
  refine hvm.mono ?_
  rintro e w1 ⟨rfl, hb1'⟩
  have hb1 : Below wb.heap.size wb w1 := by rw [HWB.out]; exact hb1'
  have HB1 : Hid (Below wb.heap.size wb w1) := hb1
  clear hb1' hvm
  obtain ⟨⟨q0, q1, q2, q3⟩, _, _, _, N0, N1, N2⟩ := HBOX.out w1 hb1
  clear hb1
  go_wp2_with fail
  refine (HCP.out w1 HB1.out).mono ?_
  rintro e w2 ⟨s1, rfl, hr2, hap2, hb2⟩
  obtain ⟨wO, hwO⟩ : ∃ wO, wO = w2.alloc (.cells #[.slice s1.a1 M.mem.length s1.c1, .slice s1.a2 M.pend.length s1.c2, .slice s1.a3 M.tlb.length s1.c3, .slice s1.a4 M.wc.length s1.c4] 36) := ⟨_, rfl⟩
  have hzO : wO.heap.size = w2.heap.size + 1 := by rw [hwO]; simp
  have b2 : Below wb.heap.size wb w2 := HB1.out.trans (hb2.mono HB1.out.size)
  have bO : Below wb.heap.size wb wO := by rw [hwO]; exact b2.alloc b2.size _
  have rO : MRow wO w1.heap.size (s1.mv M) M := by rw [hwO]; exact hr2.below ((Below.refl _ _).alloc (Nat.le_refl _) _)
  have HOB : Hid (∀ wX, Below wO.heap.size wO wX → (wX.cell? ⟨w2.heap.size, 0, none⟩ = some (.slice s1.a1 M.mem.length s1.c1) ∧ wX.cell? ⟨w2.heap.size, 1, none⟩ = some (.slice s1.a2 M.pend.length s1.c2) ∧ wX.cell? ⟨w2.heap.size, 2, none⟩ = some (.slice s1.a3 M.tlb.length s1.c3) ∧ wX.cell? ⟨w2.heap.size, 3, none⟩ = some (.slice s1.a4 M.wc.length s1.c4)) ∧ (wX.frozen? ⟨w2.heap.size, 0, none⟩ = false ∧ wX.frozen? ⟨w2.heap.size, 1, none⟩ = false ∧ wX.frozen? ⟨w2.heap.size, 2, none⟩ = false ∧ wX.frozen? ⟨w2.heap.size, 3, none⟩ = false)) := fun wX hX => by
    refine ⟨⟨?_, ?_, ?_, ?_⟩, ?_, ?_, ?_, ?_⟩
    iterate 4 (exact (hX.cell (by simp; omega)).trans (by rw [hwO]; simp [go_sem]))
    iterate 4 (exact (hX.frozen (by simp; omega)).trans (by rw [hwO]; simp [go_sem]))
  obtain ⟨⟨q0, q1, q2, q3⟩, ⟨p0, p1, p2, p3⟩, _, _, N0, N1, N2⟩ := HBOX.out w2 b2
  have hwf := HWF.out wO
  rw [hop, hwO] at hwf
  have HWO : Hid (wO = _) := hwO
  have HRO : Hid (MRow wO w1.heap.size (s1.mv M) M) := rO
  have HO2 : Hid (∀ k, (s1.mv M).owns k → w1.heap.size ≤ k ∧ k < w2.heap.size) := hr2.own
  have HAP : Hid ((s1.mv M).apart) := hap2
  have HBO : Hid (Below wb.heap.size wb wO) := bO
  have HZO : Hid (wO.heap.size = w2.heap.size + 1) := hzO
  have HS12 : Hid (w1.heap.size ≤ w2.heap.size) := hb2.size
  have N3 : w.heap.size + 2 < w2.heap.size := N2
  clear hr2 hb2 hwO b2 bO rO hzO hap2
  go_wp2_with fail
  refine hwf.mono ?_
  rintro e w3 ⟨rfl, hb3'⟩
  have hb3 : Below wO.heap.size wO w3 := by rw [HWO.out]; exact hb3'
  have b3 : Below wb.heap.size wb w3 := HBO.out.trans (hb3.mono HBO.out.size)
  have HB3 : Hid (Below wb.heap.size wb w3) := b3
  have HBO3 : Hid (Below wO.heap.size wO w3) := hb3
  obtain ⟨⟨q0, q1, q2, q3⟩, ⟨p0, p1, p2, p3⟩, ⟨r0, r1, r2, r3⟩, ⟨z0, z1, z2, z3⟩, N0, N1, N2⟩ := HBOX.out w3 b3
  obtain ⟨⟨o0, o1, o2, o3⟩, y0, y1, y2, y3⟩ := HOB.out w3 hb3
  clear hwf hb3' hb3 b3
  have hcc := hcod w3 (HM.out w3 HB3.out)
  clear hcod
  go_wp2_with fail
  refine hcc.mono ?_
  rintro e w4 ⟨rfl, hb4⟩
  have HBN4 : Hid (Below wb.heap.size wb w4) := HB3.out.trans (hb4.mono HB3.out.size)
  have HON4 : Hid (Below wO.heap.size wO w4) := HBO3.out.trans (hb4.mono HBO3.out.size)
  obtain ⟨_, ⟨p0, p1, p2, p3⟩, _, _, N0, N1, N2⟩ := HBOX.out w4 HBN4.out
  obtain ⟨⟨o0, o1, o2, o3⟩, y0, y1, y2, y3⟩ := HOB.out w4 HON4.out
  have HRN : Hid (MRow w4 w1.heap.size (s1.mv M) M) := HRO.out.below HON4.out
  have HOWN : Hid (w4.ownsRow w1.heap.size 110 2 (.slice s1.a2 M.pend.length s1.c2) M.pend.length (ecells eWrite M.pend)) := HRN.out.p
  have hsz4 : w2.heap.size < w4.heap.size := by have := HON4.out.size; have := HZO.out; omega
  have hs14 : w1.heap.size ≤ w4.heap.size := by have := HS12.out; omega
  clear hcc hb4
  go_wp2_with (at_builtin; refine wpList_append_lies _ rfl (.tmp 36) (.tmp 42) 32 rfl w1.heap.size 110 iE _ 2 16 Tryz.underlying32 hiE hz0 hz1 hz2 rfl (by omega) _ _ _ rfl (World.ownsRow.alloc HOWN.out _) ⟨w4.heap.size, 0, none⟩ 1 1 [.int .i64 A, .int .u64 W] rfl rfl ?c1 ?c2 (by omega) ?c3 ?c4 ?c5 (w4.heap.size + 1) ?c6 ?_)
  case c1 => exact World.news_of_block (heap_alloc_new w4 (.cells #[.int .i64 A, .int .u64 W] 110))
  case c2 => intro u hu; simp at hu; rcases hu with rfl | rfl <;> rfl
  case c3 => unfold maxLen; omega
  case c4 => omega
  case c5 => simp; omega
  case c6 => simp
  intro g1 cap1 wn hown hgrow hat hlt3
  rw [own_slice] at hgrow hat
  obtain ⟨wA, hwA⟩ : ∃ wA, wA = w4.alloc (.cells #[.int .i64 A, .int .u64 W] 110) := ⟨_, rfl⟩
  rw [← hwA] at hgrow
  have hzA : wA.heap.size = w4.heap.size + 1 := by rw [hwA]; simp
  have bA : Below w4.heap.size w4 wA := by rw [hwA]; exact (Below.refl _ _).alloc (Nat.le_refl _) _
  have hol : ∀ k, oOf s1.a2 = some k → w1.heap.size ≤ k ∧ k < w2.heap.size := fun k hk => HO2.out k (.inr (.inl (by simp only [SV.mv, own_slice]; exact hk)))
  have hblk : ∀ k, k < w4.heap.size → oOf s1.a2 ≠ some k → wn.heap[k]? = w4.heap[k]? := fun k hk hn => (hgrow.block k (by omega) (fun e => hn e.symm)).trans (bA.block k hk)
  have c1n : wn.cell? ⟨w2.heap.size, 1, none⟩ = some (.slice s1.a2 M.pend.length s1.c2) := (World.cell?_of_block (hblk w2.heap.size hsz4 (fun e => by have := hol _ e; omega))).trans o1
  have c0n : wn.cell? ⟨w2.heap.size, 0, none⟩ = some (.slice s1.a1 M.mem.length s1.c1) := (World.cell?_of_block (hblk w2.heap.size hsz4 (fun e => by have := hol _ e; omega))).trans o0
  have c2n : wn.cell? ⟨w2.heap.size, 2, none⟩ = some (.slice s1.a3 M.tlb.length s1.c3) := (World.cell?_of_block (hblk w2.heap.size hsz4 (fun e => by have := hol _ e; omega))).trans o2
  have c3n : wn.cell? ⟨w2.heap.size, 3, none⟩ = some (.slice s1.a4 M.wc.length s1.c4) := (World.cell?_of_block (hblk w2.heap.size hsz4 (fun e => by have := hol _ e; omega))).trans o3
  have f1n : wn.frozen? ⟨w2.heap.size, 1, none⟩ = false := (World.frozen?_of_block (hblk w2.heap.size hsz4 (fun e => by have := hol _ e; omega))).trans y1
  have hN0 : wn.heap.size ≥ w4.heap.size := by have := hgrow.size; omega
  have bN : Below wb.heap.size wb wn := ⟨hgrow.os.trans (bA.os.trans HBN4.out.os), hgrow.tape.trans (bA.tape.trans HBN4.out.tape), hgrow.output.trans (bA.output.trans HBN4.out.output), by have := HBN4.out.size; omega, fun k hk => (hblk k (by have := HBN4.out.size; omega) (fun e => by have := hol _ e; have := HB1.out.size; omega)).trans (HBN4.out.block k hk)⟩
  obtain ⟨_, _, ⟨r0, r1, r2, r3⟩, ⟨z0, z1, z2, z3⟩, N0, N1, N2⟩ := HBOX.out wn bN
  have hnew : ERow eWrite wn w1.heap.size (.slice (some ⟨g1, 0, none⟩) (M.pend.length + 1) cap1) (M.pend ++ [⟨A, W⟩]) := ERow.snocL (m := M.pend.length + 1) rfl hown
  have hgne : ¬ g1 = w2.heap.size := fun e => by
    rcases hat with h' | h'
    · have := hol _ h'; omega
    · omega
  have HNEW : Hid (ERow eWrite wn w1.heap.size _ _) := hnew
  have HTN : Hid (Touch (fun k => oOf s1.a2 = some k) w4 wn) := ⟨hgrow.os.trans bA.os, hgrow.tape.trans bA.tape, hgrow.output.trans bA.output, hN0, hblk⟩
  have HGN : Hid (¬ g1 = w2.heap.size) := hgne
  have HNB : Hid (Below wb.heap.size wb wn) := bN
  have HHAT : Hid (oOf s1.a2 = some g1 ∨ g1 = w4.heap.size + 1) := hat
  have N5 : w2.heap.size < wn.heap.size := by omega
  have N6 : ¬ w2.heap.size = w.heap.size + 2 := by omega
  clear hown hgrow hat hwA hzA bA hblk hnew hgne bN o0 o1 o2 o3 y0 y1 y2 y3
  go_wp2_with fail
  obtain ⟨wM, hwM⟩ : ∃ wM, wM = wn.setCell ⟨w2.heap.size, 1, none⟩ (.slice (some ⟨g1, 0, none⟩) (M.pend.length + 1) cap1) := ⟨_, rfl⟩
  rw [← hwM]
  have HBN : Hid (Below wb.heap.size wb wM) := by rw [hwM]; exact HNB.out.setCell (by have := HZ.out; show wb.heap.size ≤ w2.heap.size; omega) _
  have HTM : Hid (Touch (fun k => k = w2.heap.size) wn wM) := by rw [hwM]; exact ⟨rfl, rfl, rfl, by simp, fun k hk hn => Below.heap_setCell _ _ _ _ hn⟩
  obtain ⟨_, _, ⟨r0, r1, r2, r3⟩, _, _, _, _⟩ := HBOX.out wM HBN.out
  obtain ⟨wF, hwF⟩ : ∃ wF, wF = ((((wM.setCell ⟨w.heap.size + 1 + 1, 0, none⟩ (.slice s1.a1 M.mem.length s1.c1)).setCell ⟨w.heap.size + 1 + 1, 1, none⟩ (.slice (some ⟨g1, 0, none⟩) (M.pend.length + 1) cap1)).setCell ⟨w.heap.size + 1 + 1, 2, none⟩ (.slice s1.a3 M.tlb.length s1.c3)).setCell ⟨w.heap.size + 1 + 1, 3, none⟩ (.slice s1.a4 M.wc.length s1.c4)) := ⟨_, rfl⟩
  rw [← hwF]
  have hTF : Touch (fun k => k = w.heap.size + 2) wM wF := by
    rw [hwF]
    exact Touch.put (Touch.put (Touch.put (Touch.put (Touch.none _) _ _ (by rfl)) _ _ (by rfl)) _ _ (by rfl)) _ _ (by rfl)
  have f0 : wF.cell? ⟨w.heap.size + 1 + 1, 0, none⟩ = some (.slice s1.a1 M.mem.length s1.c1) := by rw [hwF]; simp [go_sem, r0]
  have f1 : wF.cell? ⟨w.heap.size + 1 + 1, 1, none⟩ = some (.slice (some ⟨g1, 0, none⟩) (M.pend.length + 1) cap1) := by rw [hwF]; simp [go_sem, r1]
  have f2 : wF.cell? ⟨w.heap.size + 1 + 1, 2, none⟩ = some (.slice s1.a3 M.tlb.length s1.c3) := by rw [hwF]; simp [go_sem, r2]
  have f3 : wF.cell? ⟨w.heap.size + 1 + 1, 3, none⟩ = some (.slice s1.a4 M.wc.length s1.c4) := by rw [hwF]; simp [go_sem, r3]
  have rF : MRow wF w1.heap.size ((⟨s1.a1, s1.c1, some ⟨g1, 0, none⟩, cap1, s1.a3, s1.c3, s1.a4, s1.c4⟩ : SV).mv (⟨M.mem, M.pend ++ [⟨A, W⟩], M.tlb, M.wc⟩ : Mach)) (⟨M.mem, M.pend ++ [⟨A, W⟩], M.tlb, M.wc⟩ : Mach) := by
    have e2 := HB1.out.size
    have e3 := HZ.out
    have e4 := HS12.out
    have hl : (M.pend ++ [(⟨A, W⟩ : WriteE)]).length = M.pend.length + 1 := by simp
    have hap := HAP.out
    have key : ∀ {α : Type} {E : Elt α} {v : Value} {xs : List α}, ERow E w4 w1.heap.size v xs → (∀ k, v.ownBlock = some k → oOf s1.a2 ≠ some k ∧ k < w2.heap.size) → ERow E wF w1.heap.size v xs := fun hr hk => by
      refine ((hr.touch HTN.out (fun k h1 h2 => (hk k h1).1 h2)).touch HTM.out (fun k h1 h2 => by have := (hk k h1).2; omega)).touch hTF (fun k h1 h2 => ?_)
      have := (hr.own k h1).1
      omega
    refine ⟨key HRN.out.w (fun k h1 => ⟨fun h2 => (hap k).1 h1 |>.1 (by simp only [SV.mv, own_slice]; exact h2), (HO2.out k (.inl h1)).2⟩), ?_, key HRN.out.t (fun k h1 => ⟨fun h2 => ((hap k).2.1 (by simp only [SV.mv, own_slice]; exact h2)).1 h1, (HO2.out k (.inr (.inr (.inl h1)))).2⟩), key HRN.out.c (fun k h1 => ⟨fun h2 => ((hap k).2.1 (by simp only [SV.mv, own_slice]; exact h2)).2 h1, (HO2.out k (.inr (.inr (.inr h1)))).2⟩)⟩
    show ERow eWrite wF w1.heap.size (.slice (some ⟨g1, 0, none⟩) (M.pend ++ [(⟨A, W⟩ : WriteE)]).length cap1) (M.pend ++ [⟨A, W⟩])
    rw [hl]
    refine (HNEW.out.touch HTM.out (fun k h1 h2 => ?_)).touch hTF (fun k h1 h2 => ?_)
    · have : g1 = k := by simpa [Value.ownBlock] using h1
      exact HGN.out (this.trans h2)
    · have := (HNEW.out.own k h1).1
      omega
  have hbF : Below w.heap.size w wF := Touch.below (HBB.out.trans (HBN.out.mono HBB.out.size)) hTF (by have := HBN.out.size; have := HZ.out; omega) (fun k hk => by omega)
  exact bodyPost_ret (v := .tuple #[.agg #[.slice s1.a1 M.mem.length s1.c1, .slice (some ⟨g1, 0, none⟩) (M.pend.length + 1) cap1, .slice s1.a3 M.tlb.length s1.c3, .slice s1.a4 M.wc.length s1.c4], .int .i64 0]) (by simp [results, Tryz.results14, go_sem, f0, f1, f2, f3]) rfl ⟨(⟨s1.a1, s1.c1, some ⟨g1, 0, none⟩, cap1, s1.a3, s1.c3, s1.a4, s1.c4⟩ : SV), by first | rfl | simp, rF.rebase (by have := HB1.out.size; have := HZ.out; omega), hbF⟩
end Go.Proofs.YtiiejckfcnmhoabGreat
