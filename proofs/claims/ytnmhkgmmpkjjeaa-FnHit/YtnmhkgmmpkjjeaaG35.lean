import Derived.Test.YtnmhkgmmpkjjeaaG33
import Derived.Test.YtnmhkgmmpkjjeaaG34
namespace Go.Proofs.Ytnmhkgmmpkjjeaa
open Go.ChangeShapes Go.WideShapes Go.ChangeAt Go.RowKit
set_option linter.unusedVariables false
set_option maxRecDepth 100000
attribute [local go_sem ↓] Go.wp_at_zero Go.wp_at_succ

/-! A drawn memory. -/
def drawM (cs : List Int) (p : Nat) : List Int × Nat :=
  if 6 ≤ tkV cs p 8 then (spoilZ cs (drawT cs (p + 1)).2 (drawT cs (p + 1)).1, (drawT cs (p + 1)).2 + 3) else drawT cs (p + 1)
theorem drawM_ok (cs : List Int) (p : Nat) (hc : Byt cs) (hp : p ≤ 90000) : Wrd (drawM cs p).1 ∧ (drawM cs p).1.length ≤ 417 ∧ (drawM cs p).2 ≤ p + 404 := by
  have h := drawT_ok cs (p + 1) hc (by omega)
  have hn := dN_bd cs
  have hx := dX_bd cs (p + 1) hc (by omega)
  have hl := h.len
  have hpp := h.pl
  unfold drawM
  split
  · have := spoilL_ok (drawT cs (p + 1)).1 (tkV cs (drawT cs (p + 1)).2 8) (tkV cs ((drawT cs (p + 1)).2 + 1) (drawT cs (p + 1)).1.length).toNat (tkV cs ((drawT cs (p + 1)).2 + 2) 64) h.wrd
    exact ⟨this.1, by have h2 := this.2; show (spoilZ _ _ _).length ≤ 417; unfold spoilZ; omega, by show (drawT cs (p + 1)).2 + 3 ≤ _; omega⟩
  · exact ⟨h.wrd, by omega, by omega⟩

set_option maxHeartbeats 2000000 in
theorem drawMem_any (a : Option Addr) (cap : Nat) (cs : List Int) (p : Nat) (w : World) (hc : Byt cs) (hp : p ≤ 90000) (hs : BAt w a cs) :
    Calls Try.prog 38 #[.slice a cs.length cap, .int .i64 (p : Int)] w fun e w' => ∃ g c, e = .returned (.tuple #[.agg #[.slice (some ⟨g, 0, none⟩) (drawM cs p).1.length c], .int .i64 ((drawM cs p).2 : Int)]) ∧ ERow eWord w' w.heap.size (.slice (some ⟨g, 0, none⟩) (drawM cs p).1.length c) (drawM cs p).1 ∧ Below w.heap.size w w' := by
  obtain ⟨wb, hwb⟩ : ∃ wb, wb = w.alloc (.cells #[.slice none 0 0] 25) := ⟨_, rfl⟩
  have hbb : Below w.heap.size w wb := by rw [hwb]; exact bal
  have hzb : w.heap.size < wb.heap.size := by rw [hwb]; simp
  have q0 : wb.cell? ⟨w.heap.size, 0, none⟩ = some (.slice none 0 0) := by rw [hwb]; simp [go_sem]
  have f0 : wb.frozen? ⟨w.heap.size, 0, none⟩ = false := by rw [hwb]; simp [go_sem]
  have HQ : Hid (∀ wX, Below wb.heap.size wb wX → wX.cell? ⟨w.heap.size, 0, none⟩ = some (.slice none 0 0) ∧ wX.frozen? ⟨w.heap.size, 0, none⟩ = false) := fun wX hX => ⟨(hX.cell (by simpa using hzb)).trans q0, (hX.frozen (by simpa using hzb)).trans f0⟩
  have t1 := take_any a cap cs p 8 wb hc (by omega) (by omega) (hs.below hbb)
  have HDT : Hid (∀ wX, Below wb.heap.size wb wX → Calls Try.prog 95 #[.slice a cs.length cap, .int .i64 ((p : Int) + 1)] wX fun e w' => ∃ g, e = .returned (.tuple #[.agg #[.slice (some ⟨g, 0, none⟩) (drawT cs (p + 1)).1.length (drawT cs (p + 1)).1.length], .int .i64 ((drawT cs (p + 1)).2 : Int)]) ∧ wX.heap.size ≤ g ∧ IRow w' g (drawT cs (p + 1)).1 ∧ Below wX.heap.size wX w') :=
    fun wX hX => drawTree_any a cap cs (p + 1) wX hc (by omega) (hs.below (hbb.trans (hX.mono (by omega))))
  have hok := drawT_ok cs (p + 1) hc (by omega)
  have hn := dN_bd cs
  have hx := dX_bd cs (p + 1) hc (by omega)
  have hlen := hok.len
  have hpl := hok.pl
  have hl1 : 16 ≤ (drawT cs (p + 1)).1.length ∧ (drawT cs (p + 1)).1.length ≤ 416 := by omega
  have HSP : Hid (∀ g wX, Below wb.heap.size wb wX → CRow wX g (drawT cs (p + 1)).1 → Calls Try.prog 96 #[.slice a cs.length cap, .int .i64 ((drawT cs (p + 1)).2 : Int), .agg #[.slice (some ⟨g, 0, none⟩) (drawT cs (p + 1)).1.length (drawT cs (p + 1)).1.length]] wX fun e w' => ∃ g1 c1, e = .returned (.agg #[.slice (some ⟨g1, 0, none⟩) (spoilZ cs (drawT cs (p + 1)).2 (drawT cs (p + 1)).1).length c1]) ∧ ERow eWord w' wX.heap.size (.slice (some ⟨g1, 0, none⟩) (spoilZ cs (drawT cs (p + 1)).2 (drawT cs (p + 1)).1).length c1) (spoilZ cs (drawT cs (p + 1)).2 (drawT cs (p + 1)).1) ∧ Below wX.heap.size wX w') :=
    fun g wX hX hg => spoil_any a cap cs _ g _ _ wX hc (by omega) (hs.below (hbb.trans (hX.mono (by omega)))) hg hl1.1 (by omega) hok.wrd
  have HD : Hid (drawM cs p = if 6 ≤ tkV cs p 8 then (spoilZ cs (drawT cs (p + 1)).2 (drawT cs (p + 1)).1, (drawT cs (p + 1)).2 + 3) else drawT cs (p + 1)) := hidP rfl
  have hA := tkV_bd cs p 8 (by omega) hc (by omega)
  generalize drawM cs p = R at *
  generalize tkV cs p 8 = A at *
  generalize spoilZ cs (drawT cs (p + 1)).2 (drawT cs (p + 1)).1 = SZ at *
  generalize drawT cs (p + 1) = D at *
  obtain ⟨zs, P⟩ := D
  dsimp only at *
  have HWB : Hid (wb = _) := hwb
  have HBB : Hid (Below w.heap.size w wb) := hbb
  rw [hwb] at t1
  clear hc hs hwb hbb hok hn hx hlen q0 f0
  go_enter Try.func38, Try.ntmps38
  go_wp2_with fail
  refine t1.mono ?_
  rintro e w1 ⟨rfl, hb1'⟩
  have hb1 : Below wb.heap.size wb w1 := by rw [HWB.out]; exact hb1'
  have s1 := hb1.size
  have HB1 : Hid (Below _ wb w1) := hb1
  have t2 := HDT.out w1 hb1
  clear t1 hb1' hb1
  go_wp2_with fail
  refine t2.mono ?_
  rintro e w2 ⟨g2, rfl, hg2, hrow2, hb2'⟩
  have hb2 : Below wb.heap.size wb w2 := HB1.out.trans (hb2'.mono s1)
  have s2 := hb2.size
  obtain ⟨w3, hw3⟩ : ∃ w3, w3 = w2.alloc (.cells #[.slice (some ⟨g2, 0, none⟩) zs.length zs.length] 25) := ⟨_, rfl⟩
  have hb3 : Below wb.heap.size wb w3 := by rw [hw3]; exact hb2.alloc s2 _
  have hrow3 : IRow w3 g2 zs := by rw [hw3]; exact World.rowIs.alloc hrow2 _
  have s3 := hb3.size
  have c3 : w3.cell? ⟨w2.heap.size, 0, none⟩ = some (.slice (some ⟨g2, 0, none⟩) zs.length zs.length) := by rw [hw3]; simp [go_sem]
  obtain ⟨y0, y1⟩ := HQ.out w3 hb3
  have t3 := HSP.out g2 w3 hb3 hrow3.c
  have HB3 : Hid (Below _ wb w3) := hb3
  have HROW3 : Hid (IRow w3 g2 zs) := hrow3
  have HW3 : Hid (w3 = _) := hw3
  have z3 : w2.heap.size < w3.heap.size := by rw [hw3]; simp
  have N1 : w.heap.size < w2.heap.size := by omega
  have N2 : g2 < w2.heap.size := hrow2.lt
  by_cases h6 : 6 ≤ A
  · have h6b : decide (6 ≤ A) = true := by simpa using h6
    have HR : Hid (R = (SZ, P + 3)) := hidP (by rw [HD.out, if_pos h6])
    rw [hw3] at t3
    clear h6 HD hw3 t2 hb2' hb2 hrow2 hb3 hrow3 y0 y1 c3
    go_wp2_with fail
    refine t3.mono ?_
    rintro e w4 ⟨g4, c4, rfl, hrow4', hb4'⟩
    have hb4 : Below w3.heap.size w3 w4 := by rw [HW3.out]; exact hb4'
    have hrow4 : ERow eWord w4 w3.heap.size (.slice (some ⟨g4, 0, none⟩) SZ.length c4) SZ := by rw [HW3.out]; exact hrow4'
    have hB4 : Below wb.heap.size wb w4 := HB3.out.trans (hb4.mono s3)
    obtain ⟨y0, y1⟩ := HQ.out w4 hB4
    have HB4 : Hid (Below _ wb w4) := hB4
    have HROW4 : Hid (ERow _ _ _ _ _) := hrow4
    clear hb4 hb4' hrow4 hrow4' hB4 t3
    go_wp2_with fail
    rw [HR.out]
    refine bodyPost_ret (v := .tuple #[.agg #[.slice (some ⟨g4, 0, none⟩) SZ.length c4], .int .i64 ((P : Int) + 3)]) (by simp [results, Try.results38, go_sem, y0]) rfl ⟨g4, c4, rfl, ?_, ?_⟩
    · have hgo := (HROW4.out.own g4 rfl).1
      exact (HROW4.out.kept (eGrown_set (World.grownBy.refl _ _) 0 _) (by intro q hq; have : g4 = q := by simpa [Value.ownBlock] using hq
                                                                          simp; omega)).rebase (by omega)
    · exact HBB.out.trans ((HB4.out.mono (by omega)).setCell (by simp <;> omega) _)
  · have h6b : decide (6 ≤ A) = false := by simpa using h6
    have HR : Hid (R = (zs, P)) := hidP (by rw [HD.out, if_neg h6])
    obtain ⟨wF, hwF⟩ : ∃ wF, wF = (w2.setCell ⟨w.heap.size, 0, none⟩ (.slice (some ⟨g2, 0, none⟩) zs.length zs.length)).alloc (.cells #[.slice (some ⟨g2, 0, none⟩) zs.length zs.length] 25) := ⟨_, rfl⟩
    obtain ⟨x0, x1⟩ := HQ.out w2 hb2
    have hEr : IRow wF g2 zs := by rw [hwF]; exact World.rowIs.alloc (World.rowIs.setOther hrow2 (by simp <;> omega) _) _
    have hE := hEr.erow (base := w.heap.size) (by omega) (by omega)
    have hBF : Below w.heap.size wb wF := by rw [hwF]; exact ((hb2.mono (by omega)).setCell (by simp) _).alloc (by simp; omega) _
    have yF : wF.cell? ⟨w.heap.size, 0, none⟩ = some (.slice (some ⟨g2, 0, none⟩) zs.length zs.length) := by
      rw [hwF]
      exact (bal.cell (p := ⟨w.heap.size, 0, none⟩) (by simp; omega)).trans (by simp [go_sem, x0])
    have HE : Hid (ERow _ _ _ _ _) := hE
    have HBF : Hid (Below _ wb wF) := hBF
    have HF : Hid (wF = _) := hwF
    rw [hw3] at y0 y1
    clear h6 HD t2 hb2' hb2 hrow2 hb3 hrow3 hE c3 t3 hw3 hwF hEr hBF
    go_wp2_with fail
    rw [HR.out]
    have e1 := HF.out
    rw [← e1]
    refine bodyPost_ret (v := .tuple #[.agg #[.slice (some ⟨g2, 0, none⟩) zs.length zs.length], .int .i64 (P : Int)]) (by simp [results, Try.results38, go_sem, yF]) rfl ⟨g2, zs.length, rfl, HE.out, HBB.out.trans HBF.out⟩

def drawZ (cs : List Int) : List Int := if tkV cs 0 24 = 22 then List.replicate 8192 0 else if tkV cs 0 24 = 23 then List.replicate 8208 0 else (drawM cs 1).1
theorem drawZ_ok (cs : List Int) (hc : Byt cs) : Wrd (drawZ cs) ∧ (drawZ cs).length ≤ 8208 := by
  have h := drawM_ok cs 1 hc (by omega)
  unfold drawZ
  split
  · exact ⟨fun i => by rw [getD_replicate]; omega, by simp⟩
  · split
    · exact ⟨fun i => by rw [getD_replicate]; omega, by simp⟩
    · exact ⟨h.1, by omega⟩

set_option maxHeartbeats 2000000 in
theorem drawPlaces_any (a : Option Addr) (cap : Nat) (cs : List Int) (w : World) (hc : Byt cs) (hs : BAt w a cs) :
    Calls Try.prog 9 #[.slice a cs.length cap] w fun e w' => ∃ g c, e = .returned (.agg #[.slice (some ⟨g, 0, none⟩) (drawZ cs).length c]) ∧ ERow eWord w' w.heap.size (.slice (some ⟨g, 0, none⟩) (drawZ cs).length c) (drawZ cs) ∧ Below w.heap.size w w' := by
  obtain ⟨wb, hwb⟩ : ∃ wb, wb = w.alloc (.cells #[.slice none 0 0] 25) := ⟨_, rfl⟩
  have hbb : Below w.heap.size w wb := by rw [hwb]; exact bal
  have hzb : w.heap.size < wb.heap.size := by rw [hwb]; simp
  have q0 : wb.cell? ⟨w.heap.size, 0, none⟩ = some (.slice none 0 0) := by rw [hwb]; simp [go_sem]
  have f0 : wb.frozen? ⟨w.heap.size, 0, none⟩ = false := by rw [hwb]; simp [go_sem]
  have HQ : Hid (∀ wX, Below wb.heap.size wb wX → wX.cell? ⟨w.heap.size, 0, none⟩ = some (.slice none 0 0) ∧ wX.frozen? ⟨w.heap.size, 0, none⟩ = false) := fun wX hX => ⟨(hX.cell (by simpa using hzb)).trans q0, (hX.frozen (by simpa using hzb)).trans f0⟩
  have t1 := take_any a cap cs 0 24 wb hc (by omega) (by omega) (hs.below hbb)
  have HDM : Hid (∀ wX, Below wb.heap.size wb wX → Calls Try.prog 38 #[.slice a cs.length cap, .int .i64 1] wX fun e w' => ∃ g c, e = .returned (.tuple #[.agg #[.slice (some ⟨g, 0, none⟩) (drawM cs 1).1.length c], .int .i64 ((drawM cs 1).2 : Int)]) ∧ ERow eWord w' wX.heap.size (.slice (some ⟨g, 0, none⟩) (drawM cs 1).1.length c) (drawM cs 1).1 ∧ Below wX.heap.size wX w') :=
    fun wX hX => drawMem_any a cap cs 1 wX hc (by omega) (hs.below (hbb.trans (hX.mono (by omega))))
  have HD : Hid (drawZ cs = if tkV cs 0 24 = 22 then List.replicate 8192 0 else if tkV cs 0 24 = 23 then List.replicate 8208 0 else (drawM cs 1).1) := hidP rfl
  generalize drawZ cs = R at *
  generalize tkV cs 0 24 = A at *
  generalize drawM cs 1 = D at *
  obtain ⟨zs, P⟩ := D
  dsimp only at *
  have HWB : Hid (wb = _) := hwb
  have HBB : Hid (Below w.heap.size w wb) := hbb
  rw [hwb] at t1
  rw [show ((0 : Nat) : Int) = 0 from rfl] at t1
  have HMK : Hid (∀ (n : Nat) (w1 : World), n ≤ 10000 → Below wb.heap.size wb w1 → ERow eWord (w1.alloc (.cells (madeCells #[.int .u64 0] n) 61)) w.heap.size (.slice (some ⟨w1.heap.size, 0, none⟩) n n) (List.replicate n 0)) := by
    intro n w1 hn hb1
    have h := (made_row w1 n).erow (base := w.heap.size) (by have := hb1.size; omega) (by simp; omega)
    rw [List.length_replicate] at h
    exact h
  have hmk1 := run_make_row' (P := Try.prog) 23 61 (.int .u64 0) 8 Try.underlying23 info_u64 rfl .i64 .i64 8192 (by omega) (by omega)
  have hmk2 := run_make_row' (P := Try.prog) 23 61 (.int .u64 0) 8 Try.underlying23 info_u64 rfl .i64 .i64 8208 (by omega) (by omega)
  rw [show ((8192 : Nat) : Int) = 8192 from rfl] at hmk1
  rw [show ((8208 : Nat) : Int) = 8208 from rfl] at hmk2
  clear hc hs hwb hbb q0 f0
  go_enter Try.func9, Try.ntmps9
  go_wp2_with fail
  refine t1.mono ?_
  rintro e w1 ⟨rfl, hb1'⟩
  have hb1 : Below wb.heap.size wb w1 := by rw [HWB.out]; exact hb1'
  have s1 := hb1.size
  have HB1 : Hid (Below _ wb w1) := hb1
  obtain ⟨y0, y1⟩ := HQ.out w1 hb1
  have t2 := HDM.out w1 hb1
  have N1 : w.heap.size < w1.heap.size := by omega
  clear t1 hb1' hb1
  obtain ⟨M1, hM1⟩ : ∃ M, M = madeCells #[.int .u64 0] 8192 := ⟨_, rfl⟩
  obtain ⟨M2, hM2⟩ : ∃ M, M = madeCells #[.int .u64 0] 8208 := ⟨_, rfl⟩
  have HFIN : Hid (∀ (n : Nat), n ≤ 10000 → ERow eWord ((w1.setCell ⟨w.heap.size, 0, none⟩ (.slice (some ⟨w1.heap.size, 0, none⟩) n n)).alloc (.cells (madeCells #[.int .u64 0] n) 61)) w.heap.size (.slice (some ⟨w1.heap.size, 0, none⟩) n n) (List.replicate n 0) ∧ Below w.heap.size w ((w1.setCell ⟨w.heap.size, 0, none⟩ (.slice (some ⟨w1.heap.size, 0, none⟩) n n)).alloc (.cells (madeCells #[.int .u64 0] n) 61)) ∧ ((w1.setCell ⟨w.heap.size, 0, none⟩ (.slice (some ⟨w1.heap.size, 0, none⟩) n n)).alloc (.cells (madeCells #[.int .u64 0] n) 61)).cell? ⟨w.heap.size, 0, none⟩ = some (.slice (some ⟨w1.heap.size, 0, none⟩) n n)) := by
    intro n hn
    refine ⟨?_, HBB.out.trans (((HB1.out.mono (by omega)).setCell (by simp) _).alloc (by simp; omega) _), (bal.cell (p := ⟨w.heap.size, 0, none⟩) (by simp; omega)).trans (by simp [go_sem, y0])⟩
    have h := (made_row (w1.setCell ⟨w.heap.size, 0, none⟩ (.slice (some ⟨w1.heap.size, 0, none⟩) n n)) n).erow (base := w.heap.size) (by simp; omega) (by simp; omega)
    rw [List.length_replicate, World.size_setCell] at h
    exact h
  by_cases h22 : A = 22
  · have hb22 : (A == 22) = true := by simpa using h22
    have HR : Hid (R = List.replicate 8192 0) := hidP (by rw [HD.out, if_pos h22])
    obtain ⟨hE, hB, hC⟩ := HFIN.out 8192 (by omega)
    rw [← hM1] at hmk1 hE hB hC
    have HE : Hid (ERow _ _ _ _ _) := hE
    have HB : Hid (Below _ _ _) := hB
    clear h22 HD t2 hE hB hmk2 hM1 hM2
    go_wp2_with fail
    rw [HR.out, List.length_replicate]
    exact bodyPost_ret (v := .agg #[.slice (some ⟨w1.heap.size, 0, none⟩) 8192 8192]) (by simp [results, Try.results9, go_sem, hC]) rfl ⟨w1.heap.size, 8192, rfl, HE.out, HB.out⟩
  · have hb22 : (A == 22) = false := by simpa using h22
    by_cases h23 : A = 23
    · have hb23 : (A == 23) = true := by simpa using h23
      have HR : Hid (R = List.replicate 8208 0) := hidP (by rw [HD.out, if_neg h22, if_pos h23])
      obtain ⟨hE, hB, hC⟩ := HFIN.out 8208 (by omega)
      rw [← hM2] at hmk2 hE hB hC
      have HE : Hid (ERow _ _ _ _ _) := hE
      have HB : Hid (Below _ _ _) := hB
      clear h22 h23 HD t2 hE hB hmk1 hM1 hM2
      go_wp2_with fail
      rw [HR.out, List.length_replicate]
      exact bodyPost_ret (v := .agg #[.slice (some ⟨w1.heap.size, 0, none⟩) 8208 8208]) (by simp [results, Try.results9, go_sem, hC]) rfl ⟨w1.heap.size, 8208, rfl, HE.out, HB.out⟩
    · have hb23 : (A == 23) = false := by simpa using h23
      have HR : Hid (R = zs) := hidP (by rw [HD.out, if_neg h22, if_neg h23])
      clear h22 h23 HD hmk1 hmk2 hM1 hM2 HFIN HMK y0 y1
      go_wp2_with fail
      refine t2.mono ?_
      rintro e w2 ⟨g2, c2, rfl, hrow2, hb2'⟩
      have hb2 : Below wb.heap.size wb w2 := HB1.out.trans (hb2'.mono s1)
      have s2 := hb2.size
      obtain ⟨x0, x1⟩ := HQ.out w2 hb2
      obtain ⟨wF, hwF⟩ : ∃ wF, wF = (w2.setCell ⟨w.heap.size, 0, none⟩ (.slice (some ⟨g2, 0, none⟩) zs.length c2)).alloc (.cells #[.slice (some ⟨g2, 0, none⟩) zs.length c2] 25) := ⟨_, rfl⟩
      have hgo := (hrow2.own g2 rfl).1
      have hE : ERow eWord wF w.heap.size (.slice (some ⟨g2, 0, none⟩) zs.length c2) zs := by
        rw [hwF]
        refine (ERow.below (hrow2.kept (eGrown_set (World.grownBy.refl _ _) 0 _) (w' := w2.setCell ⟨w.heap.size, 0, none⟩ (.slice (some ⟨g2, 0, none⟩) zs.length c2)) ?_) bal).rebase (by omega)
        intro q hq
        have : g2 = q := by simpa [Value.ownBlock] using hq
        simp; omega
      have hBF : Below w.heap.size wb wF := by rw [hwF]; exact ((hb2.mono (by omega)).setCell (by simp) _).alloc (by simp; omega) _
      have yF : wF.cell? ⟨w.heap.size, 0, none⟩ = some (.slice (some ⟨g2, 0, none⟩) zs.length c2) := by
        rw [hwF]
        exact (bal.cell (p := ⟨w.heap.size, 0, none⟩) (by simp; omega)).trans (by simp [go_sem, x0])
      have N2 : w.heap.size < w2.heap.size := by omega
      have HE : Hid (ERow _ _ _ _ _) := hE
      have HBF : Hid (Below _ wb wF) := hBF
      have HF : Hid (wF = _) := hwF
      clear t2 hb2' hb2 hrow2 hE hBF hwF
      go_wp2_with fail
      rw [HR.out]
      have e1 := HF.out
      rw [← e1]
      exact bodyPost_ret (v := .agg #[.slice (some ⟨g2, 0, none⟩) zs.length c2]) (by simp [results, Try.results9, go_sem, yF]) rfl ⟨g2, c2, rfl, HE.out, HBB.out.trans HBF.out⟩
end Go.Proofs.Ytnmhkgmmpkjjeaa
