import Derived.Test.YtnmhkgmmpkjjeaaG20
import Derived.Test.YtnmhkgmmpkjjeaaG21
import Derived.Test.YtnmhkgmmpkjjeaaG18
import Derived.Test.YtnmhkgmmpkjjeaaG28
import Derived.Test.YtnmhkgmmpkjjeaaG34
namespace Go.Proofs.Ytnmhkgmmpkjjeaa
open Go.ChangeShapes Go.WideShapes Go.ChangeAt Go.RowKit
set_option linter.unusedVariables false
set_option maxRecDepth 100000
attribute [local go_sem ↓] Go.wp_at_zero Go.wp_at_succ

/-! A drawn memory. -/
def drawM (cs : List Int) (p : Nat) : List Int × Nat :=
  if 6 ≤ tkV cs p 8 then (spoilZ cs (drawT cs (p + 1)).2 (drawT cs (p + 1)).1, (drawT cs (p + 1)).2 + 3) else drawT cs (p + 1)
theorem drawM_ok (cs : List Int) (p : Nat) (hc : Byt cs) (hp : p ≤ 90000) : Wrd (drawM cs p).1 ∧ (drawM cs p).1.length ≤ 417 ∧ (drawM cs p).2 ≤ p + 404 := by
  have h := drawT_ok cs (p + 1) hc (by omega)
  have hn := dN_bd cs
  have hx := dX_bd cs (p + 1) hc (by omega)
  have hl := h.len
  have hpp := h.pl
  unfold drawM
  split
  · have := spoilL_ok (drawT cs (p + 1)).1 (tkV cs (drawT cs (p + 1)).2 8) (tkV cs ((drawT cs (p + 1)).2 + 1) (drawT cs (p + 1)).1.length).toNat (tkV cs ((drawT cs (p + 1)).2 + 2) 64) h.wrd
    exact ⟨this.1, by have h2 := this.2; show (spoilZ _ _ _).length ≤ 417; unfold spoilZ; omega, by show (drawT cs (p + 1)).2 + 3 ≤ _; omega⟩
  · exact ⟨h.wrd, by omega, by omega⟩

set_option maxHeartbeats 2000000 in
theorem drawMem_any (a : Option Addr) (cap : Nat) (cs : List Int) (p : Nat) (w : World) (hc : Byt cs) (hp : p ≤ 90000) (hs : BAt w a cs) :
    Calls Try.prog 38 #[.slice a cs.length cap, .int .i64 (p : Int)] w fun e w' => ∃ g c, e = .returned (.tuple #[.agg #[.slice (some ⟨g, 0, none⟩) (drawM cs p).1.length c], .int .i64 ((drawM cs p).2 : Int)]) ∧ ERow eWord w' w.heap.size (.slice (some ⟨g, 0, none⟩) (drawM cs p).1.length c) (drawM cs p).1 ∧ Below w.heap.size w w' := by
  obtain ⟨wb, hwb⟩ : ∃ wb, wb = w.alloc (.cells #[.slice none 0 0] 25) := ⟨_, rfl⟩
  have hbb : Below w.heap.size w wb := by rw [hwb]; exact bal
  have hzb : w.heap.size < wb.heap.size := by rw [hwb]; simp
  have q0 : wb.cell? ⟨w.heap.size, 0, none⟩ = some (.slice none 0 0) := by rw [hwb]; simp [go_sem]
  have f0 : wb.frozen? ⟨w.heap.size, 0, none⟩ = false := by rw [hwb]; simp [go_sem]
  have HQ : Hid (∀ wX, Below wb.heap.size wb wX → wX.cell? ⟨w.heap.size, 0, none⟩ = some (.slice none 0 0) ∧ wX.frozen? ⟨w.heap.size, 0, none⟩ = false) := fun wX hX => ⟨(hX.cell (by simpa using hzb)).trans q0, (hX.frozen (by simpa using hzb)).trans f0⟩
  have t1 := take_any a cap cs p 8 wb hc (by omega) (by omega) (hs.below hbb)
  have HDT : Hid (∀ wX, Below wb.heap.size wb wX → Calls Try.prog 95 #[.slice a cs.length cap, .int .i64 ((p : Int) + 1)] wX fun e w' => ∃ g, e = .returned (.tuple #[.agg #[.slice (some ⟨g, 0, none⟩) (drawT cs (p + 1)).1.length (drawT cs (p + 1)).1.length], .int .i64 ((drawT cs (p + 1)).2 : Int)]) ∧ wX.heap.size ≤ g ∧ IRow w' g (drawT cs (p + 1)).1 ∧ Below wX.heap.size wX w') :=
    fun wX hX => drawTree_any a cap cs (p + 1) wX hc (by omega) (hs.below (hbb.trans (hX.mono (by omega))))
  have hok := drawT_ok cs (p + 1) hc (by omega)
  have hn := dN_bd cs
  have hx := dX_bd cs (p + 1) hc (by omega)
  have hlen := hok.len
  have hpl := hok.pl
  have hl1 : 16 ≤ (drawT cs (p + 1)).1.length ∧ (drawT cs (p + 1)).1.length ≤ 416 := by omega
  have HSP : Hid (∀ g wX, Below wb.heap.size wb wX → CRow wX g (drawT cs (p + 1)).1 → Calls Try.prog 96 #[.slice a cs.length cap, .int .i64 ((drawT cs (p + 1)).2 : Int), .agg #[.slice (some ⟨g, 0, none⟩) (drawT cs (p + 1)).1.length (drawT cs (p + 1)).1.length]] wX fun e w' => ∃ g1 c1, e = .returned (.agg #[.slice (some ⟨g1, 0, none⟩) (spoilZ cs (drawT cs (p + 1)).2 (drawT cs (p + 1)).1).length c1]) ∧ ERow eWord w' wX.heap.size (.slice (some ⟨g1, 0, none⟩) (spoilZ cs (drawT cs (p + 1)).2 (drawT cs (p + 1)).1).length c1) (spoilZ cs (drawT cs (p + 1)).2 (drawT cs (p + 1)).1) ∧ Below wX.heap.size wX w') :=
    fun g wX hX hg => spoil_any a cap cs _ g _ _ wX hc (by omega) (hs.below (hbb.trans (hX.mono (by omega)))) hg hl1.1 (by omega) hok.wrd
  have HD : Hid (drawM cs p = if 6 ≤ tkV cs p 8 then (spoilZ cs (drawT cs (p + 1)).2 (drawT cs (p + 1)).1, (drawT cs (p + 1)).2 + 3) else drawT cs (p + 1)) := hidP rfl
  have hA := tkV_bd cs p 8 (by omega) hc (by omega)
  generalize drawM cs p = R at *
  generalize tkV cs p 8 = A at *
  generalize spoilZ cs (drawT cs (p + 1)).2 (drawT cs (p + 1)).1 = SZ at *
  generalize drawT cs (p + 1) = D at *
  obtain ⟨zs, P⟩ := D
  dsimp only at *
  have HWB : Hid (wb = _) := hwb
  have HBB : Hid (Below w.heap.size w wb) := hbb
  rw [hwb] at t1
  clear hc hs hwb hbb hok hn hx hlen q0 f0
  go_enter Try.func38, Try.ntmps38
  go_wp2_with fail
  refine t1.mono ?_
  rintro e w1 ⟨rfl, hb1'⟩
  have hb1 : Below wb.heap.size wb w1 := by rw [HWB.out]; exact hb1'
  have s1 := hb1.size
  have HB1 : Hid (Below _ wb w1) := hb1
  have t2 := HDT.out w1 hb1
  clear t1 hb1' hb1
  go_wp2_with fail
  refine t2.mono ?_
  rintro e w2 ⟨g2, rfl, hg2, hrow2, hb2'⟩
  have hb2 : Below wb.heap.size wb w2 := HB1.out.trans (hb2'.mono s1)
  have s2 := hb2.size
  obtain ⟨w3, hw3⟩ : ∃ w3, w3 = w2.alloc (.cells #[.slice (some ⟨g2, 0, none⟩) zs.length zs.length] 25) := ⟨_, rfl⟩
  have hb3 : Below wb.heap.size wb w3 := by rw [hw3]; exact hb2.alloc s2 _
  have hrow3 : IRow w3 g2 zs := by rw [hw3]; exact World.rowIs.alloc hrow2 _
  have s3 := hb3.size
  have c3 : w3.cell? ⟨w2.heap.size, 0, none⟩ = some (.slice (some ⟨g2, 0, none⟩) zs.length zs.length) := by rw [hw3]; simp [go_sem]
  obtain ⟨y0, y1⟩ := HQ.out w3 hb3
  have t3 := HSP.out g2 w3 hb3 hrow3.c
  have HB3 : Hid (Below _ wb w3) := hb3
  have HROW3 : Hid (IRow w3 g2 zs) := hrow3
  have HW3 : Hid (w3 = _) := hw3
  have z3 : w2.heap.size < w3.heap.size := by rw [hw3]; simp
  have N1 : w.heap.size < w2.heap.size := by omega
  have N2 : g2 < w2.heap.size := hrow2.lt
  by_cases h6 : 6 ≤ A
  · have h6b : decide (6 ≤ A) = true := by simpa using h6
    have HR : Hid (R = (SZ, P + 3)) := hidP (by rw [HD.out, if_pos h6])
    rw [hw3] at t3
    clear h6 HD hw3 t2 hb2' hb2 hrow2 hb3 hrow3 y0 y1 c3
    go_wp2_with fail
    refine t3.mono ?_
    rintro e w4 ⟨g4, c4, rfl, hrow4', hb4'⟩
    have hb4 : Below w3.heap.size w3 w4 := by rw [HW3.out]; exact hb4'
    have hrow4 : ERow eWord w4 w3.heap.size (.slice (some ⟨g4, 0, none⟩) SZ.length c4) SZ := by rw [HW3.out]; exact hrow4'
    have hB4 : Below wb.heap.size wb w4 := HB3.out.trans (hb4.mono s3)
    obtain ⟨y0, y1⟩ := HQ.out w4 hB4
    have HB4 : Hid (Below _ wb w4) := hB4
    have HROW4 : Hid (ERow _ _ _ _ _) := hrow4
    clear hb4 hb4' hrow4 hrow4' hB4 t3
    go_wp2_with fail
    rw [HR.out]
    refine bodyPost_ret (v := .tuple #[.agg #[.slice (some ⟨g4, 0, none⟩) SZ.length c4], .int .i64 ((P : Int) + 3)]) (by simp [results, Try.results38, go_sem, y0]) rfl ⟨g4, c4, rfl, ?_, ?_⟩
    · have hgo := (HROW4.out.own g4 rfl).1
      exact (HROW4.out.kept (eGrown_set (World.grownBy.refl _ _) 0 _) (by intro q hq; have : g4 = q := by simpa [Value.ownBlock] using hq
                                                                          simp; omega)).rebase (by omega)
    · exact HBB.out.trans ((HB4.out.mono (by omega)).setCell (by simp <;> omega) _)
  · have h6b : decide (6 ≤ A) = false := by simpa using h6
    have HR : Hid (R = (zs, P)) := hidP (by rw [HD.out, if_neg h6])
    obtain ⟨wF, hwF⟩ : ∃ wF, wF = (w2.setCell ⟨w.heap.size, 0, none⟩ (.slice (some ⟨g2, 0, none⟩) zs.length zs.length)).alloc (.cells #[.slice (some ⟨g2, 0, none⟩) zs.length zs.length] 25) := ⟨_, rfl⟩
    obtain ⟨x0, x1⟩ := HQ.out w2 hb2
    have hEr : IRow wF g2 zs := by rw [hwF]; exact World.rowIs.alloc (World.rowIs.setOther hrow2 (by simp <;> omega) _) _
    have hE := hEr.erow (base := w.heap.size) (by omega) (by omega)
    have hBF : Below w.heap.size wb wF := by rw [hwF]; exact ((hb2.mono (by omega)).setCell (by simp) _).alloc (by simp; omega) _
    have yF : wF.cell? ⟨w.heap.size, 0, none⟩ = some (.slice (some ⟨g2, 0, none⟩) zs.length zs.length) := by
      rw [hwF]
      exact (bal.cell (p := ⟨w.heap.size, 0, none⟩) (by simp; omega)).trans (by simp [go_sem, x0])
    have HE : Hid (ERow _ _ _ _ _) := hE
    have HBF : Hid (Below _ wb wF) := hBF
    have HF : Hid (wF = _) := hwF
    rw [hw3] at y0 y1
    clear h6 HD t2 hb2' hb2 hrow2 hb3 hrow3 hE c3 t3 hw3 hwF hEr hBF
    go_wp2_with fail
    rw [HR.out]
    have e1 := HF.out
    rw [← e1]
    refine bodyPost_ret (v := .tuple #[.agg #[.slice (some ⟨g2, 0, none⟩) zs.length zs.length], .int .i64 (P : Int)]) (by simp [results, Try.results38, go_sem, yF]) rfl ⟨g2, zs.length, rfl, HE.out, HBB.out.trans HBF.out⟩

def drawZ (cs : List Int) : List Int := if tkV cs 0 24 = 22 then List.replicate 8192 0 else if tkV cs 0 24 = 23 then List.replicate 8208 0 else (drawM cs 1).1
theorem drawZ_ok (cs : List Int) (hc : Byt cs) : Wrd (drawZ cs) ∧ (drawZ cs).length ≤ 8208 := by
  have h := drawM_ok cs 1 hc (by omega)
  unfold drawZ
  split
  · exact ⟨fun i => by rw [getD_replicate]; omega, by simp⟩
  · split
    · exact ⟨fun i => by rw [getD_replicate]; omega, by simp⟩
    · exact ⟨h.1, by omega⟩

set_option maxHeartbeats 2000000 in
theorem drawPlaces_any (a : Option Addr) (cap : Nat) (cs : List Int) (w : World) (hc : Byt cs) (hs : BAt w a cs) :
    Calls Try.prog 9 #[.slice a cs.length cap] w fun e w' => ∃ g c, e = .returned (.agg #[.slice (some ⟨g, 0, none⟩) (drawZ cs).length c]) ∧ ERow eWord w' w.heap.size (.slice (some ⟨g, 0, none⟩) (drawZ cs).length c) (drawZ cs) ∧ Below w.heap.size w w' := by
  obtain ⟨wb, hwb⟩ : ∃ wb, wb = w.alloc (.cells #[.slice none 0 0] 25) := ⟨_, rfl⟩
  have hbb : Below w.heap.size w wb := by rw [hwb]; exact bal
  have hzb : w.heap.size < wb.heap.size := by rw [hwb]; simp
  have q0 : wb.cell? ⟨w.heap.size, 0, none⟩ = some (.slice none 0 0) := by rw [hwb]; simp [go_sem]
  have f0 : wb.frozen? ⟨w.heap.size, 0, none⟩ = false := by rw [hwb]; simp [go_sem]
  have HQ : Hid (∀ wX, Below wb.heap.size wb wX → wX.cell? ⟨w.heap.size, 0, none⟩ = some (.slice none 0 0) ∧ wX.frozen? ⟨w.heap.size, 0, none⟩ = false) := fun wX hX => ⟨(hX.cell (by simpa using hzb)).trans q0, (hX.frozen (by simpa using hzb)).trans f0⟩
  have t1 := take_any a cap cs 0 24 wb hc (by omega) (by omega) (hs.below hbb)
  have HDM : Hid (∀ wX, Below wb.heap.size wb wX → Calls Try.prog 38 #[.slice a cs.length cap, .int .i64 1] wX fun e w' => ∃ g c, e = .returned (.tuple #[.agg #[.slice (some ⟨g, 0, none⟩) (drawM cs 1).1.length c], .int .i64 ((drawM cs 1).2 : Int)]) ∧ ERow eWord w' wX.heap.size (.slice (some ⟨g, 0, none⟩) (drawM cs 1).1.length c) (drawM cs 1).1 ∧ Below wX.heap.size wX w') :=
    fun wX hX => drawMem_any a cap cs 1 wX hc (by omega) (hs.below (hbb.trans (hX.mono (by omega))))
  have HD : Hid (drawZ cs = if tkV cs 0 24 = 22 then List.replicate 8192 0 else if tkV cs 0 24 = 23 then List.replicate 8208 0 else (drawM cs 1).1) := hidP rfl
  generalize drawZ cs = R at *
  generalize tkV cs 0 24 = A at *
  generalize drawM cs 1 = D at *
  obtain ⟨zs, P⟩ := D
  dsimp only at *
  have HWB : Hid (wb = _) := hwb
  have HBB : Hid (Below w.heap.size w wb) := hbb
  rw [hwb] at t1
  rw [show ((0 : Nat) : Int) = 0 from rfl] at t1
  have HMK : Hid (∀ (n : Nat) (w1 : World), n ≤ 10000 → Below wb.heap.size wb w1 → ERow eWord (w1.alloc (.cells (madeCells #[.int .u64 0] n) 61)) w.heap.size (.slice (some ⟨w1.heap.size, 0, none⟩) n n) (List.replicate n 0)) := by
    intro n w1 hn hb1
    have h := (made_row w1 n).erow (base := w.heap.size) (by have := hb1.size; omega) (by simp; omega)
    rw [List.length_replicate] at h
    exact h
  have hmk1 := run_make_row' (P := Try.prog) 23 61 (.int .u64 0) 8 Try.underlying23 info_u64 rfl .i64 .i64 8192 (by omega) (by omega)
  have hmk2 := run_make_row' (P := Try.prog) 23 61 (.int .u64 0) 8 Try.underlying23 info_u64 rfl .i64 .i64 8208 (by omega) (by omega)
  rw [show ((8192 : Nat) : Int) = 8192 from rfl] at hmk1
  rw [show ((8208 : Nat) : Int) = 8208 from rfl] at hmk2
  clear hc hs hwb hbb q0 f0
  go_enter Try.func9, Try.ntmps9
  go_wp2_with fail
  refine t1.mono ?_
  rintro e w1 ⟨rfl, hb1'⟩
  have hb1 : Below wb.heap.size wb w1 := by rw [HWB.out]; exact hb1'
  have s1 := hb1.size
  have HB1 : Hid (Below _ wb w1) := hb1
  obtain ⟨y0, y1⟩ := HQ.out w1 hb1
  have t2 := HDM.out w1 hb1
  have N1 : w.heap.size < w1.heap.size := by omega
  clear t1 hb1' hb1
  obtain ⟨M1, hM1⟩ : ∃ M, M = madeCells #[.int .u64 0] 8192 := ⟨_, rfl⟩
  obtain ⟨M2, hM2⟩ : ∃ M, M = madeCells #[.int .u64 0] 8208 := ⟨_, rfl⟩
  have HFIN : Hid (∀ (n : Nat), n ≤ 10000 → ERow eWord ((w1.setCell ⟨w.heap.size, 0, none⟩ (.slice (some ⟨w1.heap.size, 0, none⟩) n n)).alloc (.cells (madeCells #[.int .u64 0] n) 61)) w.heap.size (.slice (some ⟨w1.heap.size, 0, none⟩) n n) (List.replicate n 0) ∧ Below w.heap.size w ((w1.setCell ⟨w.heap.size, 0, none⟩ (.slice (some ⟨w1.heap.size, 0, none⟩) n n)).alloc (.cells (madeCells #[.int .u64 0] n) 61)) ∧ ((w1.setCell ⟨w.heap.size, 0, none⟩ (.slice (some ⟨w1.heap.size, 0, none⟩) n n)).alloc (.cells (madeCells #[.int .u64 0] n) 61)).cell? ⟨w.heap.size, 0, none⟩ = some (.slice (some ⟨w1.heap.size, 0, none⟩) n n)) := by
    intro n hn
    refine ⟨?_, HBB.out.trans (((HB1.out.mono (by omega)).setCell (by simp) _).alloc (by simp; omega) _), (bal.cell (p := ⟨w.heap.size, 0, none⟩) (by simp; omega)).trans (by simp [go_sem, y0])⟩
    have h := (made_row (w1.setCell ⟨w.heap.size, 0, none⟩ (.slice (some ⟨w1.heap.size, 0, none⟩) n n)) n).erow (base := w.heap.size) (by simp; omega) (by simp; omega)
    rw [List.length_replicate, World.size_setCell] at h
    exact h
  by_cases h22 : A = 22
  · have hb22 : (A == 22) = true := by simpa using h22
    have HR : Hid (R = List.replicate 8192 0) := hidP (by rw [HD.out, if_pos h22])
    obtain ⟨hE, hB, hC⟩ := HFIN.out 8192 (by omega)
    rw [← hM1] at hmk1 hE hB hC
    have HE : Hid (ERow _ _ _ _ _) := hE
    have HB : Hid (Below _ _ _) := hB
    clear h22 HD t2 hE hB hmk2 hM1 hM2
    go_wp2_with fail
    rw [HR.out, List.length_replicate]
    exact bodyPost_ret (v := .agg #[.slice (some ⟨w1.heap.size, 0, none⟩) 8192 8192]) (by simp [results, Try.results9, go_sem, hC]) rfl ⟨w1.heap.size, 8192, rfl, HE.out, HB.out⟩
  · have hb22 : (A == 22) = false := by simpa using h22
    by_cases h23 : A = 23
    · have hb23 : (A == 23) = true := by simpa using h23
      have HR : Hid (R = List.replicate 8208 0) := hidP (by rw [HD.out, if_neg h22, if_pos h23])
      obtain ⟨hE, hB, hC⟩ := HFIN.out 8208 (by omega)
      rw [← hM2] at hmk2 hE hB hC
      have HE : Hid (ERow _ _ _ _ _) := hE
      have HB : Hid (Below _ _ _) := hB
      clear h22 h23 HD t2 hE hB hmk1 hM1 hM2
      go_wp2_with fail
      rw [HR.out, List.length_replicate]
      exact bodyPost_ret (v := .agg #[.slice (some ⟨w1.heap.size, 0, none⟩) 8208 8208]) (by simp [results, Try.results9, go_sem, hC]) rfl ⟨w1.heap.size, 8208, rfl, HE.out, HB.out⟩
    · have hb23 : (A == 23) = false := by simpa using h23
      have HR : Hid (R = zs) := hidP (by rw [HD.out, if_neg h22, if_neg h23])
      clear h22 h23 HD hmk1 hmk2 hM1 hM2 HFIN HMK y0 y1
      go_wp2_with fail
      refine t2.mono ?_
      rintro e w2 ⟨g2, c2, rfl, hrow2, hb2'⟩
      have hb2 : Below wb.heap.size wb w2 := HB1.out.trans (hb2'.mono s1)
      have s2 := hb2.size
      obtain ⟨x0, x1⟩ := HQ.out w2 hb2
      obtain ⟨wF, hwF⟩ : ∃ wF, wF = (w2.setCell ⟨w.heap.size, 0, none⟩ (.slice (some ⟨g2, 0, none⟩) zs.length c2)).alloc (.cells #[.slice (some ⟨g2, 0, none⟩) zs.length c2] 25) := ⟨_, rfl⟩
      have hgo := (hrow2.own g2 rfl).1
      have hE : ERow eWord wF w.heap.size (.slice (some ⟨g2, 0, none⟩) zs.length c2) zs := by
        rw [hwF]
        refine (ERow.below (hrow2.kept (eGrown_set (World.grownBy.refl _ _) 0 _) (w' := w2.setCell ⟨w.heap.size, 0, none⟩ (.slice (some ⟨g2, 0, none⟩) zs.length c2)) ?_) bal).rebase (by omega)
        intro q hq
        have : g2 = q := by simpa [Value.ownBlock] using hq
        simp; omega
      have hBF : Below w.heap.size wb wF := by rw [hwF]; exact ((hb2.mono (by omega)).setCell (by simp) _).alloc (by simp; omega) _
      have yF : wF.cell? ⟨w.heap.size, 0, none⟩ = some (.slice (some ⟨g2, 0, none⟩) zs.length c2) := by
        rw [hwF]
        exact (bal.cell (p := ⟨w.heap.size, 0, none⟩) (by simp; omega)).trans (by simp [go_sem, x0])
      have N2 : w.heap.size < w2.heap.size := by omega
      have HE : Hid (ERow _ _ _ _ _) := hE
      have HBF : Hid (Below _ wb wF) := hBF
      have HF : Hid (wF = _) := hwF
      clear t2 hb2' hb2 hrow2 hE hBF hwF
      go_wp2_with fail
      rw [HR.out]
      have e1 := HF.out
      rw [← e1]
      exact bodyPost_ret (v := .agg #[.slice (some ⟨g2, 0, none⟩) zs.length c2]) (by simp [results, Try.results9, go_sem, yF]) rfl ⟨g2, c2, rfl, HE.out, HBB.out.trans HBF.out⟩
end Go.Proofs.Ytnmhkgmmpkjjeaa
namespace Go.Proofs.Ytnmhkgmmpkjjeaa
open Go.ChangeShapes Go.WideShapes Go.ChangeAt Go.RowKit
set_option linter.unusedVariables false
set_option maxRecDepth 100000
attribute [local go_sem ↓] Go.wp_at_zero Go.wp_at_succ

/-! A drawn machine. -/
theorem or_bd (x y : Int) (n : Nat) (hn : n ≤ 30) (hx : 0 ≤ x) (hx1 : x < 2 ^ n) (hy : 0 ≤ y) (hy1 : y < 2 ^ n) : 0 ≤ bits .or .i64 x y ∧ bits .or .i64 x y < 2 ^ n := by
  obtain ⟨a, rfl⟩ := Int.eq_ofNat_of_zero_le hx
  obtain ⟨b, rfl⟩ := Int.eq_ofNat_of_zero_le hy
  have hx2 : a < 2 ^ n := by have : ((2 ^ n : Nat) : Int) = 2 ^ n := by simp
                             omega
  have hy2 : b < 2 ^ n := by have : ((2 ^ n : Nat) : Int) = 2 ^ n := by simp
                             omega
  have h30 : 2 ^ n ≤ 2 ^ 30 := Nat.pow_le_pow_right (by omega) hn
  have hz : a ||| b < 2 ^ n := Nat.or_lt_two_pow hx2 hy2
  have h1 : (BitVec.ofInt 64 (a : Int)).toNat = a := by
    rw [BitVec.ofInt_natCast, BitVec.toNat_ofNat]; exact Nat.mod_eq_of_lt (by omega)
  have h2 : (BitVec.ofInt 64 (b : Int)).toNat = b := by
    rw [BitVec.ofInt_natCast, BitVec.toNat_ofNat]; exact Nat.mod_eq_of_lt (by omega)
  have e : bits .or .i64 (a : Int) (b : Int) = ((a ||| b : Nat) : Int) := by
    show IntKind.i64.wrap ((BitVec.ofInt 64 (a : Int) ||| BitVec.ofInt 64 (b : Int)).toNat : Int) = _
    rw [BitVec.toNat_or, h1, h2, IntKind.wrap_i64]
    omega
  rw [e]
  have : ((2 ^ n : Nat) : Int) = 2 ^ n := by simp
  omega
def chO (c : Int) : Int := bits .or .i64 (bits .or .i64 c 64) 16
theorem chO_bd (c : Int) (h0 : 0 ≤ c) (h1 : c < 256) : 0 ≤ chO c ∧ chO c ≤ 65535 := by
  have h2 := or_bd c 64 8 (by omega) h0 (by omega) (by omega) (by omega)
  have h3 := or_bd _ 16 8 (by omega) h2.1 h2.2 (by omega) (by omega)
  unfold chO
  omega
def dT1 (e : TlbE) : TlbE := ⟨e.page, e.size, e.out, e.perm, true⟩
def dW1 (e : WcE) : WcE := ⟨e.level, e.page, e.table, true⟩
def dmT (r : Int) (xs : List TlbE) : Nat → List TlbE
  | 0 => xs
  | k + 1 => if (k : Int) % 3 = r then (dmT r xs k).set k (dT1 (eAt eTlb (dmT r xs k) k)) else dmT r xs k
def dmW (r : Int) (xs : List WcE) : Nat → List WcE
  | 0 => xs
  | k + 1 => if (k : Int) % 2 = r then (dmW r xs k).set k (dW1 (eAt eWc (dmW r xs k) k)) else dmW r xs k
theorem dmT_ok (r : Int) (xs : List TlbE) : ∀ k, k ≤ xs.length → (dmT r xs k).length = xs.length ∧ ((∀ e ∈ xs, tlbOkB e = true) → ∀ e ∈ dmT r xs k, tlbOkB e = true)
  | 0, _ => ⟨rfl, fun h => h⟩
  | k + 1, hk => by
    obtain ⟨h1, h2⟩ := dmT_ok r xs k (by omega)
    unfold dmT
    split
    · refine ⟨by rw [List.length_set]; exact h1, fun h e he => ?_⟩
      rcases List.mem_or_eq_of_mem_set he with he | he
      · exact h2 h e he
      · rw [he]
        have h5 : tlbOkB (eAt eTlb (dmT r xs k) k) = true := h2 h (eAt eTlb (dmT r xs k) k) (eAt_in eTlb (by omega))
        exact h5
    · exact ⟨h1, h2⟩
theorem dmW_ok (r : Int) (n : Int) (xs : List WcE) : ∀ k, k ≤ xs.length → (dmW r xs k).length = xs.length ∧ ((∀ e ∈ xs, wcOkB n e = true) → ∀ e ∈ dmW r xs k, wcOkB n e = true)
  | 0, _ => ⟨rfl, fun h => h⟩
  | k + 1, hk => by
    obtain ⟨h1, h2⟩ := dmW_ok r n xs k (by omega)
    unfold dmW
    split
    · refine ⟨by rw [List.length_set]; exact h1, fun h e he => ?_⟩
      rcases List.mem_or_eq_of_mem_set he with he | he
      · exact h2 h e he
      · rw [he]
        have h5 : wcOkB n (eAt eWc (dmW r xs k) k) = true := h2 h (eAt eWc (dmW r xs k) k) (eAt_in eWc (by omega))
        exact h5
    · exact ⟨h1, h2⟩
def pnD (M : Mach) (page c : Int) : WriteE := ⟨addrD M.mem page, if c % 2 = 0 then M.mem.getD ((addrD M.mem page + c) % M.mem.length).toNat 0 else 0⟩
def dmStep (A PG C : Int) (M : Mach) : Mach :=
  if A < 5 then (walkM M PG (chO C)).1
  else if A = 5 then ⟨M.mem, M.pend ++ [pnD M PG C], M.tlb, M.wc⟩
  else ⟨M.mem, M.pend, dmT (A % 3) M.tlb M.tlb.length, dmW (A % 2) M.wc M.wc.length⟩
theorem walkM_keep (M : Mach) (page choice : Int) : (walkM M page choice).1.mem = M.mem ∧ (walkM M page choice).1.pend = M.pend := by
  have go : ∀ d (M : Mach) (level frame : Int) (doom : Bool), (goM page choice d M level frame doom).1.mem = M.mem ∧ (goM page choice d M level frame doom).1.pend = M.pend := by
    have en : ∀ (M : Mach) (level x : Int) (doom : Bool), (endM page choice M level x doom).1.mem = M.mem ∧ (endM page choice M level x doom).1.pend = M.pend := by
      intro M level x doom
      unfold endM
      split
      · exact ⟨rfl, rfl⟩
      · split
        · dsimp only
          split
          · unfold addTlbM
            split <;> exact ⟨rfl, rfl⟩
          · exact ⟨rfl, rfl⟩
        · exact ⟨rfl, rfl⟩
    intro d
    induction d with
    | zero => intro M level frame doom; exact en M level _ doom
    | succ d ih =>
      intro M level frame doom
      unfold goM
      split
      · obtain ⟨h1, h2⟩ := ih (stepM page choice M level (wordM M page choice level frame) doom) (level + 1) (dOut level (wordM M page choice level frame)) doom
        obtain ⟨h3, h4, _⟩ := stepM_mem page choice M level (wordM M page choice level frame) doom
        exact ⟨h1.trans h3, h2.trans h4⟩
      · exact en M level _ doom
  exact go _ M _ _ _
theorem dmStep_ok {M : Mach} (A PG C : Int) (h : VM M) (hp : 0 ≤ PG ∧ PG < 4096) (hC : 0 ≤ C) (hl : M.pend.length < 10000) : VM (dmStep A PG C M) ∧ (dmStep A PG C M).mem = M.mem ∧ (dmStep A PG C M).pend.length ≤ M.pend.length + 1 := by
  unfold dmStep
  split
  · obtain ⟨h1, h2⟩ := walkM_keep M PG (chO C)
    exact ⟨walkM_vm h PG (chO C) hp.1 hp.2, h1, by rw [h2]; omega⟩
  · split
    · have hb := addrD_bd M.mem PG hp.1 hp.2 h.n0
      have hw : 0 ≤ (pnD M PG C).word ∧ (pnD M PG C).word < 2 ^ 64 := by
        unfold pnD
        dsimp only
        split
        · exact h.wok.word _
        · omega
      refine ⟨⟨h.n0, h.word, by simp; omega, h.t, h.c, fun e he => ?_, h.tlb, h.wc⟩, rfl, by simp⟩
      rcases List.mem_append.1 he with he | he
      · exact h.pend e he
      · have : e = pnD M PG C := by simpa using he
        rw [this]
        exact ⟨hb, hw⟩
    · obtain ⟨t1, t2⟩ := dmT_ok (A % 3) M.tlb M.tlb.length (Nat.le_refl _)
      obtain ⟨c1, c2⟩ := dmW_ok (A % 2) (nfr M.mem.length) M.wc M.wc.length (Nat.le_refl _)
      exact ⟨⟨h.n0, h.word, h.p, by rw [t1]; exact h.t, by rw [c1]; exact h.c, h.pend, t2 h.tlb, c2 h.wc⟩, rfl, by simp⟩
def dmS (cs : List Int) (zs : List Int) (q : Nat) : Nat → Mach
  | 0 => ⟨zs, [], [], []⟩
  | k + 1 => dmStep (tkV cs (q + 4 * k) 8) (pageD cs (q + 4 * k + 1) zs) (tkV cs (q + 4 * k + 3) 256) (dmS cs zs q k)
def dmN (cs : List Int) : Nat := if 12 < 3 + cs.length / 8 then 12 else 3 + cs.length / 8
theorem dmN_bd (cs : List Int) : dmN cs ≤ 12 := by unfold dmN; split <;> omega
theorem wrd_mem {zs : List Int} (h : Wrd zs) : ∀ x ∈ zs, 0 ≤ x ∧ x < 2 ^ 64 := fun x hx => by
  obtain ⟨i, hi, rfl⟩ := List.getElem_of_mem hx
  have := h i
  rw [List.getD_eq_getElem?_getD, List.getElem?_eq_getElem hi] at this
  exact this
theorem dmS_ok (cs zs : List Int) (q : Nat) (hc : Byt cs) (hq : q ≤ 800000) (hn : nfr zs.length ≠ 0) (hw : Wrd zs) : ∀ k, k ≤ 1000 → VM (dmS cs zs q k) ∧ (dmS cs zs q k).mem = zs ∧ (dmS cs zs q k).pend.length ≤ k
  | 0, _ => ⟨⟨hn, wrd_mem hw, by simp [dmS], by simp [dmS], by simp [dmS], by simp [dmS], by simp [dmS], by simp [dmS]⟩, rfl, by simp [dmS]⟩
  | k + 1, hk => by
    obtain ⟨h1, h2, h3⟩ := dmS_ok cs zs q hc hq hn hw k (by omega)
    have hp := pageD_bd cs (q + 4 * k + 1) zs hc (by omega)
    have hC := tkV_bd cs (q + 4 * k + 3) 256 (by omega) hc (by omega)
    obtain ⟨g1, g2, g3⟩ := dmStep_ok (tkV cs (q + 4 * k) 8) (pageD cs (q + 4 * k + 1) zs) (tkV cs (q + 4 * k + 3) 256) h1 hp hC.1 (by omega)
    exact ⟨g1, g2.trans h2, by unfold dmS; omega⟩
def drawMa (cs : List Int) (p : Nat) : Mach × Nat :=
  if nfr (drawM cs p).1.length = 0 then (⟨(drawM cs p).1, [], [], []⟩, (drawM cs p).2) else (dmS cs (drawM cs p).1 (drawM cs p).2 (dmN cs), (drawM cs p).2 + 4 * dmN cs)
theorem drawMa_ok (cs : List Int) (p : Nat) (hc : Byt cs) (hp : p ≤ 90000) : (nfr (drawMa cs p).1.mem.length ≠ 0 → VM (drawMa cs p).1) ∧ (drawMa cs p).1.mem = (drawM cs p).1 ∧ (nfr (drawMa cs p).1.mem.length = 0 → (drawMa cs p).1 = ⟨(drawM cs p).1, [], [], []⟩) ∧ (drawMa cs p).2 ≤ p + 500 := by
  obtain ⟨h1, h2, h3⟩ := drawM_ok cs p hc hp
  have hN := dmN_bd cs
  unfold drawMa
  split
  · rename_i h
    exact ⟨fun h' => absurd h h', rfl, fun _ => rfl, by show (drawM cs p).2 ≤ _; omega⟩
  · rename_i h
    obtain ⟨g1, g2, g3⟩ := dmS_ok cs (drawM cs p).1 (drawM cs p).2 hc (by omega) h h1 (dmN cs) (by omega)
    refine ⟨fun _ => g1, g2, fun h' => ?_, by show (drawM cs p).2 + 4 * dmN cs ≤ _; omega⟩
    rw [g2] at h'
    exact absurd h' h
end Go.Proofs.Ytnmhkgmmpkjjeaa
