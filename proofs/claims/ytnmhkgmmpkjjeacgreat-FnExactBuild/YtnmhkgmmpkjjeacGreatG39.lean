import Derived.Test.YtnmhkgmmpkjjeacGreatG38
import Derived.Laws.EntriesVeiled
namespace Go.Proofs.YtnmhkgmmpkjjeacGreat
open Go.ChangeShapes Go.WideShapes Go.ChangeAt Go.RowKit
set_option linter.unusedVariables false
set_option maxRecDepth 100000
attribute [local go_sem ↓] Go.wp_at_zero Go.wp_at_succ

set_option maxHeartbeats 1000000 in
theorem parts_any (gp : Nat) (w : World) :
    Calls Tryz.prog 76 #[.pointer (some ⟨gp, 0, none⟩)] w fun r w' => r = .returned (.slice (some ⟨w.heap.size + 1, 0, none⟩) 5 5) ∧ w' = (w.alloc (.cells #[.pointer (some ⟨gp, 0, none⟩)] 88)).alloc (.cells #[.func (.func 96) #[] #[.pointer (some ⟨w.heap.size, 0, none⟩)], .bool true, .func (.func 100) #[] #[.pointer (some ⟨w.heap.size, 0, none⟩)], .bool true, .func (.func 104) #[] #[.pointer (some ⟨w.heap.size, 0, none⟩)], .bool false, .func (.func 105) #[] #[.pointer (some ⟨w.heap.size, 0, none⟩)], .bool true, .func (.func 107) #[] #[.pointer (some ⟨w.heap.size, 0, none⟩)], .bool true] 134) := by
  go_enter Tryz.func76, Tryz.ntmps76
  go_wp2_with fail
  go_ret
  exact ⟨rfl, rfl⟩
/-- What the program consists of. -/
structure ProgIn (w : World) (gp gz cz gl M : Nat) (zs : List Int) (H : Nat → Ht) (n : Nat) (kept gone fs : List P3) (aR aC : Option Addr) (cR bR cC bC : Nat) : Prop where
  P : PSt w gp gz cz gl M zs H (hmOf kept fs)
  K : KOk zs H kept fs
  zr : ∀ i, 0 ≤ zs.getD i 0 ∧ zs.getD i 0 < 18446744073709551616
  rt : (retL gone n).length ≤ 1000
  c4 : w.cell? ⟨gp, 4, none⟩ = some (.slice aR (retL gone n).length cR)
  rR : ERow eInt w bR (.slice aR (retL gone n).length cR) (retL gone n)
  fl : fs.length ≤ 1000
  F : ∀ q ∈ fs, ∃ F lv pg : Nat, q = ⟨F, lv, pg⟩ ∧ 1 ≤ lv ∧ lv ≤ 3 ∧ pg + tpg lv ≤ 4096 ∧ F * 16 + 16 ≤ zs.length
  c3 : w.cell? ⟨gp, 3, none⟩ = some (.slice aC fs.length cC)
  rC : ERow ePl w bC (.slice aC fs.length cC) fs
def xPart (zs : List Int) (H : Nat → Ht) (n : Nat) (kept gone fs : List P3) : Nat → List OpE
  | 0 => brkOps zs H (kept ++ fs) (enTo kept 4096)
  | 1 => tlbOps (mkB zs H (kept ++ fs) (enTo kept 4096))
  | 2 => (retL gone n).map opF
  | 3 => fillOps H (kept ++ fs) fs
  | _ => lnkOps zs H (kept ++ fs) (enTo kept 4096)
def xSeal (t : Nat) (l : List OpE) : List OpE := if t = 2 then l else sealO l
def xAcc (zs : List Int) (H : Nat → Ht) (n : Nat) (kept gone fs : List P3) : Nat → List OpE
  | 0 => []
  | t + 1 => xAcc zs H n kept gone fs t ++ xSeal t (xPart zs H n kept gone fs t)
theorem xPart_len (zs : List Int) (H : Nat → Ht) (n : Nat) (kept gone fs : List P3) (hr : (retL gone n).length ≤ 1000) (hf : fs.length ≤ 1000) (t : Nat) : (xPart zs H n kept gone fs t).length ≤ 20000 := by
  have h1 := enTo_len kept 4096
  match t with
  | 0 => exact Nat.le_trans (brkOps_len zs H (kept ++ fs) (enTo kept 4096)) (by omega)
  | 1 =>
    show (tlbOps (mkB zs H (kept ++ fs) (enTo kept 4096))).length ≤ 20000
    rw [tlb_map, List.length_map]
    have := runsL_len (mkB zs H (kept ++ fs) (enTo kept 4096)) 4096
    omega
  | 2 => show ((retL gone n).map opF).length ≤ 20000; rw [List.length_map]; omega
  | 3 => show (fillOps H (kept ++ fs) fs).length ≤ 20000; rw [fillOps_len]; omega
  | t + 4 => exact Nat.le_trans (lnkOps_len zs H (kept ++ fs) (enTo kept 4096)) (by omega)
theorem xSeal_len (t : Nat) (l : List OpE) : (xSeal t l).length ≤ l.length + 1 := by
  unfold xSeal sealO
  split
  · omega
  · split
    · exact Nat.zero_le _
    · simp
theorem xAcc_len (zs : List Int) (H : Nat → Ht) (n : Nat) (kept gone fs : List P3) (hr : (retL gone n).length ≤ 1000) (hf : fs.length ≤ 1000) : ∀ t, (xAcc zs H n kept gone fs t).length ≤ t * 20001
  | 0 => Nat.zero_le _
  | t + 1 => by
    have h1 := xAcc_len zs H n kept gone fs hr hf t
    have h2 := xPart_len zs H n kept gone fs hr hf t
    have h3 := xSeal_len t (xPart zs H n kept gone fs t)
    show (xAcc zs H n kept gone fs t ++ xSeal t (xPart zs H n kept gone fs t)).length ≤ _
    rw [List.length_append]
    omega
theorem xAcc_all (zs : List Int) (H : Nat → Ht) (n : Nat) (kept gone fs : List P3) : xAcc zs H n kept gone fs 5 = sealO (brkOps zs H (kept ++ fs) (enTo kept 4096)) ++ (sealO (tlbOps (mkB zs H (kept ++ fs) (enTo kept 4096))) ++ (freeOps n gone ++ (sealO (fillOps H (kept ++ fs) fs) ++ sealO (lnkOps zs H (kept ++ fs) (enTo kept 4096))))) := by
  rw [freeOps_ret]
  show ((((([] ++ xSeal 0 _) ++ xSeal 1 _) ++ xSeal 2 _) ++ xSeal 3 _) ++ xSeal 4 _) = _
  unfold xSeal
  simp [xPart]
def partFn : Nat → Nat
  | 0 => 96
  | 1 => 100
  | 2 => 104
  | 3 => 105
  | _ => 107
theorem part_any (w : World) (gp gz cz gl M : Nat) (zs : List Int) (H : Nat → Ht) (n : Nat) (kept gone fs : List P3) (aR aC : Option Addr) (cR bR cC bC : Nat) (hI : ProgIn w gp gz cz gl M zs H n kept gone fs aR aC cR bR cC bC) (t : Nat) (ht : t < 5) (wX : World) (a1 : Option Addr) (c1 : Nat) (l : List OpE) (hl : l.length ≤ 700000) (he : Emit w wX gp w.heap.size (w.heap.size + 1) a1 c1 l) :
    Calls Tryz.prog (partFn t) #[putV w.heap.size, .pointer (some ⟨w.heap.size + 1, 0, none⟩)] wX (PutP w.heap.size w.heap.size a1 (l ++ xPart zs H n kept gone fs t) wX) := by
  obtain ⟨hP, hK, hzr, hrt, c4, hrR, hfl, hF, c3, hrC⟩ := hI
  match t, ht with
  | 0, _ => exact brkP_any w gp gz cz gl M w.heap.size (w.heap.size + 1) c1 a1 l zs H kept fs wX hzr hl hP hK he
  | 1, _ => exact invP_any w gp gz cz gl M w.heap.size (w.heap.size + 1) c1 a1 l zs H kept fs wX hzr hl hP hK he
  | 2, _ => exact backP_any w gp w.heap.size (w.heap.size + 1) c1 cR bR a1 aR l (retL gone n) wX hl hrt hP.lt c4 hrR he
  | 3, _ => exact fillP_any w gp gz cz gl M w.heap.size (w.heap.size + 1) c1 cC bC a1 aC l zs H kept fs wX hK.len hl hfl hP hK.pl hF c3 hrC he
  | 4, _ => exact lnkP_any w gp gz cz gl M w.heap.size (w.heap.size + 1) c1 a1 l zs H kept fs wX hzr hl hP hK he
theorem part_run (t : Nat) (ht : t < 5) (a b : Value) (wX : World) : (callFunc (partFn t) #[a, b]).run Tryz.prog wX = .ok (.enter (partFn t) #[a, b]) wX := by
  rcases (show t = 0 ∨ t = 1 ∨ t = 2 ∨ t = 3 ∨ t = 4 by omega) with rfl | rfl | rfl | rfl | rfl <;> kernel_rfl
theorem seal_yes {t : Nat} {l : List OpE} (ht : t ≠ 2) (h : l ≠ []) : xSeal t l = l ++ [dsbO] := by unfold xSeal; rw [if_neg ht, sealO_cons h]
theorem seal_no {t : Nat} {l : List OpE} (h : l = []) : xSeal t l = [] := by unfold xSeal; rw [h]; split <;> rfl
theorem seal_two (l : List OpE) : xSeal 2 l = l := rfl
set_option maxHeartbeats 4000000 in
theorem program_any (w : World) (gp gz cz gl M : Nat) (zs : List Int) (H : Nat → Ht) (n : Nat) (kept gone fs : List P3) (aR aC : Option Addr) (cR bR cC bC : Nat) (hI : ProgIn w gp gz cz gl M zs H n kept gone fs aR aC cR bR cC bC) :
    Calls Tryz.prog 48 #[.pointer (some ⟨gp, 0, none⟩)] w fun r w' => ∃ a c, r = .returned (.slice a (xAcc zs H n kept gone fs 5).length c) ∧ ERow eOp w' w.heap.size (.slice a (xAcc zs H n kept gone fs 5).length c) (xAcc zs H n kept gone fs 5) ∧ Below w.heap.size w w' := by
  have hpa := parts_any gp (w.alloc (.cells #[.slice none 0 0] 28))
  have hsz : (w.alloc (.cells #[.slice none 0 0] 28)).heap.size = w.heap.size + 1 := by simp
  rw [hsz] at hpa
  obtain ⟨wk, hwk⟩ : ∃ wk, wk = ((w.alloc (.cells #[.slice none 0 0] 28)).alloc (.cells #[.pointer (some ⟨gp, 0, none⟩)] 88)).alloc (.cells #[.func (.func 96) #[] #[.pointer (some ⟨w.heap.size + 1, 0, none⟩)], .bool true, .func (.func 100) #[] #[.pointer (some ⟨w.heap.size + 1, 0, none⟩)], .bool true, .func (.func 104) #[] #[.pointer (some ⟨w.heap.size + 1, 0, none⟩)], .bool false, .func (.func 105) #[] #[.pointer (some ⟨w.heap.size + 1, 0, none⟩)], .bool true, .func (.func 107) #[] #[.pointer (some ⟨w.heap.size + 1, 0, none⟩)], .bool true] 134) := ⟨_, rfl⟩
  have hzk : wk.heap.size = w.heap.size + 3 := by rw [hwk]; simp
  have hbk : Below w.heap.size w wk := by rw [hwk]; exact (((Below.refl _ _).alloc (Nat.le_refl _) _).alloc (by simp) _).alloc (by simp; omega) _
  have HEM : Hid (Emit w wk gp w.heap.size (w.heap.size + 1) none 0 []) := hidOf <| by
    refine ⟨⟨by omega, by rw [hwk]; simp [go_sem], by rw [hwk]; simp [go_sem], ⟨by simp [ecells], .inl ⟨rfl, rfl⟩⟩, by simp [oB, Value.ownBlock], by omega⟩, hbk, by rw [hwk]; simp [go_sem], by omega, by omega, by simp [oB, Value.ownBlock], Nat.le_refl _⟩
  have HC : Hid (∀ t, t < 5 → wk.cell? ⟨w.heap.size + 2, t * 2, none⟩ = some (.func (.func (partFn t)) #[] #[.pointer (some ⟨w.heap.size + 1, 0, none⟩)]) ∧ wk.cell? ⟨w.heap.size + 2, t * 2 + 1, none⟩ = some (.bool (decide (t ≠ 2)))) := hidOf <| fun t ht => by
    have hk : wk.heap[w.heap.size + 2]? = some (.cells #[.func (.func 96) #[] #[.pointer (some ⟨w.heap.size + 1, 0, none⟩)], .bool true, .func (.func 100) #[] #[.pointer (some ⟨w.heap.size + 1, 0, none⟩)], .bool true, .func (.func 104) #[] #[.pointer (some ⟨w.heap.size + 1, 0, none⟩)], .bool false, .func (.func 105) #[] #[.pointer (some ⟨w.heap.size + 1, 0, none⟩)], .bool true, .func (.func 107) #[] #[.pointer (some ⟨w.heap.size + 1, 0, none⟩)], .bool true] 134) := by
      rw [hwk]
      have := heap_alloc_new ((w.alloc (.cells #[.slice none 0 0] 28)).alloc (.cells #[.pointer (some ⟨gp, 0, none⟩)] 88)) (.cells #[.func (.func 96) #[] #[.pointer (some ⟨w.heap.size + 1, 0, none⟩)], .bool true, .func (.func 100) #[] #[.pointer (some ⟨w.heap.size + 1, 0, none⟩)], .bool true, .func (.func 104) #[] #[.pointer (some ⟨w.heap.size + 1, 0, none⟩)], .bool false, .func (.func 105) #[] #[.pointer (some ⟨w.heap.size + 1, 0, none⟩)], .bool true, .func (.func 107) #[] #[.pointer (some ⟨w.heap.size + 1, 0, none⟩)], .bool true] 134)
      simpa using this
    unfold World.cell?
    rw [hk]
    match t, ht with
    | 0, _ => exact ⟨rfl, rfl⟩
    | 1, _ => exact ⟨rfl, rfl⟩
    | 2, _ => exact ⟨rfl, rfl⟩
    | 3, _ => exact ⟨rfl, rfl⟩
    | 4, _ => exact ⟨rfl, rfl⟩
  have HPA : Hid (∀ t, t < 5 → ∀ wX a1 c1 (l : List OpE), l.length ≤ 700000 → Emit w wX gp w.heap.size (w.heap.size + 1) a1 c1 l → Calls Tryz.prog (partFn t) #[putV w.heap.size, .pointer (some ⟨w.heap.size + 1, 0, none⟩)] wX (PutP w.heap.size w.heap.size a1 (l ++ xPart zs H n kept gone fs t) wX)) := fun t ht wX a1 c1 l hl he => part_any w gp gz cz gl M zs H n kept gone fs aR aC cR bR cC bC hI t ht wX a1 c1 l hl he
  have HRUN : Hid (∀ t, t < 5 → ∀ (a b : Value) (wX : World), (callFunc (partFn t) #[a, b]).run Tryz.prog wX = .ok (.enter (partFn t) #[a, b]) wX) := part_run
  have HAL : Hid (∀ t, (xAcc zs H n kept gone fs t).length ≤ t * 20001) := xAcc_len zs H n kept gone fs hI.rt hI.fl
  have HPL : Hid (∀ t, (xPart zs H n kept gone fs t).length ≤ 20000) := xPart_len zs H n kept gone fs hI.rt hI.fl
  have HAS : Hid (∀ t, xAcc zs H n kept gone fs (t + 1) = xAcc zs H n kept gone fs t ++ xSeal t (xPart zs H n kept gone fs t)) := fun t => rfl
  have HZK : Hid (wk.heap.size = w.heap.size + 3) := hzk
  have HBK : Hid (Below w.heap.size w wk) := hbk
  have HA0 : Hid (xAcc zs H n kept gone fs 0 = []) := rfl
  have N3 : w.heap.size + 2 < wk.heap.size := by omega
  generalize xAcc zs H n kept gone fs = XA at *
  generalize xPart zs H n kept gone fs = XP at *
  have HWK : Hid (wk = _) := hwk
  clear hI hwk hzk hbk hsz
  go_enter Tryz.func48, Tryz.ntmps48
  go_wp2_with fail
  refine hpa.mono ?_
  rintro r w1 ⟨rfl, hw1⟩
  have hw2 : wk = w1 := HWK.out.trans hw1.symm
  clear hpa hw1 HWK
  subst hw2
  go_wp2_with fail
  go_loopw [12] (fun iv wr => ∃ t : Nat, t ≤ 5 ∧ iv = .int .i64 t ∧ EmitR w wk wr gp w.heap.size (w.heap.size + 1) none (XA t)) (fun iv _ => 5 - (intOf iv).toNat)
  case atStart => exact ⟨0, Nat.zero_le _, rfl, by rw [HA0.out]; exact EmitR.start HEM.out (Below.refl _ _)⟩
  case round =>
    obtain ⟨t, ht5, rfl, a1, c1, he, ht, hn⟩ := hrel
    by_cases hlt : t < 5
    · have hp2 : ¬ (w.heap.size + 2 = w.heap.size ∨ oB none = some (w.heap.size + 2)) := fun hh => by
        rcases hh with e | e
        · omega
        · cases e
      have bp := ht.block (w.heap.size + 2) N3 hp2
      obtain ⟨x0, x1⟩ := HC.out t hlt
      have y0 : wr.cell? ⟨w.heap.size + 2, t * 2, none⟩ = some (.func (.func (partFn t)) #[] #[.pointer (some ⟨w.heap.size + 1, 0, none⟩)]) := (cob bp).trans x0
      have y1 : wr.cell? ⟨w.heap.size + 2, t * 2 + 1, none⟩ = some (.bool (decide (t ≠ 2))) := (cob bp).trans x1
      have o0 := he.ops.cell
      have hol := he.ops.lt
      have hal := HAL.out t
      have hpl := HPL.out t
      obtain ⟨sd, hsd⟩ : ∃ sd, decide (t ≠ 2) = sd := ⟨_, rfl⟩
      rw [hsd] at y1
      have HSD : Hid (decide (t ≠ 2) = sd) := hsd
      obtain ⟨L, hL⟩ : ∃ L, XA t = L := ⟨_, rfl⟩
      obtain ⟨X, hX⟩ : ∃ X, XP t = X := ⟨_, rfl⟩
      have HSU : Hid (XA (t + 1) = L ++ xSeal t X) := hidOf <| by rw [HAS.out, hL, hX]
      rw [hL] at o0 hal he
      rw [hX] at hpl
      obtain ⟨wz, hwz⟩ : ∃ wz, wz = wr.alloc (.cells #[.func (.func (partFn t)) #[] #[.pointer (some ⟨w.heap.size + 1, 0, none⟩)], .bool sd] 134) := ⟨_, rfl⟩
      have hbz : Below wr.heap.size wr wz := by rw [hwz]; exact bal
      have z0 : wz.cell? ⟨wr.heap.size, 0, none⟩ = some (.func (.func (partFn t)) #[] #[.pointer (some ⟨w.heap.size + 1, 0, none⟩)]) := by rw [hwz]; simp [go_sem]
      have z1 : wz.cell? ⟨wr.heap.size, 1, none⟩ = some (.bool sd) := by rw [hwz]; simp [go_sem]
      have N4 : wr.heap.size < wz.heap.size := by rw [hwz]; simp
      have hez := he.below hbz
      have hpart := HPA.out t hlt wz a1 c1 L (by omega) hez
      have hrun := HRUN.out t hlt
      rw [hX] at hpart
      generalize partFn t = PF at *
      have HE : Hid _ := hez
      have HT : Hid (Tch (fun k => k = w.heap.size ∨ oB none = some k) wk wz) := ht.then (Tch.of_below (S := fun _ => False) hbz) (fun k _ h => h.elim)
      have HN : Hid (∀ k, oB a1 = some k → oB none = some k ∨ wk.heap.size ≤ k) := hn
      have HNZ : Hid (¬ (wr.heap.size = w.heap.size ∨ oB a1 = some wr.heap.size)) := hidOf <| fun hh => by
        rcases hh with e | e
        · omega
        · have := (he.ops.own _ e).2; omega
      have p0 := hez.ops.cell
      have L1 : (0 : Int) ≤ (t : Int) := by omega
      have L2 : (t : Int) < 5 := by omega
      have HWZ : Hid (wz = _) := hwz
      clear he ht hn bp x0 x1 hsd hL hX hwz hbz hez hp2
      unfold putV at hpart
      go_wp2_with fail
      rw [← HWZ.out]
      refine hpart.mono ?_
      rintro r w2 hp
      have hbl : w2.heap[wr.heap.size]? = wz.heap[wr.heap.size]? := by
        obtain ⟨_, a', c', _, h2, _⟩ := hp
        exact h2.block _ N4 HNZ.out
      obtain ⟨rfl, a2, c2, he2, ht2, hn2⟩ := EmitR.put HE.out HT.out HN.out hp
      have q1 : w2.cell? ⟨wr.heap.size, 1, none⟩ = some (.bool sd) := (cob hbl).trans z1
      obtain ⟨L3, hL3⟩ : ∃ L3, L ++ X = L3 := ⟨_, rfl⟩
      rw [hL3] at he2
      have o2 := he2.ops.cell
      have hol2 := he2.ops.lt
      have hlen3 : L3.length = L.length + X.length := by rw [← hL3, List.length_append]
      have HE2 : Hid (Emit w w2 gp w.heap.size (w.heap.size + 1) a2 c2 L3) := he2
      have HT2 : Hid (Tch (fun k => k = w.heap.size ∨ oB none = some k) wk w2) := ht2
      have HN2 : Hid (∀ k, oB a2 = some k → oB none = some k ∨ wk.heap.size ≤ k) := hn2
      have HL3 : Hid (L ++ X = L3) := hL3
      have N5 : wr.heap.size < w2.heap.size := by
        obtain ⟨_, a', c', _, h2, _⟩ := hp
        exact Nat.lt_of_lt_of_le N4 h2.size
      clear hpart hp hbl he2 ht2 hn2 hL3 hrun
      cases sd
      · have ht2' : t = 2 := by
          have := of_decide_eq_false HSD.out
          omega
        have HQ : Hid (XA (t + 1) = L3) := hidOf <| by rw [HSU.out, ht2', seal_two, HL3.out]
        clear ht2'
        go_wp2_with fail
        go_roundw
        case rel => exact ⟨t + 1, by omega, by go_num, by rw [HQ.out]; exact ⟨a2, c2, HE2.out, HT2.out, HN2.out⟩⟩
        case measure => simp [intOf]; omega
      · have ht2' : t ≠ 2 := of_decide_eq_true HSD.out
        by_cases hx : X = []
        · have HQ : Hid (XA (t + 1) = L3) := hidOf <| by rw [HSU.out, seal_no hx, List.append_nil, ← HL3.out, hx, List.append_nil]
          have hle : L3.length = L.length := by rw [hlen3, hx]; rfl
          have dl : decide ((L.length : Int) < (L3.length : Int)) = false := decide_eq_false (by omega)
          have dl2 : decide (L.length < L3.length) = false := decide_eq_false (by omega)
          have dl3 : ¬ (L.length < L3.length) := by omega
          clear hx hle hlen3
          go_wp2_with fail
          go_roundw
          case rel => exact ⟨t + 1, by omega, by go_num, by rw [HQ.out]; exact ⟨a2, c2, HE2.out, HT2.out, HN2.out⟩⟩
          case measure => simp [intOf]; omega
        · have HQ : Hid (XA (t + 1) = L3 ++ [dsbO]) := hidOf <| by rw [HSU.out, seal_yes ht2' hx, ← List.append_assoc, HL3.out]
          have hxl : 0 < X.length := List.length_pos_iff.2 hx
          have dl : decide ((L.length : Int) < (L3.length : Int)) = true := decide_eq_true (by omega)
          have dl2 : decide (L.length < L3.length) = true := decide_eq_true (by omega)
          have dl3 : L.length < L3.length := by omega
          have hput := put_any w.heap.size w.heap.size c2 a2 L3 ⟨2, 0, 0, 0⟩ w2 (by omega) HE2.out.ops
          clear hx hxl hlen3
          dsimp only at hput
          go_wp2_with fail
          refine hput.mono ?_
          rintro r w3 hp3
          obtain ⟨rfl, hr3⟩ := EmitR.put HE2.out HT2.out HN2.out hp3
          clear hput hp3
          go_wp2_with fail
          go_roundw
          case rel => exact ⟨t + 1, by omega, by go_num, by rw [HQ.out]; exact hr3⟩
          case measure => simp [intOf]; omega
    · have et : t = 5 := by omega
      subst et
      have o0 := he.ops.cell
      have hol := he.ops.lt
      have HE : Hid _ := he
      clear he ht hn
      go_wp2_with fail
      go_ret
      exact ⟨a1, c1, rfl, HE.out.ops.row, HE.out.pl⟩
end Go.Proofs.YtnmhkgmmpkjjeacGreat
