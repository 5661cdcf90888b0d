import Derived.Test.YtnmhkgmmpkjjeaaG41
import Derived.Test.YtnmhkgmmpkjjeaaG02
import Derived.Test.YtnmhkgmmpkjjeaaG04
import Derived.Deep.DeepCutAuto
namespace Go.Proofs.Ytnmhkgmmpkjjeaa
open Go.ChangeShapes Go.WideShapes Go.ChangeAt Go.RowKit
set_option linter.unusedVariables false
set_option linter.unusedSimpArgs false
set_option maxRecDepth 100000
attribute [local go_sem ↓] Go.wp_at_zero Go.wp_at_succ
attribute [local go_sem] bs_size bs_cAt bs_app bs_mk bs_cut bs_list

/-! The text of areas. -/
def tObj : Txt := [111, 98, 106, 101, 99, 116, 32]
def tSp : Txt := [32]
def tAtt : Txt := [32, 97, 116, 32]
def tSha : Txt := [32, 115, 104, 97, 114, 101, 100]
def tReg : Txt := [114, 101, 103, 105, 111, 110, 32]
def tHuge : Txt := [32, 104, 117, 103, 101]
def tEnd : Txt := [59, 10]
theorem bs_tObj : bs [111, 98, 106, 101, 99, 116, 32] = bs tObj := rfl
theorem bs_tSp : bs [32] = bs tSp := rfl
theorem bs_tAtt : bs [32, 97, 116, 32] = bs tAtt := rfl
theorem bs_tSha : bs [32, 115, 104, 97, 114, 101, 100] = bs tSha := rfl
theorem bs_tReg : bs [114, 101, 103, 105, 111, 110, 32] = bs tReg := rfl
theorem bs_tHuge : bs [32, 104, 117, 103, 101] = bs tHuge := rfl
theorem bs_tEnd : bs [59, 10] = bs tEnd := rfl
attribute [local go_sem] bs_tObj bs_tSp bs_tAtt bs_tSha bs_tReg bs_tHuge bs_tEnd
def nmsL : Txt := [97, 98, 99, 100, 101, 102, 103, 104]
def shTo (xs : List ArE) : Nat → Bool
  | 0 => false
  | k + 1 => (decide ((eAt eArea xs k).same = 0) && !(eAt eArea xs k).gone) || shTo xs k
def nameA (i : Nat) (x : ArE) : Txt := if x.same = 0 then [97] else cutL nmsL i (i + 1)
def objB (i : Nat) (x : ArE) (s : Txt) : Txt := s ++ [111, 98, 106, 101, 99, 116, 32] ++ cutL nmsL i (i + 1) ++ [32] ++ showL x.count.toNat ++ [32, 97, 116, 32] ++ showL x.out.toNat
def objT (sh : Bool) (i : Nat) (x : ArE) (s : Txt) : Txt := if x.same = 0 then s else if i = 0 ∧ sh = true then objB i x s ++ [32, 115, 104, 97, 114, 101, 100] ++ [59, 10] else objB i x s ++ [59, 10]
def prmA (sh : Bool) (i : Nat) (x : ArE) : Int := if x.same = 0 then x.perm else if i = 0 ∧ sh = true then (x.perm - 1) % 3 + 1 else x.perm
def regB (nm : Txt) (p : Nat) (x : ArE) (s : Txt) : Txt := s ++ [114, 101, 103, 105, 111, 110, 32] ++ showL x.page.toNat ++ [32] ++ nm ++ [32] ++ ptxt p
def regT (nm : Txt) (p : Nat) (x : ArE) (s : Txt) : Txt := if x.gone = true then s else if x.huge = true then regB nm p x s ++ [32, 104, 117, 103, 101] ++ [59, 10] else regB nm p x s ++ [59, 10]
def txTo (xs : List ArE) (sh : Bool) : Nat → Txt
  | 0 => []
  | k + 1 => regT (nameA k (eAt eArea xs k)) (prmA sh k (eAt eArea xs k)).toNat (eAt eArea xs k) (objT sh k (eAt eArea xs k) (txTo xs sh k))
def areasTxt (xs : List ArE) : Txt := txTo xs (shTo xs xs.length) xs.length
theorem prmA_b {K : Int} {sh : Bool} {i : Nat} {x : ArE} (h : AB K x) : 1 ≤ prmA sh i x ∧ prmA sh i x ≤ 7 := by
  have := h.r
  unfold prmA
  repeat' split
  all_goals omega

theorem cutL1_len (l : Txt) (i : Nat) : (cutL l i (i + 1)).length ≤ 1 := by
  unfold cutL
  rw [List.length_drop, List.length_take]
  omega
theorem ptxt_len (k : Nat) (h1 : 1 ≤ k) (h7 : k ≤ 7) : (ptxt k).length ≤ 3 := by
  rcases (show k = 1 ∨ k = 2 ∨ k = 3 ∨ k = 4 ∨ k = 5 ∨ k = 6 ∨ k = 7 by omega) with rfl | rfl | rfl | rfl | rfl | rfl | rfl <;> decide
theorem txTo_len (xs : List ArE) (sh : Bool) (hb : ∀ j, j < xs.length → AB 30000 (eAt eArea xs j)) : ∀ k, k ≤ xs.length → (txTo xs sh k).length ≤ 100000 * k
  | 0, _ => by simp [txTo]
  | k + 1, hk => by
    have ih := txTo_len xs sh hb k (by omega)
    have h := hb k (by omega)
    show (regT _ _ _ _).length ≤ _
    generalize eAt eArea xs k = x at *
    have hp := prmA_b (sh := sh) (i := k) h
    have h1 := showL_len x.count.toNat
    have h2 := showL_len x.out.toNat
    have h3 := showL_len x.page.toNat
    have h4 := cutL1_len nmsL k
    have h5 := ptxt_len (prmA sh k x).toNat (by omega) (by omega)
    have b1 := h.c
    have b2 := h.o
    have b3 := h.p
    have ho : (objT sh k x (txTo xs sh k)).length ≤ 100000 * k + 40000 := by
      unfold objT objB
      repeat' split
      all_goals (first | omega | (simp only [List.length_append, List.length_cons, List.length_nil]; omega))
    have hn : (nameA k x).length ≤ 1 := by unfold nameA; split <;> first | exact h4 | decide
    unfold regT regB
    repeat' split
    all_goals (first | omega | (simp only [List.length_append, List.length_cons, List.length_nil]; omega))

theorem objT_len {sh : Bool} {k : Nat} {x : ArE} (S : Txt) (h : AB 30000 x) : (objT sh k x S).length ≤ S.length + 40000 := by
  have h1 := showL_len x.count.toNat
  have h2 := showL_len x.out.toNat
  have h4 := cutL1_len nmsL k
  have b1 := h.c
  have b2 := h.o
  unfold objT objB
  repeat' split
  all_goals (first | omega | (simp only [List.length_append, List.length_cons, List.length_nil]; omega))
theorem nameA_len (k : Nat) (x : ArE) : (nameA k x).length ≤ 1 := by unfold nameA; split <;> first | exact cutL1_len nmsL k | decide

set_option maxHeartbeats 8000000 in
theorem areasText_any (g c b : Nat) (xs : List ArE) (w : World) (hl : xs.length ≤ 8) (hb : ∀ j, j < xs.length → AB 30000 (eAt eArea xs j)) (h : ERow eArea w b (.slice (some ⟨g, 0, none⟩) xs.length c) xs) :
    Calls Try.prog 116 #[.slice (some ⟨g, 0, none⟩) xs.length c] w fun e w' => e = .returned (.string (bs (areasTxt xs))) ∧ Below w.heap.size w w' := by
  have HEL : Hid (∀ k, k < xs.length → ∃ x, eAt eArea xs k = x ∧ AB 30000 x ∧ g < w.heap.size ∧ ∀ wX, Below w.heap.size w wX → wX.cell? ⟨g, k * 7, none⟩ = some (.int .i64 x.page) ∧ wX.cell? ⟨g, k * 7 + 1, none⟩ = some (.int .i64 x.count) ∧ wX.cell? ⟨g, k * 7 + 2, none⟩ = some (.int .i64 x.out) ∧ wX.cell? ⟨g, k * 7 + 3, none⟩ = some (.int .i64 x.perm) ∧ wX.cell? ⟨g, k * 7 + 4, none⟩ = some (.bool x.huge) ∧ wX.cell? ⟨g, k * 7 + 5, none⟩ = some (.int .i64 x.same) ∧ wX.cell? ⟨g, k * 7 + 6, none⟩ = some (.bool x.gone)) := hidP (fun k hk => by
    obtain ⟨hg, hc⟩ := arS_cells h hk rfl
    exact ⟨_, rfl, hb k hk, hg, fun wX hX => hc wX (hX.block g hg)⟩)
  have HLT : Hid (∀ sh k, k ≤ xs.length → (txTo xs sh k).length ≤ 100000 * k) := hidP (fun sh => txTo_len xs sh hb)
  have HSH : Hid (areasTxt xs = txTo xs (shTo xs xs.length) xs.length) := hidP rfl
  have HS1 : Hid (∀ k, shTo xs (k + 1) = ((decide ((eAt eArea xs k).same = 0) && !(eAt eArea xs k).gone) || shTo xs k)) := hidP (fun k => rfl)
  generalize areasTxt xs = R at *
  have HNM : Hid (nmsL = [97, 98, 99, 100, 101, 102, 103, 104]) := hidP rfl
  have hnl : nmsL.length = 8 := rfl
  clear h hb
  go_enter Try.func116, Try.ntmps116
  go_wp2_with fail
  go_loopw [5, 6] (fun sv iv wr => ∃ k : Nat, k ≤ xs.length ∧ sv = .bool (shTo xs k) ∧ iv = .int .i64 (k : Int) ∧ wr = w) (fun _ iv _ => xs.length - (intOf iv).toNat)
  case atStart => exact ⟨0, by omega, rfl, rfl, rfl⟩
  case round =>
    obtain ⟨k, hk, rfl, rfl, ew⟩ := hrel
    obtain rfl : w = wr := ew.symm
    by_cases hlt : k < xs.length
    · have K0 : (0 : Int) ≤ (k : Int) := by omega
      have K1 : (k : Int) < (xs.length : Int) := by omega
      obtain ⟨x, hx, hab, hg, hc⟩ := HEL.out k hlt
      obtain ⟨u0, u1, u2, u3, u4, u5, u6⟩ := hc w (Below.refl _ _)
      have hs1 := HS1.out k
      rw [hx] at hs1
      clear hc hx
      by_cases h0 : x.same = 0
      · have h0b : (x.same == 0) = true := by simpa using h0
        cases hgn : x.gone
        · rw [hgn] at u6
          have HE : Hid (shTo xs (k + 1) = true) := hidP (by rw [hs1, hgn]; simp [h0])
          clear hs1 h0 hgn
          go_wp2_with fail
          go_roundw
          case rel => exact ⟨k + 1, by omega, by rw [HE.out], by go_num, by first | rfl | trivial⟩
          case measure => first | (simp [intOf]; done) | (simp [intOf]; omega)
        · rw [hgn] at u6
          have HE : Hid (shTo xs (k + 1) = shTo xs k) := hidP (by rw [hs1, hgn]; simp)
          clear hs1 h0 hgn
          go_wp2_with fail
          go_roundw
          case rel => exact ⟨k + 1, by omega, by rw [HE.out], by go_num, by first | rfl | trivial⟩
          case measure => first | (simp [intOf]; done) | (simp [intOf]; omega)
      · have h0b : (x.same == 0) = false := by simpa using h0
        have HE : Hid (shTo xs (k + 1) = shTo xs k) := hidP (by rw [hs1]; simp [h0])
        clear hs1
        go_wp2_with fail
        go_roundw
        case rel => exact ⟨k + 1, by omega, by rw [HE.out], by go_num, by first | rfl | trivial⟩
        case measure => first | (simp [intOf]; done) | (simp [intOf]; omega)
    · obtain rfl : k = xs.length := by omega
      have K2 : ¬ (xs.length : Int) < (xs.length : Int) := by omega
      generalize shTo xs xs.length = sh at *
      have HT1 : Hid (∀ k, txTo xs sh (k + 1) = regT (nameA k (eAt eArea xs k)) (prmA sh k (eAt eArea xs k)).toNat (eAt eArea xs k) (objT sh k (eAt eArea xs k) (txTo xs sh k))) := hidP (fun k => rfl)
      go_wp2_with fail
      go_loopw [3, 7] (fun sv iv wr => ∃ k : Nat, k ≤ xs.length ∧ sv = .string (bs (txTo xs sh k)) ∧ iv = .int .i64 (k : Int) ∧ Below w.heap.size w wr) (fun _ iv _ => xs.length - (intOf iv).toNat)
      case atStart => exact ⟨0, by omega, rfl, rfl, Below.refl _ _⟩
      case round =>
        obtain ⟨k, hk, rfl, rfl, hbr⟩ := hrel
        by_cases hlt : k < xs.length
        · have K0 : (0 : Int) ≤ (k : Int) := by omega
          have K1 : (k : Int) < (xs.length : Int) := by omega
          have K3 : (k : Int) ≤ (k : Int) + 1 := by omega
          have K4 : (k : Int) + 1 ≤ 8 := by omega
          obtain ⟨x, hx, hab, hg, hc⟩ := HEL.out k hlt
          obtain ⟨u0, u1, u2, u3, u4, u5, u6⟩ := hc wr hbr
          have ht1 := HT1.out k
          rw [hx] at ht1
          have HTX : Hid (txTo xs sh (k + 1) = regT (nameA k x) (prmA sh k x).toNat x (objT sh k x (txTo xs sh k))) := ht1
          have HBR : Hid (Below w.heap.size w wr) := hbr
          have HAB : Hid (AB 30000 x) := hab
          have bS := HLT.out sh k hk
          generalize txTo xs sh k = S at *
          clear hc hx ht1 hbr hab
          go_upto_region 13 with fail
          obtain ⟨w7, hw7⟩ : ∃ w7, w7 = wr.alloc (.cells #[.int .i64 x.page, .int .i64 x.count, .int .i64 x.out, .int .i64 x.perm, .bool x.huge, .int .i64 x.same, .bool x.gone] 219) := ⟨_, rfl⟩
          have HX7 : Hid (XB wr w7 x) := hidP (by
            rw [hw7]
            refine ⟨?_, ?_, ?_, ?_, ?_, ?_, ?_, fun i hi => ?_, bal, by simp⟩
            iterate 7 (simp [go_sem])
            · rcases (show i = 0 ∨ i = 1 ∨ i = 2 ∨ i = 3 ∨ i = 4 ∨ i = 5 ∨ i = 6 by omega) with rfl | rfl | rfl | rfl | rfl | rfl | rfl <;> simp [go_sem])
          rw [← hw7]
          clear hw7 u0 u1 u2 u3 u4 u5 u6
          have LX := HX7.out.lt
          have y0 := HX7.out.c0
          have y1 := HX7.out.c1
          have y2 := HX7.out.c2
          have y3 := HX7.out.c3
          have y4 := HX7.out.c4
          have y5 := HX7.out.c5
          have y6 := HX7.out.c6
          have v0 := HX7.out.fz 0 (by omega)
          have v1 := HX7.out.fz 1 (by omega)
          have v2 := HX7.out.fz 2 (by omega)
          have v3 := HX7.out.fz 3 (by omega)
          have v4 := HX7.out.fz 4 (by omega)
          have v5 := HX7.out.fz 5 (by omega)
          have v6 := HX7.out.fz 6 (by omega)
          obtain ⟨CN, hCN⟩ : ∃ n : Nat, x.count = (n : Int) := ⟨x.count.toNat, by have := HAB.out.c; omega⟩
          obtain ⟨ON, hON⟩ : ∃ n : Nat, x.out = (n : Int) := ⟨x.out.toNat, by have := HAB.out.o; omega⟩
          obtain ⟨PN, hPN⟩ : ∃ n : Nat, x.page = (n : Int) := ⟨x.page.toNat, by have := HAB.out.p; omega⟩
          have HSC := l4Show_any CN (by have := HAB.out.c; omega)
          have HSO := l4Show_any ON (by have := HAB.out.o; omega)
          have HSP := l4Show_any PN (by have := HAB.out.p; omega)
          have HC : Hid (∀ wX, Calls _ _ _ wX _) := hidP HSC
          have HO : Hid (∀ wX, Calls _ _ _ wX _) := hidP HSO
          have HP : Hid (∀ wX, Calls _ _ _ wX _) := hidP HSP
          have HOB : Hid (objB k x S = S ++ [111, 98, 106, 101, 99, 116, 32] ++ cutL nmsL k (k + 1) ++ [32] ++ showL CN ++ [32, 97, 116, 32] ++ showL ON) := hidP (by unfold objB; rw [hCN, hON]; rfl)
          have hq := prmA_b (sh := sh) (i := k) HAB.out
          obtain ⟨QN, hQN⟩ : ∃ n : Nat, prmA sh k x = (n : Int) := ⟨(prmA sh k x).toNat, by omega⟩
          have HPT := fun wX => l4PermText_any QN (by omega) (by omega) wX
          have HPQ : Hid (∀ wX, Calls _ _ _ wX _) := hidP HPT
          have HRB : Hid (∀ nm s, regB nm (prmA sh k x).toNat x s = s ++ [114, 101, 103, 105, 111, 110, 32] ++ showL PN ++ [32] ++ nm ++ [32] ++ ptxt QN) := hidP (fun nm s => by unfold regB; rw [hPN, hQN]; rfl)
          have HQN : Hid (prmA sh k x = (QN : Int)) := hQN
          have HPD : Hid (prmA sh k x = if x.same = 0 then x.perm else if k = 0 ∧ sh = true then (x.perm - 1) % 3 + 1 else x.perm) := hidP rfl
          have HOD : Hid (objT sh k x S = if x.same = 0 then S else if k = 0 ∧ sh = true then objB k x S ++ [32, 115, 104, 97, 114, 101, 100] ++ [59, 10] else objB k x S ++ [59, 10]) := hidP rfl
          have HND : Hid (nameA k x = if x.same = 0 then [97] else cutL nmsL k (k + 1)) := hidP rfl
          have br := HAB.out.r
          clear HSC HSO HSP HPT hQN hq
          rw [hPN] at y0
          rw [hCN] at y1
          rw [hON] at y2
          go_upto_if 47 with fail
          obtain ⟨NM, hNM⟩ : ∃ NM, cutL [97, 98, 99, 100, 101, 102, 103, 104] k (k + 1) = NM := ⟨_, rfl⟩
          rw [hNM]
          have HNN : Hid (cutL nmsL k (k + 1) = NM) := hNM
          have bNM : NM.length ≤ 1 := by rw [← hNM]; exact cutL1_len _ k
          have bCN : (showL CN).length ≤ 100 := by have := showL_len CN; have := HAB.out.c; omega
          have bON : (showL ON).length ≤ 30001 := by have := showL_len ON; have := HAB.out.o; omega
          have bPN : (showL PN).length ≤ 30001 := by have := showL_len PN; have := HAB.out.p; omega
          have z1 : List.length tObj = 7 := rfl
          have z2 : List.length tSp = 1 := rfl
          have z3 : List.length tAtt = 4 := rfl
          have z4 : List.length tSha = 7 := rfl
          have z5 : List.length tReg = 7 := rfl
          have z6 : List.length tHuge = 5 := rfl
          have z7 : List.length tEnd = 2 := rfl
          have n1 : ¬ 9223372036854775807 < List.length S + List.length tObj := by omega
          have n2 : ¬ 9223372036854775807 < List.length S + List.length tObj + List.length NM := by omega
          have n3 : ¬ 9223372036854775807 < List.length S + List.length tObj + List.length NM + List.length tSp := by omega
          have nr3 : ¬ 9223372036854775807 < List.length S + (List.length tObj + List.length NM) + List.length tSp := by omega
          have n4 : ¬ 9223372036854775807 < List.length S + List.length tObj + List.length NM + List.length tSp + List.length (showL CN) := by omega
          have nr4 : ¬ 9223372036854775807 < List.length S + (List.length tObj + (List.length NM + List.length tSp)) + List.length (showL CN) := by omega
          have n5 : ¬ 9223372036854775807 < List.length S + List.length tObj + List.length NM + List.length tSp + List.length (showL CN) + List.length tAtt := by omega
          have nr5 : ¬ 9223372036854775807 < List.length S + (List.length tObj + (List.length NM + (List.length tSp + List.length (showL CN)))) + List.length tAtt := by omega
          have n6 : ¬ 9223372036854775807 < List.length S + List.length tObj + List.length NM + List.length tSp + List.length (showL CN) + List.length tAtt + List.length (showL ON) := by omega
          have nr6 : ¬ 9223372036854775807 < List.length S + (List.length tObj + (List.length NM + (List.length tSp + (List.length (showL CN) + List.length tAtt)))) + List.length (showL ON) := by omega
          have n7 : ¬ 9223372036854775807 < List.length S + List.length tObj + List.length NM + List.length tSp + List.length (showL CN) + List.length tAtt + List.length (showL ON) + List.length tSha := by omega
          have nr7 : ¬ 9223372036854775807 < List.length S + (List.length tObj + (List.length NM + (List.length tSp + (List.length (showL CN) + (List.length tAtt + List.length (showL ON)))))) + List.length tSha := by omega
          have n8 : ¬ 9223372036854775807 < List.length S + List.length tObj + List.length NM + List.length tSp + List.length (showL CN) + List.length tAtt + List.length (showL ON) + List.length tSha + List.length tEnd := by omega
          have nr8 : ¬ 9223372036854775807 < List.length S + (List.length tObj + (List.length NM + (List.length tSp + (List.length (showL CN) + (List.length tAtt + (List.length (showL ON) + List.length tSha)))))) + List.length tEnd := by omega
          have m1 : ¬ 9223372036854775807 < List.length S + List.length tObj := by omega
          have m2 : ¬ 9223372036854775807 < List.length S + List.length tObj + List.length NM := by omega
          have m3 : ¬ 9223372036854775807 < List.length S + List.length tObj + List.length NM + List.length tSp := by omega
          have mr3 : ¬ 9223372036854775807 < List.length S + (List.length tObj + List.length NM) + List.length tSp := by omega
          have m4 : ¬ 9223372036854775807 < List.length S + List.length tObj + List.length NM + List.length tSp + List.length (showL CN) := by omega
          have mr4 : ¬ 9223372036854775807 < List.length S + (List.length tObj + (List.length NM + List.length tSp)) + List.length (showL CN) := by omega
          have m5 : ¬ 9223372036854775807 < List.length S + List.length tObj + List.length NM + List.length tSp + List.length (showL CN) + List.length tAtt := by omega
          have mr5 : ¬ 9223372036854775807 < List.length S + (List.length tObj + (List.length NM + (List.length tSp + List.length (showL CN)))) + List.length tAtt := by omega
          have m6 : ¬ 9223372036854775807 < List.length S + List.length tObj + List.length NM + List.length tSp + List.length (showL CN) + List.length tAtt + List.length (showL ON) := by omega
          have mr6 : ¬ 9223372036854775807 < List.length S + (List.length tObj + (List.length NM + (List.length tSp + (List.length (showL CN) + List.length tAtt)))) + List.length (showL ON) := by omega
          have m7 : ¬ 9223372036854775807 < List.length S + List.length tObj + List.length NM + List.length tSp + List.length (showL CN) + List.length tAtt + List.length (showL ON) + List.length tEnd := by omega
          have mr7 : ¬ 9223372036854775807 < List.length S + (List.length tObj + (List.length NM + (List.length tSp + (List.length (showL CN) + (List.length tAtt + List.length (showL ON)))))) + List.length tEnd := by omega
          clear z1 z2 z3 z4 z5 z6 z7
          clear hNM
          go_cut [3, 9] (fun sv nv wz => sv = .string (bs (objT sh k x S)) ∧ nv = .string (bs (nameA k x)) ∧ XB wr wz ⟨x.page, x.count, x.out, prmA sh k x, x.huge, x.same, x.gone⟩)
          case first =>
            by_cases h0 : x.same = 0
            · have h0b : (x.same == 0) = true := by simpa using h0
              have H1 : Hid (objT sh k x S = S) := hidP (by rw [HOD.out, if_pos h0])
              have H2 : Hid (nameA k x = [97]) := hidP (by rw [HND.out, if_pos h0])
              have H3 : Hid (prmA sh k x = x.perm) := hidP (by rw [HPD.out, if_pos h0])
              clear h0
              go_wp2_with fail
              go_meet
              case rel => exact ⟨by rw [H1.out], by rw [H2.out], by rw [H3.out]; exact HX7.out⟩
            · have h0b : (x.same == 0) = false := by simpa using h0
              have H2 : Hid (nameA k x = NM) := hidP (by rw [HND.out, if_neg h0, HNN.out])
              have HOD2 : Hid (objT sh k x S = if k = 0 ∧ sh = true then objB k x S ++ [32, 115, 104, 97, 114, 101, 100] ++ [59, 10] else objB k x S ++ [59, 10]) := hidP (by rw [HOD.out, if_neg h0])
              have HPD2 : Hid (prmA sh k x = if k = 0 ∧ sh = true then (x.perm - 1) % 3 + 1 else x.perm) := hidP (by rw [HPD.out, if_neg h0])
              have HSA : Hid (∀ wX, Below w7.heap.size w7 wX → wX.cell? ⟨wr.heap.size, 1, none⟩ = some (.int .i64 (CN : Int)) ∧ wX.cell? ⟨wr.heap.size, 2, none⟩ = some (.int .i64 (ON : Int))) := hidP (fun wX hX => ⟨(hX.cell (p := ⟨wr.heap.size, 1, none⟩) LX).trans y1, (hX.cell (p := ⟨wr.heap.size, 2, none⟩) LX).trans y2⟩)
              clear h0
              go_wp2_with fail
              refine wp_region_held_drew (S := fun wX => wX.cell? ⟨wr.heap.size, 1, none⟩ = some (.int .i64 (CN : Int)) ∧ wX.cell? ⟨wr.heap.size, 2, none⟩ = some (.int .i64 (ON : Int))) (by kernel_rfl) (HSA.out _ (Below.refl _ _).drew) (fun hHeld => ?_)
              refine tk 0 ?_
              refine tk 1 ?_
              refine tk 2 ?_
              refine tk 3 ?_
              refine tk 4 ?_
              refine tk 5 ?_
              refine tk 6 ?_
              refine tk 10 ?_
              refine tk 11 ?_
              refine wpAnyH_ready (rs := [7]) (by kernel_rfl) (by simp) ?_
              refine AllReadyH.cons rfl (fun K hK => ?_) AllReadyH.nil
              go_simp
              refine (HC.out _).mono ?_
              rintro e wA ⟨rfl, hbA'⟩
              have hbA : Below w7.heap.size w7 wA := (Below.refl _ _).drew.trans hbA'
              have HBA : Hid (Below w7.heap.size w7 wA) := hbA
              clear hbA hbA'
              go_wp2_with fail
              refine hK.out _ _ (HSA.out wA HBA.out) (fun hHeld2 => ?_)
              clear hK K
              refine tk 8 ?_
              refine tk 9 ?_
              refine wpAnyH_ready (rs := [12]) (by kernel_rfl) (by simp) ?_
              refine AllReadyH.cons rfl (fun K hK => ?_) AllReadyH.nil
              go_simp
              refine (HO.out _).mono ?_
              rintro e wB ⟨rfl, hbB'⟩
              have HBB : Hid (Below w7.heap.size w7 wB) := hidP (HBA.out.trans (hbB'.mono HBA.out.size))
              clear hbB'
              go_wp2_with fail
              refine hK.out _ _ (HSA.out wB HBB.out) (fun hHeld3 => ?_)
              clear hK K
              refine tk 13 ?_
              refine tk 14 ?_
              refine wpAnyH_done (by kernel_rfl) ?_ _
              clear hHeld hHeld2 hHeld3
              have HXB : Hid (XB wr wB x) := hidP (HX7.out.below HBB.out)
              obtain ⟨OS, hOS⟩ : ∃ OS, S ++ (tObj ++ (NM ++ (tSp ++ (showL CN ++ (tAtt ++ showL ON))))) = OS := ⟨_, rfl⟩
              rw [hOS]
              have bOS : ¬ 9223372036854775807 < List.length OS + List.length tSha ∧ ¬ 9223372036854775807 < List.length OS + List.length tSha + List.length tEnd ∧ ¬ 9223372036854775807 < List.length OS + List.length tEnd := by
                rw [← hOS]
                have z1 : List.length tObj = 7 := rfl
                have z2 : List.length tSp = 1 := rfl
                have z3 : List.length tAtt = 4 := rfl
                have z4 : List.length tSha = 7 := rfl
                have z7 : List.length tEnd = 2 := rfl
                simp only [List.length_append]
                omega
              obtain ⟨bo1, bo2, bo3⟩ := bOS
              have HOS : Hid (objB k x S = OS) := hidP (by rw [HOB.out, HNN.out, ← hOS]; simp only [List.append_assoc]; rfl)
              clear hOS n1 n2 n3 n4 n5 n6 n7 n8 m1 m2 m3 m4 m5 m6 m7
              clear LX y0 y1 y2 y3 y4 y5 y6 v0 v1 v2 v3 v4 v5 v6
              have LX := HXB.out.lt
              have y0 := HXB.out.c0
              have y1 := HXB.out.c1
              have y2 := HXB.out.c2
              have y3 := HXB.out.c3
              have y4 := HXB.out.c4
              have y5 := HXB.out.c5
              have y6 := HXB.out.c6
              have v0 := HXB.out.fz 0 (by omega)
              have v1 := HXB.out.fz 1 (by omega)
              have v2 := HXB.out.fz 2 (by omega)
              have v3 := HXB.out.fz 3 (by omega)
              have v4 := HXB.out.fz 4 (by omega)
              have v5 := HXB.out.fz 5 (by omega)
              have v6 := HXB.out.fz 6 (by omega)
              rw [hPN] at y0
              rw [hCN] at y1
              rw [hON] at y2
              obtain ⟨CB, hCB⟩ : ∃ CB, decide (k = 0 ∧ sh = true) = CB := ⟨_, rfl⟩
              have HCB : Hid (decide (k = 0 ∧ sh = true) = CB) := hCB
              clear hCB
              go_upto_region 17 with fail
              go_cut [66] (fun v wz => v = .bool CB ∧ wz = wB)
              case first =>
                by_cases hk0 : k = 0
                · have hkb : ((k : Int) == 0) = true := by simp [hk0]
                  have HEE : Hid (sh = CB) := hidP (by rw [← HCB.out]; cases sh <;> simp [hk0])
                  clear hk0
                  go_wp2_with fail
                  go_meet
                  case rel => exact ⟨by rw [← HEE.out], rfl⟩
                · have hkb : ((k : Int) == 0) = false := by simp; omega
                  have HEE : Hid (false = CB) := hidP (by rw [← HCB.out]; simp [hk0])
                  go_wp2_with fail
                  go_meet
                  case rel => exact ⟨by rw [← HEE.out], rfl⟩
              case rest =>
                obtain ⟨rfl, ew⟩ := hcut
                obtain rfl : wB = wc := ew.symm
                cases CB
                · have hh : ¬ (k = 0 ∧ sh = true) := of_decide_eq_false HCB.out
                  have H1 : Hid (objT sh k x S = OS ++ tEnd) := hidP (by rw [HOD2.out, if_neg hh, HOS.out]; rfl)
                  have H3 : Hid (prmA sh k x = x.perm) := hidP (by rw [HPD2.out, if_neg hh])
                  clear hh
                  go_wp2_with fail
                  go_meet
                  case rel => exact ⟨by rw [H1.out], by rw [H2.out], by rw [H3.out]; exact HXB.out⟩
                · have hh : k = 0 ∧ sh = true := of_decide_eq_true HCB.out
                  obtain ⟨R3, hR3⟩ : ∃ R3, R3 = (x.perm - 1) % 3 := ⟨_, rfl⟩
                  have W1 : IntKind.i64.wrap (x.perm - 1) = x.perm - 1 := by rw [IntKind.wrap_i64]; omega
                  have eR : (x.perm - 1).tmod 3 = R3 := by rw [Int.tmod_eq_emod_of_nonneg (by omega)]; exact hR3.symm
                  have W2 : IntKind.i64.wrap (R3 + 1) = R3 + 1 := by rw [IntKind.wrap_i64]; omega
                  have H1 : Hid (objT sh k x S = OS ++ (tSha ++ tEnd)) := hidP (by rw [HOD2.out, if_pos hh, HOS.out, List.append_assoc]; rfl)
                  have H3 : Hid (prmA sh k x = R3 + 1) := hidP (by rw [HPD2.out, if_pos hh, hR3])
                  clear hh hR3
                  go_wp2_with fail
                  go_meet
                  case rel => exact ⟨by rw [H1.out], by rw [H2.out], by rw [H3.out]; exact HXB.out.s3 _⟩
          case rest =>
            obtain ⟨rfl, rfl, hxc⟩ := hcut
            have HXC : Hid (XB wr wc ⟨x.page, x.count, x.out, prmA sh k x, x.huge, x.same, x.gone⟩) := hxc
            have bOT : (objT sh k x S).length ≤ 900000 := by have := objT_len (sh := sh) (k := k) S HAB.out; omega
            have bNA := nameA_len k x
            have bQ := ptxt_len QN (by have := prmA_b (sh := sh) (i := k) HAB.out; rw [HQN.out] at this; omega) (by have := prmA_b (sh := sh) (i := k) HAB.out; rw [HQN.out] at this; omega)
            have HRT : Hid (regT (nameA k x) (prmA sh k x).toNat x (objT sh k x S) = if x.gone = true then objT sh k x S else if x.huge = true then regB (nameA k x) (prmA sh k x).toNat x (objT sh k x S) ++ [32, 104, 117, 103, 101] ++ [59, 10] else regB (nameA k x) (prmA sh k x).toNat x (objT sh k x S) ++ [59, 10]) := hidP rfl
            clear hxc LX y0 y1 y2 y3 y4 y5 y6 v0 v1 v2 v3 v4 v5 v6 n1 n2 n3 n4 n5 n6 n7 n8 m1 m2 m3 m4 m5 m6 m7 nr3 nr4 nr5 nr6 nr7 nr8 mr3 mr4 mr5 mr6 mr7 HOD HND HPD HOB
            generalize objT sh k x S = OT at *
            generalize nameA k x = NA at *
            generalize regT NA (prmA sh k x).toNat x OT = RT at *
            have LX := HXC.out.lt
            have y0 := HXC.out.c0
            have y1 := HXC.out.c1
            have y2 := HXC.out.c2
            have y3 := HXC.out.c3
            have y4 := HXC.out.c4
            have y5 := HXC.out.c5
            have y6 := HXC.out.c6
            have v0 := HXC.out.fz 0 (by omega)
            have v1 := HXC.out.fz 1 (by omega)
            have v2 := HXC.out.fz 2 (by omega)
            have v3 := HXC.out.fz 3 (by omega)
            have v4 := HXC.out.fz 4 (by omega)
            have v5 := HXC.out.fz 5 (by omega)
            have v6 := HXC.out.fz 6 (by omega)
            dsimp only at y0 y1 y2 y3 y4 y5 y6
            rw [hPN] at y0
            rw [HQN.out] at y3
            have z1 : List.length tReg = 7 := rfl
            have z2 : List.length tSp = 1 := rfl
            have z6 : List.length tHuge = 5 := rfl
            have z7 : List.length tEnd = 2 := rfl
            have r1 : ¬ 9223372036854775807 < List.length OT + List.length tReg := by omega
            have r2 : ¬ 9223372036854775807 < List.length OT + List.length tReg + List.length (showL PN) := by omega
            have r3 : ¬ 9223372036854775807 < List.length OT + List.length tReg + List.length (showL PN) + List.length tSp := by omega
            have rr3 : ¬ 9223372036854775807 < List.length OT + (List.length tReg + List.length (showL PN)) + List.length tSp := by omega
            have r4 : ¬ 9223372036854775807 < List.length OT + List.length tReg + List.length (showL PN) + List.length tSp + List.length NA := by omega
            have rr4 : ¬ 9223372036854775807 < List.length OT + (List.length tReg + (List.length (showL PN) + List.length tSp)) + List.length NA := by omega
            have r5 : ¬ 9223372036854775807 < List.length OT + List.length tReg + List.length (showL PN) + List.length tSp + List.length NA + List.length tSp := by omega
            have rr5 : ¬ 9223372036854775807 < List.length OT + (List.length tReg + (List.length (showL PN) + (List.length tSp + List.length NA))) + List.length tSp := by omega
            have r6 : ¬ 9223372036854775807 < List.length OT + List.length tReg + List.length (showL PN) + List.length tSp + List.length NA + List.length tSp + List.length (ptxt QN) := by omega
            have rr6 : ¬ 9223372036854775807 < List.length OT + (List.length tReg + (List.length (showL PN) + (List.length tSp + (List.length NA + List.length tSp)))) + List.length (ptxt QN) := by omega
            clear z1 z2 z6 z7
            by_cases hgo : x.gone = true
            · have H1 : Hid (RT = OT) := hidP (by rw [HRT.out, if_pos hgo])
              have HBF : Hid (Below w.heap.size w wc) := hidP (HBR.out.trans (HXC.out.bel.mono HBR.out.size))
              go_wp2_with fail
              go_roundw
              case rel => exact ⟨k + 1, by omega, by rw [HTX.out, H1.out], by go_num, HBF.out⟩
              case measure => first | (simp [intOf]; done) | (simp [intOf]; omega)
            · have hgo2 : x.gone = false := by simpa using hgo
              have HR2 : Hid (RT = if x.huge = true then regB NA (prmA sh k x).toNat x OT ++ [32, 104, 117, 103, 101] ++ [59, 10] else regB NA (prmA sh k x).toNat x OT ++ [59, 10]) := hidP (by rw [HRT.out, if_neg hgo])
              have HSA : Hid (∀ wX, Below wc.heap.size wc wX → wX.cell? ⟨wr.heap.size, 0, none⟩ = some (.int .i64 (PN : Int)) ∧ wX.cell? ⟨wr.heap.size, 3, none⟩ = some (.int .i64 (QN : Int))) := hidP (fun wX hX => ⟨(hX.cell (p := ⟨wr.heap.size, 0, none⟩) LX).trans y0, (hX.cell (p := ⟨wr.heap.size, 3, none⟩) LX).trans y3⟩)
              clear hgo
              go_wp2_with fail
              refine wp_region_held_drew (S := fun wX => wX.cell? ⟨wr.heap.size, 0, none⟩ = some (.int .i64 (PN : Int)) ∧ wX.cell? ⟨wr.heap.size, 3, none⟩ = some (.int .i64 (QN : Int))) (by kernel_rfl) (HSA.out _ (Below.refl _ _).drew) (fun hHeld => ?_)
              refine tk 0 ?_
              refine tk 1 ?_
              refine tk 2 ?_
              refine tk 3 ?_
              refine tk 7 ?_
              refine tk 10 ?_
              refine tk 11 ?_
              refine wpAnyH_ready (rs := [4]) (by kernel_rfl) (by simp) ?_
              refine AllReadyH.cons rfl (fun K hK => ?_) AllReadyH.nil
              go_simp
              refine (HP.out _).mono ?_
              rintro e wA ⟨rfl, hbA'⟩
              have hbA : Below wc.heap.size wc wA := (Below.refl _ _).drew.trans hbA'
              have HBA : Hid (Below wc.heap.size wc wA) := hbA
              clear hbA hbA'
              go_wp2_with fail
              refine hK.out _ _ (HSA.out wA HBA.out) (fun hHeld2 => ?_)
              clear hK K
              refine tk 5 ?_
              refine tk 6 ?_
              refine tk 8 ?_
              refine tk 9 ?_
              refine wpAnyH_ready (rs := [12]) (by kernel_rfl) (by simp) ?_
              refine AllReadyH.cons rfl (fun K hK => ?_) AllReadyH.nil
              go_simp
              refine (HPQ.out _).mono ?_
              rintro e wB ⟨rfl, ewB⟩
              obtain rfl : wA = wB := ewB.symm
              go_wp2_with fail
              refine hK.out _ _ (HSA.out wA HBA.out) (fun hHeld3 => ?_)
              clear hK K
              refine tk 13 ?_
              refine tk 14 ?_
              refine wpAnyH_done (by kernel_rfl) ?_ _
              clear hHeld hHeld2 hHeld3
              have HXA : Hid (XB wr wA _) := hidP (HXC.out.below HBA.out)
              have HBF : Hid (Below w.heap.size w wA) := hidP (HBR.out.trans (HXA.out.bel.mono HBR.out.size))
              obtain ⟨OS, hOS⟩ : ∃ OS, OT ++ (tReg ++ (showL PN ++ (tSp ++ (NA ++ (tSp ++ ptxt QN))))) = OS := ⟨_, rfl⟩
              rw [hOS]
              have bOS : ¬ 9223372036854775807 < List.length OS + List.length tHuge ∧ ¬ 9223372036854775807 < List.length OS + List.length tHuge + List.length tEnd ∧ ¬ 9223372036854775807 < List.length OS + List.length tEnd := by
                rw [← hOS]
                have z1 : List.length tReg = 7 := rfl
                have z2 : List.length tSp = 1 := rfl
                have z4 : List.length tHuge = 5 := rfl
                have z7 : List.length tEnd = 2 := rfl
                simp only [List.length_append]
                omega
              obtain ⟨bo1, bo2, bo3⟩ := bOS
              have HOS : Hid (regB NA (prmA sh k x).toNat x OT = OS) := hidP (by rw [HRB.out, ← hOS]; simp only [List.append_assoc]; rfl)
              clear hOS LX y0 y1 y2 y3 y4 y5 y6 v0 v1 v2 v3 v4 v5 v6
              have LX := HXA.out.lt
              have y4 := HXA.out.c4
              dsimp only at y4
              by_cases hhu : x.huge = true
              · have H1 : Hid (RT = OS ++ (tHuge ++ tEnd)) := hidP (by rw [HR2.out, if_pos hhu, HOS.out, List.append_assoc]; rfl)
                go_wp2_with fail
                go_roundw
                case rel => exact ⟨k + 1, by omega, by rw [HTX.out, H1.out], by go_num, HBF.out⟩
                case measure => first | (simp [intOf]; done) | (simp [intOf]; omega)
              · have hhu2 : x.huge = false := by simpa using hhu
                have H1 : Hid (RT = OS ++ tEnd) := hidP (by rw [HR2.out, if_neg hhu, HOS.out]; rfl)
                clear hhu
                go_wp2_with fail
                go_roundw
                case rel => exact ⟨k + 1, by omega, by rw [HTX.out, H1.out], by go_num, HBF.out⟩
                case measure => first | (simp [intOf]; done) | (simp [intOf]; omega)
        · obtain rfl : k = xs.length := by omega
          have HF : Hid (R = txTo xs sh xs.length) := HSH
          have HBF : Hid (Below w.heap.size w wr) := hbr
          clear hbr
          go_wp2_with fail
          rw [HF.out]
          exact bodyPost_ret (v := .string (bs (txTo xs sh xs.length))) (by simp [results, Try.results116, go_sem]) rfl ⟨rfl, HBF.out⟩
end Go.Proofs.Ytnmhkgmmpkjjeaa
