import Derived.Test.YtnmhkgmmpkjjeaaG06
import Derived.Test.YtnmhkgmmpkjjeaaG13
import Derived.BigQuiet
import Derived.Outline
import Derived.Deep.DeepCutAuto
import Derived.Test.YtnmhkgmmpkjjeaaG02
import Derived.Test.YtnmhkgmmpkjjeaaG14
namespace Go.Proofs.Ytnmhkgmmpkjjeaa
open Go.ChangeShapes Go.WideShapes Go.ChangeAt Go.RowKit
set_option linter.unusedVariables false
set_option maxRecDepth 100000
attribute [local go_sem ↓] Go.wp_at_zero Go.wp_at_succ
attribute [local go_sem] bs_size bs_cAt bs_app bs_mk bs_cut bs_list

/-! What the statements say of a page. -/
def inR (all : List St) (page : Int) (s : St) : Bool := s.kind == 2 && (decide (s.a ≤ page) && decide (page < s.a + (objOf all s.name).a))
def noSpan : SpanE := ⟨0, 0, 0, 0, false⟩
def pieceOf (all : List St) (page : Int) (s : St) : SpanE := ⟨page, 1, (objOf all s.name).b + page - s.a, s.perm, s.extra⟩
def pieceL (all : List St) (page : Int) : SpanE := match all.find? (inR all page) with
  | some s => pieceOf all page s
  | none => noSpan
def spanV (s : SpanE) : Value := .agg #[.int .i64 s.page, .int .i64 s.count, .int .i64 s.out, .int .i64 s.perm, .bool s.huge]
theorem piece_hit {all xs : List St} {page : Int} : ∀ {xs : List St} (k : Nat), k < xs.length → (∀ j, j < k → inR all page (stAt xs j) = false) → inR all page (stAt xs k) = true → xs.find? (inR all page) = some (stAt xs k)
  | [], k, hk, _, _ => absurd hk (by simp)
  | x :: r, 0, _, _, h => by
    have h' : inR all page x = true := h
    rw [List.find?_cons_of_pos (by exact h')]
    rfl
  | x :: r, k + 1, hk, hn, h => by
    have h0 : inR all page x = false := hn 0 (by omega)
    rw [List.find?_cons_of_neg (by rw [h0]; decide)]
    exact piece_hit (xs := r) k (by simpa using hk) (fun j hj => hn (j + 1) (by omega)) h
theorem piece_none {all : List St} {page : Int} {xs : List St} (h : ∀ j, j < xs.length → inR all page (stAt xs j) = false) : xs.find? (inR all page) = none := by
  rw [List.find?_eq_none]
  intro x hx
  obtain ⟨i, hi, rfl⟩ := List.getElem_of_mem hx
  have := h i hi
  unfold stAt at this
  rw [List.getD_eq_getElem?_getD, List.getElem?_eq_getElem hi] at this
  have h2 : inR all page xs[i] = false := this
  rw [h2]; decide

set_option maxHeartbeats 4000000 in
theorem l4Piece_any (a : Option Addr) (c : Nat) (all : List St) (page : Int) (w : World) (hle : all.length ≤ 1000) (hok : ∀ s ∈ all, StOk s) (hp0 : 0 ≤ page) (hp1 : page < 4096) (hr : StR w a all) :
    Calls Try.prog 124 #[.slice a all.length c, .int .i64 page] w fun e w' => e = .returned (spanV (pieceL all page)) ∧ Below w.heap.size w w' := by
  obtain ⟨wb, hwb⟩ : ∃ wb, wb = w.alloc (.cells #[.int .i64 0, .int .i64 0, .int .i64 0, .int .i64 0, .bool false] 125) := ⟨_, rfl⟩
  have hbb : Below w.heap.size w wb := by rw [hwb]; exact bal
  have hzb : w.heap.size < wb.heap.size := by rw [hwb]; simp
  have HQ : Hid (∀ wX, Below wb.heap.size wb wX → (wX.cell? ⟨w.heap.size, 0, none⟩ = some (.int .i64 0) ∧ wX.cell? ⟨w.heap.size, 1, none⟩ = some (.int .i64 0) ∧ wX.cell? ⟨w.heap.size, 2, none⟩ = some (.int .i64 0) ∧ wX.cell? ⟨w.heap.size, 3, none⟩ = some (.int .i64 0) ∧ wX.cell? ⟨w.heap.size, 4, none⟩ = some (.bool false)) ∧ (wX.frozen? ⟨w.heap.size, 0, none⟩ = false ∧ wX.frozen? ⟨w.heap.size, 1, none⟩ = false ∧ wX.frozen? ⟨w.heap.size, 2, none⟩ = false ∧ wX.frozen? ⟨w.heap.size, 3, none⟩ = false ∧ wX.frozen? ⟨w.heap.size, 4, none⟩ = false)) := hidP fun wX hX => by
    refine ⟨⟨?_, ?_, ?_, ?_, ?_⟩, ⟨?_, ?_, ?_, ?_, ?_⟩⟩
    iterate 5 (exact (hX.cell (by simpa using hzb)).trans (by rw [hwb]; simp [go_sem]))
    iterate 5 (exact (hX.frozen (by simpa using hzb)).trans (by rw [hwb]; simp [go_sem]))
  have HR : Hid (∀ wX, Below wb.heap.size wb wX → StR wX a all) := hidP fun wX hX => hr.below (hbb.trans (hX.mono (by omega)))
  have HO : Hid (∀ n wX, Below wb.heap.size wb wX → Calls Try.prog 121 #[.slice a all.length c, .string (bs n)] wX fun e w' => e = .returned (stV (objOf all n)) ∧ Below wX.heap.size wX w') := hidP fun n wX hX => l4Object_any a c all n wX hle (HR.out wX hX)
  have HOK : Hid (∀ s ∈ all, StOk s) := hok
  have HGW : Hid (∀ g, a = some ⟨g, 0, none⟩ → 0 < all.length → g < w.heap.size) := hidP fun g e h0 => by
    obtain ⟨g', e', hc⟩ := hr h0
    rw [e] at e'
    simp only [Option.some.injEq, Addr.mk.injEq, and_true] at e'
    rw [e']
    exact (hc 0 h0).lt
  have HBB : Hid (Below w.heap.size w wb) := hbb
  have HWB : Hid (wb = _) := hwb
  have HB0 : Hid (Below wb.heap.size wb (w.alloc (.cells #[.int .i64 0, .int .i64 0, .int .i64 0, .int .i64 0, .bool false] 125))) := hidP (by rw [← hwb]; exact Below.refl _ _)
  clear hwb hbb hr hok
  unfold spanV
  go_enter Try.func124, Try.ntmps124
  go_wp2_with fail
  go_loopw [5] (fun iv wr => ∃ k : Nat, k ≤ all.length ∧ iv = .int .i64 (k : Int) ∧ Hid (∀ j, j < k → inR all page (stAt all j) = false) ∧ Below wb.heap.size wb wr) (fun iv _ => all.length - (intOf iv).toNat)
  case atStart => exact ⟨0, Nat.zero_le _, rfl, hidP fun j hj => absurd hj (by omega), HB0.out⟩
  case round =>
    obtain ⟨k, hk, rfl, HJ, hb⟩ := hrel
    have sr := hb.size
    by_cases hlt : k < all.length
    · obtain ⟨g, rfl, hcs⟩ := HR.out wr hb (by omega)
      have hst := hcs k hlt
      have hbk := HOK.out (stAt all k) (by
        unfold stAt
        rw [List.getD_eq_getElem?_getD, List.getElem?_eq_getElem hlt]
        exact List.getElem_mem hlt)
      have hob := objOf_ok HOK.out (stAt all k).name
      have ho := HO.out (stAt all k).name wr hb
      have HPC : Hid (inR all page (stAt all k) = true → pieceL all page = pieceOf all page (stAt all k)) := hidP fun h => by
        unfold pieceL
        rw [piece_hit (all := all) (xs := all) k hlt HJ.out h]
      have HIN : Hid (inR all page (stAt all k) = ((stAt all k).kind == 2 && (decide ((stAt all k).a ≤ page) && decide (page < (stAt all k).a + (objOf all (stAt all k).name).a)))) := hidP rfl
      have HNX : Hid (inR all page (stAt all k) = false → ∀ j, j < k + 1 → inR all page (stAt all j) = false) := hidP fun h j hj => by
        by_cases e : j = k
        · rw [e]; exact h
        · exact HJ.out j (by omega)
      unfold pieceOf at HPC
      generalize inR all page (stAt all k) = IN at *
      generalize objOf all (stAt all k).name = OB at *
      generalize stAt all k = SS at *
      obtain ⟨SK, SN, A, B, P, X⟩ := SS
      obtain ⟨OK, ON, OA, OB, OP, OX⟩ := OB
      obtain ⟨hgl, c0, c1, c2, c3, c4, c5⟩ := hst
      obtain ⟨a1, a2, a3, a4, a5, a6⟩ := hbk
      obtain ⟨d1, d2, d3, d4, d5, d6⟩ := hob
      unfold stV at ho
      dsimp only at *
      have K1 : (0 : Int) ≤ (k : Int) := by omega
      have K2 : (k : Int) < (all.length : Int) := by omega
      have HB : Hid (Below _ wb wr) := hb
      clear hb hcs
      by_cases h2 : SK = 2
      · subst h2
        go_wp2_with fail
        refine ho.mono ?_
        rintro e w1 ⟨rfl, hb1'⟩
        have hb1 : Below wb.heap.size wb w1 := HB.out.trans (hb1'.mono sr)
        have s1 := hb1.size
        obtain ⟨wo, hwo⟩ : ∃ wo, wo = w1.alloc (.cells #[.int .i64 OK, .string (bs ON), .int .i64 OA, .int .i64 OB, .int .i64 OP, .bool OX] 112) := ⟨_, rfl⟩
        have hbo : Below wb.heap.size wb wo := by rw [hwo]; exact hb1.alloc s1 _
        have zo : w1.heap.size < wo.heap.size := by rw [hwo]; simp
        have hbro : Below wr.heap.size wr wo := by rw [hwo]; exact hb1'.alloc hb1'.size _
        have HKK : Hid (∀ wX, Below wo.heap.size wo wX → wX.cell? ⟨g, k * 6 + 2, none⟩ = some (.int .i64 A) ∧ wX.cell? ⟨g, k * 6 + 4, none⟩ = some (.int .i64 P) ∧ wX.cell? ⟨g, k * 6 + 5, none⟩ = some (.bool X) ∧ wX.cell? ⟨w1.heap.size, 2, none⟩ = some (.int .i64 OA) ∧ wX.cell? ⟨w1.heap.size, 3, none⟩ = some (.int .i64 OB)) := hidP fun wX hX => by
          have hbx : Below wr.heap.size wr wX := hbro.trans (hX.mono hbro.size)
          refine ⟨(hbx.cell hgl).trans c2, (hbx.cell hgl).trans c4, (hbx.cell hgl).trans c5, ?_, ?_⟩
          iterate 2 (exact (hX.cell (by simpa using zo)).trans (by rw [hwo]; simp [go_sem]))
        have HBO : Hid (Below _ wb wo) := hbo
        have HWO : Hid (wo = _) := hwo
        have gz : g < wo.heap.size := by have := hbro.size; omega
        obtain ⟨k2, k4, k5, o2, o3⟩ := HKK.out wo (Below.refl _ _)
        have gw := HGW.out g rfl (by omega)
        have ng1 : g ≠ w.heap.size := by omega
        have ng2 : w.heap.size ≠ g := by omega
        have ng3 : w1.heap.size ≠ w.heap.size := by omega
        have ng4 : w.heap.size ≠ w1.heap.size := by omega
        obtain ⟨⟨q0, q1, q2, q3, q4⟩, ⟨f0, f1, f2, f3, f4⟩⟩ := HQ.out wo hbo
        clear hb1' hb1 hbo hwo hbro ho c0 c1 c2 c3 c4 c5
        go_upto_region 6 with fail
        rw [← HWO.out]
        by_cases hlo : A ≤ page
        · have hlob : decide (A ≤ page) = true := by simpa using hlo
          by_cases hhi : page < A + OA
          · have hhib : decide (page < A + OA) = true := by simpa using hhi
            have W1 : IntKind.i64.wrap (OB + page) = OB + page := by rw [IntKind.wrap_i64]; omega
            have W2 : IntKind.i64.wrap (OB + page - A) = OB + page - A := by rw [IntKind.wrap_i64]; omega
            have HV : Hid (pieceL all page = ⟨page, 1, OB + page - A, P, X⟩) := hidP (HPC.out (by rw [HIN.out]; simp [hlo, hhi]))
            go_quiet (fail)
            go_wp2_with fail
            refine wp_region_held_drew (S := (fun wX => wX.cell? ⟨g, k * 6 + 2, none⟩ = some (.int .i64 A) ∧ wX.cell? ⟨g, k * 6 + 4, none⟩ = some (.int .i64 P) ∧ wX.cell? ⟨g, k * 6 + 5, none⟩ = some (.bool X) ∧ wX.cell? ⟨w1.heap.size, 2, none⟩ = some (.int .i64 OA) ∧ wX.cell? ⟨w1.heap.size, 3, none⟩ = some (.int .i64 OB))) (by kernel_rfl) (HKK.out _ (bDrewN (Below.refl _ _) _).drew) (fun hHeld => ?_)
            refine tk 0 ?_
            refine tk 1 ?_
            refine tk 2 ?_
            refine tk 3 ?_
            refine tk 4 ?_
            refine tk 5 ?_
            refine tk 6 ?_
            refine tk 7 ?_
            refine tk 8 ?_
            refine tk 9 ?_
            refine tk 10 ?_
            refine tk 11 ?_
            refine tk 12 ?_
            refine tk 13 ?_
            refine tk 14 ?_
            refine tk 15 ?_
            refine tk 16 ?_
            refine tk 17 ?_
            refine tk 18 ?_
            refine tk 19 ?_
            refine tk 20 ?_
            refine tk 21 ?_
            refine wpAnyH_ready (rs := [22]) (by kernel_rfl) (by simp) ?_
            refine AllReadyH.cons rfl (fun K hK => ?_) AllReadyH.nil
            go_simp
            refine hK.out _ _ (by refine ⟨?_, ?_, ?_, ?_, ?_⟩ <;> simp [go_sem, k2, k4, k5, o2, o3]) (fun hHeld2 => ?_)
            clear hK K
            refine wpAnyH_done (by kernel_rfl) ?_ _
            go_wp2_with fail
            rw [HV.out]
            refine bodyPost_ret (v := .agg #[.int .i64 page, .int .i64 1, .int .i64 (OB + page - A), .int .i64 P, .bool X]) (by simp [results, Try.results124, go_sem, q0, q1, q2, q3, q4]) rfl ⟨rfl, ?_⟩
            exact HBB.out.trans (((((((bDrewN HBO.out _).drew.mono (by omega)).setCell (by simp <;> omega) _).setCell (by simp <;> omega) _).setCell (by simp <;> omega) _).setCell (by simp <;> omega) _).setCell (by simp <;> omega) _)
          · have hhib : decide (page < A + OA) = false := by simpa using hhi
            have HZ : Hid _ := hidP (HNX.out (by rw [HIN.out]; simp [hhi]))
            go_quiet (fail)
            go_wp2_with fail
            go_roundw
            case rel => exact ⟨k + 1, by omega, by go_num, HZ, bDrewN HBO.out _⟩
            case measure => first | (simp [intOf]; done) | (simp [intOf]; omega)
        · have hlob : decide (A ≤ page) = false := by simpa using hlo
          have HZ : Hid _ := hidP (HNX.out (by rw [HIN.out]; simp [hlo]))
          go_quiet (fail)
          go_wp2_with fail
          go_roundw
          case rel => exact ⟨k + 1, by omega, by go_num, HZ, bDrewN HBO.out _⟩
          case measure => first | (simp [intOf]; done) | (simp [intOf]; omega)
      · have h2b : (SK == 2) = false := by simpa using h2
        have HZ : Hid _ := hidP (HNX.out (by rw [HIN.out, h2b]; rfl))
        go_wp2_with fail
        go_roundw
        case rel => exact ⟨k + 1, by omega, by go_num, HZ, HB.out⟩
        case measure => first | (simp [intOf]; done) | (simp [intOf]; omega)
    · have HV : Hid (pieceL all page = noSpan) := hidP (by
        unfold pieceL
        rw [piece_none (fun j hj => HJ.out j (by omega))])
      have K2 : ¬ (k : Int) < (all.length : Int) := by omega
      have HB : Hid (Below _ wb wr) := hb
      obtain ⟨⟨q0, q1, q2, q3, q4⟩, ⟨f0, f1, f2, f3, f4⟩⟩ := HQ.out wr hb
      clear hb
      go_wp2_with fail
      rw [HV.out]
      refine bodyPost_ret (v := .agg #[.int .i64 0, .int .i64 0, .int .i64 0, .int .i64 0, .bool false]) (by simp [results, Try.results124, go_sem, q0, q1, q2, q3, q4]) rfl ⟨rfl, ?_⟩
      exact HBB.out.trans ((((((HB.out.mono (by omega)).setCell (by simp <;> omega) _).setCell (by simp <;> omega) _).setCell (by simp <;> omega) _).setCell (by simp <;> omega) _).setCell (by simp <;> omega) _)
end Go.Proofs.Ytnmhkgmmpkjjeaa
namespace Go.Proofs.Ytnmhkgmmpkjjeaa
open Go.ChangeShapes Go.WideShapes Go.ChangeAt Go.RowKit
set_option linter.unusedVariables false
set_option maxRecDepth 100000
attribute [local go_sem ↓] Go.wp_at_zero Go.wp_at_succ

/-! The pages joined to spans. -/
def lastS (out : List SpanE) : SpanE := eAt eSpan out (out.length - 1)
def more (l : SpanE) : SpanE := ⟨l.page, l.count + 1, l.out, l.perm, l.huge⟩
def spanStep (out : List SpanE) (s : SpanE) : List SpanE :=
  if s.count = 1 then (if 0 < out.length ∧ joinsB (lastS out) s = true then out.set (out.length - 1) (more (lastS out)) else out ++ [s]) else out
def spansTo (all : List St) : Nat → List SpanE
  | 0 => []
  | k + 1 => spanStep (spansTo all k) (pieceL all (k : Nat))
def SpW (k : Nat) (e : SpanE) : Prop := 0 ≤ e.page ∧ e.page ≤ 4096 ∧ 0 ≤ e.count ∧ e.count ≤ k ∧ -2000000 ≤ e.out ∧ e.out ≤ 2000000
theorem piece_w {all : List St} (hok : ∀ s ∈ all, StOk s) (p : Nat) (hp : p < 4096) (k : Nat) (hk : 1 ≤ k) : SpW k (pieceL all (p : Nat)) := by
  unfold pieceL
  cases hf : all.find? (inR all (p : Nat)) with
  | none =>
    show SpW k noSpan
    unfold SpW noSpan
    dsimp only
    omega
  | some s =>
    have hm := hok s (List.mem_of_find?_eq_some hf)
    have ho := objOf_ok hok s.name
    have a0 := hm.a0; have a1 := hm.a1; have b0 := ho.b0; have b1 := ho.b1
    refine ⟨?_, ?_, ?_, ?_, ?_, ?_⟩ <;> show _ ≤ _ <;> unfold pieceOf <;> dsimp only <;> omega
theorem spans_w {all : List St} (hok : ∀ s ∈ all, StOk s) : ∀ k, k ≤ 4096 → (spansTo all k).length ≤ k ∧ ∀ e ∈ spansTo all k, SpW k e
  | 0, _ => ⟨Nat.le_refl _, fun e h => by cases h⟩
  | k + 1, hk => by
    obtain ⟨h1, h2⟩ := spans_w hok k (by omega)
    have up : ∀ e, SpW k e → SpW (k + 1) e := fun e ⟨a, b, c, d, x, y⟩ => ⟨a, b, c, by omega, x, y⟩
    have hpw := piece_w hok k (by omega) (k + 1) (by omega)
    show (spanStep (spansTo all k) (pieceL all (k : Nat))).length ≤ k + 1 ∧ ∀ e ∈ spanStep (spansTo all k) (pieceL all (k : Nat)), SpW (k + 1) e
    unfold spanStep
    split
    · split
      · rename_i hj
        refine ⟨by rw [List.length_set]; omega, fun e he => ?_⟩
        rcases List.mem_or_eq_of_mem_set he with he | he
        · exact up e (h2 e he)
        · have hl : lastS (spansTo all k) ∈ spansTo all k := by
            unfold lastS eAt
            rw [List.getD_eq_getElem?_getD, List.getElem?_eq_getElem (by omega)]
            exact List.getElem_mem _
          obtain ⟨a, b, c, d, x, y⟩ := h2 _ hl
          rw [he]
          unfold more
          exact ⟨a, b, by show 0 ≤ _ + 1; omega, by show _ + 1 ≤ ((k + 1 : Nat) : Int); omega, x, y⟩
      · refine ⟨by simp; omega, fun e he => ?_⟩
        rcases List.mem_append.1 he with he | he
        · exact up e (h2 e he)
        · rw [List.mem_singleton] at he
          rw [he]; exact hpw
    · exact ⟨by omega, fun e he => up e (h2 e he)⟩
theorem eat_set {xs : List SpanE} {m i : Nat} {x : SpanE} (hi : i < xs.length) : eAt eSpan (xs.set m x) i = if i = m then x else eAt eSpan xs i := by
  unfold eAt
  rw [List.getD_eq_getElem?_getD, List.getD_eq_getElem?_getD, List.getElem?_set]
  by_cases e : m = i
  · subst e; simp [hi]
  · simp [e, Ne.symm e]
/-- A span of a row is written over. -/
theorem erow_span_set {w : World} {b g c m : Nat} {xs : List SpanE} {P C O R : Int} {G : Bool} (h : ERow eSpan w b (.slice (some ⟨g, 0, none⟩) xs.length c) xs) (hm : m < xs.length) :
    ERow eSpan (((((w.setCell ⟨g, m * 5, none⟩ (.int .i64 P)).setCell ⟨g, m * 5 + 1, none⟩ (.int .i64 C)).setCell ⟨g, m * 5 + 2, none⟩ (.int .i64 O)).setCell ⟨g, m * 5 + 3, none⟩ (.int .i64 R)).setCell ⟨g, m * 5 + 4, none⟩ (.bool G)) b (.slice (some ⟨g, 0, none⟩) xs.length c) (xs.set m ⟨P, C, O, R, G⟩) := by
  rcases h.2 with ⟨e, h0⟩ | ⟨g', cap, cur, e, hb, hg, hn, hmx, hs, ht⟩
  · cases e
  · simp only [Value.slice.injEq, Option.some.injEq, Addr.mk.injEq, and_true, true_and] at e
    obtain ⟨rfl, rfl⟩ := e
    have hr : w.rowIs g 125 cur.size (fun i => cur.getD i (.bool false)) := ⟨cur, hg, rfl, fun i hi => by simp [hi]⟩
    have hs' : cur.size = c * eSpan.sz := hs
    refine ERow.of_row (cap := c) (by simp) hb (((((hr.set (m * 5) _).set (m * 5 + 1) _).set (m * 5 + 2) _).set (m * 5 + 3) _).set (m * 5 + 4) _) hs' (by simpa using hn) hmx ?_
    intro i hi j hj
    have hj5 : j < 5 := hj
    have e5 : i * eSpan.sz + j = i * 5 + j := rfl
    rw [e5]
    have hold : cur.getD (i * 5 + j) (.bool false) = eCell eSpan xs i j := by
      have hu := ecells_at eSpan xs i (by simpa using hi) j hj
      rw [← ht, List.getElem?_take, if_pos (cell_lt (by simpa using hi) hj)] at hu
      simp only [Array.getElem?_toList] at hu
      have e6 : i * eSpan.sz + j = i * 5 + j := rfl
      rw [e6] at hu
      simp [Array.getD_eq_getD_getElem?, hu, eCell]
    by_cases e : i = m
    · subst e
      unfold eCell
      rw [eat_set (by simpa using hi), if_pos rfl]
      rcases (show j = 0 ∨ j = 1 ∨ j = 2 ∨ j = 3 ∨ j = 4 by omega) with rfl | rfl | rfl | rfl | rfl <;> simp [eSpan]
    · have hne : ∀ q, q < 5 → i * 5 + j ≠ m * 5 + q := fun q hq => by omega
      have n0 := hne 0 (by omega); have n1 := hne 1 (by omega); have n2 := hne 2 (by omega); have n3 := hne 3 (by omega); have n4 := hne 4 (by omega)
      rw [Nat.add_zero] at n0
      simp only [n0, n1, n2, n3, n4, if_false]
      rw [hold]
      unfold eCell
      rw [eat_set (by simpa using hi), if_neg e]
end Go.Proofs.Ytnmhkgmmpkjjeaa
