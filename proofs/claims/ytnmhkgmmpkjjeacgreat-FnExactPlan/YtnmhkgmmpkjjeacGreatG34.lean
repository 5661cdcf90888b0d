import Derived.Test.YtnmhkgmmpkjjeacGreatG33
import Derived.Test.YtnmhkgmmpkjjeacGreatG30
namespace Go.Proofs.YtnmhkgmmpkjjeacGreat
open Go.ChangeShapes Go.WideShapes Go.ChangeAt Go.RowKit
set_option linter.unusedVariables false
set_option maxRecDepth 100000
attribute [local go_sem ↓] Go.wp_at_zero Go.wp_at_succ

set_option maxHeartbeats 2000000 in
theorem brkVis_any (PB P B c : Nat) (a : Option Addr) (l : List OpE) (zs : List Int) (H : Nat → Ht) (all : List P3) (lv pg ad : Int) (w : World) (hn : l.length ≤ 900000) (hz : 0 ≤ wOf zs ad ∧ wOf zs ad < 18446744073709551616) (hpb : w.cell? ⟨PB, 0, none⟩ = some (putV P)) (hpl : PB < w.heap.size) (h : OpsAt w P B a c l) :
    Calls Tryz.prog 98 #[enV5 zs H all lv pg ad, .pointer (some ⟨PB, 0, none⟩)] w (PutP P B a (l ++ (if brk zs H all ⟨lv, pg, ad⟩ then [⟨1, ad, 0, 0⟩] else [])) w) := by
  have hbr := fun wX => broken_any zs H all lv pg ad wX hz
  obtain ⟨bb, hbb⟩ : ∃ bb, brk zs H all ⟨lv, pg, ad⟩ = bb := ⟨_, rfl⟩
  rw [hbb] at hbr ⊢
  unfold enV5 at hbr ⊢
  generalize wOf zs ad = Z at *
  generalize rgt H all lv pg = R at *
  obtain ⟨wb, hwb⟩ : ∃ wb, wb = w.alloc (.cells #[.int .i64 lv, .int .i64 pg, .int .i64 ad, .int .u64 Z, .int .u64 R] 163) := ⟨_, rfl⟩
  have hb0 : Below w.heap.size w wb := by rw [hwb]; exact bal
  have q2 : wb.cell? ⟨w.heap.size, 2, none⟩ = some (.int .i64 ad) := by rw [hwb]; simp [go_sem]
  have q4 : wb.cell? ⟨w.heap.size, 4, none⟩ = some (.int .u64 R) := by rw [hwb]; simp [go_sem]
  have N0 : w.heap.size < wb.heap.size := by rw [hwb]; simp
  have HB0 : Hid (Below w.heap.size w wb) := hb0
  have HWB : Hid (wb = _) := hwb
  have HH : Hid (OpsAt w P B a c l) := h
  have HPB : Hid (w.cell? ⟨PB, 0, none⟩ = some (putV P)) := hpb
  clear hwb hb0 h hpb hz hbb
  cases bb
  · rw [if_neg (by decide), List.append_nil]
    go_enter Tryz.func98, Tryz.ntmps98
    go_wp2_with fail
    rw [← HWB.out]
    refine (hbr _).mono ?_
    rintro e w1 ⟨rfl, hb1⟩
    clear hbr
    go_wp2_with fail
    refine bodyPost_end (v := .tuple #[]) (by simp [results, Tryz.results98, go_sem]) rfl ?_
    exact PutP.same HH.out (HB0.out.trans (hb1.mono HB0.out.size))
  · rw [if_pos rfl]
    go_enter Tryz.func98, Tryz.ntmps98
    go_wp2_with fail
    rw [← HWB.out]
    refine (hbr _).mono ?_
    rintro e w1 ⟨rfl, hb1⟩
    have hb01 := HB0.out.trans (hb1.mono HB0.out.size)
    have hput := put_any P B c a l ⟨1, ad, 0, 0⟩ w1 (by omega) (HH.out.below hb01)
    have p1 : w1.cell? ⟨PB, 0, none⟩ = some (.func (.func 75) #[] #[.pointer (some ⟨P, 0, none⟩)]) := (hb01.cell (p := ⟨PB, 0, none⟩) hpl).trans HPB.out
    have r2 : w1.cell? ⟨w.heap.size, 2, none⟩ = some (.int .i64 ad) := (hb1.cell (p := ⟨w.heap.size, 2, none⟩) N0).trans q2
    have r4 : w1.cell? ⟨w.heap.size, 4, none⟩ = some (.int .u64 R) := (hb1.cell (p := ⟨w.heap.size, 4, none⟩) N0).trans q4
    have HB01 : Hid (Below w.heap.size w w1) := hb01
    clear hbr hb1 hb01
    dsimp only at hput
    go_wp2_with fail
    refine hput.mono ?_
    rintro e w2 hp
    obtain ⟨rfl, hp2⟩ := PutP.pre (c := c) (l := l) HB01.out hp
    clear hput hp
    go_wp2_with fail
    refine bodyPost_end (v := .tuple #[]) (by simp [results, Tryz.results98, go_sem]) rfl ?_
    exact ⟨rfl, hp2⟩
set_option maxHeartbeats 2000000 in
theorem lnkVis_any (PB P B c : Nat) (a : Option Addr) (l : List OpE) (zs : List Int) (H : Nat → Ht) (all : List P3) (lv pg ad : Int) (w : World) (hn : l.length ≤ 900000) (hz : 0 ≤ wOf zs ad ∧ wOf zs ad < 18446744073709551616) (hpb : w.cell? ⟨PB, 0, none⟩ = some (putV P)) (hpl : PB < w.heap.size) (h : OpsAt w P B a c l) :
    Calls Tryz.prog 108 #[enV5 zs H all lv pg ad, .pointer (some ⟨PB, 0, none⟩)] w (PutP P B a (l ++ (if lnk zs H all ⟨lv, pg, ad⟩ then [⟨1, ad, 0, rgt H all lv pg⟩] else [])) w) := by
  have hbr := fun wX => linked_any zs H all lv pg ad wX
  obtain ⟨bb, hbb⟩ : ∃ bb, lnk zs H all ⟨lv, pg, ad⟩ = bb := ⟨_, rfl⟩
  rw [hbb] at hbr ⊢
  unfold enV5 at hbr ⊢
  generalize wOf zs ad = Z at *
  generalize rgt H all lv pg = R at *
  obtain ⟨wb, hwb⟩ : ∃ wb, wb = w.alloc (.cells #[.int .i64 lv, .int .i64 pg, .int .i64 ad, .int .u64 Z, .int .u64 R] 163) := ⟨_, rfl⟩
  have hb0 : Below w.heap.size w wb := by rw [hwb]; exact bal
  have q2 : wb.cell? ⟨w.heap.size, 2, none⟩ = some (.int .i64 ad) := by rw [hwb]; simp [go_sem]
  have q4 : wb.cell? ⟨w.heap.size, 4, none⟩ = some (.int .u64 R) := by rw [hwb]; simp [go_sem]
  have N0 : w.heap.size < wb.heap.size := by rw [hwb]; simp
  have HB0 : Hid (Below w.heap.size w wb) := hb0
  have HWB : Hid (wb = _) := hwb
  have HH : Hid (OpsAt w P B a c l) := h
  have HPB : Hid (w.cell? ⟨PB, 0, none⟩ = some (putV P)) := hpb
  clear hwb hb0 h hpb hz hbb
  cases bb
  · rw [if_neg (by decide), List.append_nil]
    go_enter Tryz.func108, Tryz.ntmps108
    go_wp2_with fail
    rw [← HWB.out]
    refine (hbr _).mono ?_
    rintro e w1 ⟨rfl, hb1⟩
    clear hbr
    go_wp2_with fail
    refine bodyPost_end (v := .tuple #[]) (by simp [results, Tryz.results108, go_sem]) rfl ?_
    exact PutP.same HH.out (HB0.out.trans (hb1.mono HB0.out.size))
  · rw [if_pos rfl]
    go_enter Tryz.func108, Tryz.ntmps108
    go_wp2_with fail
    rw [← HWB.out]
    refine (hbr _).mono ?_
    rintro e w1 ⟨rfl, hb1⟩
    have hb01 := HB0.out.trans (hb1.mono HB0.out.size)
    have hput := put_any P B c a l ⟨1, ad, 0, R⟩ w1 (by omega) (HH.out.below hb01)
    have p1 : w1.cell? ⟨PB, 0, none⟩ = some (.func (.func 75) #[] #[.pointer (some ⟨P, 0, none⟩)]) := (hb01.cell (p := ⟨PB, 0, none⟩) hpl).trans HPB.out
    have r2 : w1.cell? ⟨w.heap.size, 2, none⟩ = some (.int .i64 ad) := (hb1.cell (p := ⟨w.heap.size, 2, none⟩) N0).trans q2
    have r4 : w1.cell? ⟨w.heap.size, 4, none⟩ = some (.int .u64 R) := (hb1.cell (p := ⟨w.heap.size, 4, none⟩) N0).trans q4
    have HB01 : Hid (Below w.heap.size w w1) := hb01
    clear hbr hb1 hb01
    dsimp only at hput
    go_wp2_with fail
    refine hput.mono ?_
    rintro e w2 hp
    obtain ⟨rfl, hp2⟩ := PutP.pre (c := c) (l := l) HB01.out hp
    clear hput hp
    go_wp2_with fail
    refine bodyPost_end (v := .tuple #[]) (by simp [results, Tryz.results108, go_sem]) rfl ?_
    exact ⟨rfl, hp2⟩
theorem nums_add (p : Nat → Bool) (n v : Nat) (hv : v < n) : addL (numsL p n) (v : Int) = numsL (fun q => p q || decide (q = v)) n := by
  refine rising_ext (add_rising (nums_rising _ _) _) (nums_rising _ _) (fun x => ?_)
  rw [add_mem (nums_rising _ _), nums_mem, nums_mem]
  constructor
  · rintro (rfl | ⟨k, h1, h2, h3⟩)
    · exact ⟨v, hv, by simp, rfl⟩
    · exact ⟨k, h1, by simp [h2], h3⟩
  · rintro ⟨k, h1, h2, h3⟩
    rw [Bool.or_eq_true] at h2
    rcases h2 with h2 | h2
    · exact .inr ⟨k, h1, h2, h3⟩
    · exact .inl (by rw [h3, of_decide_eq_true h2])
theorem nums_len (p : Nat → Bool) (n : Nat) : (numsL p n).length ≤ n := by
  unfold numsL
  rw [List.length_map]
  exact Nat.le_trans (List.length_filter_le _ _) (by rw [List.length_range]; omega)
theorem nums_congr {p q : Nat → Bool} {n : Nat} (h : ∀ k, k < n → p k = q k) : numsL p n = numsL q n := by
  unfold numsL
  rw [List.filter_congr (fun x hx => h x (List.mem_range.1 hx))]
/-- What a step leaves that only adds pages. -/
def PagP (G B : Nat) (a : Option Addr) (xs : List Int) (w : World) (r : Ending) (w' : World) : Prop := r = .returned (.tuple #[]) ∧ ∃ a' c', SetAt w' G 0 B a' c' xs ∧ Tch (fun k => k = G ∨ oB a = some k) w w' ∧ (oB a' = oB a ∨ ∃ j, oB a' = some j ∧ w.heap.size ≤ j)
set_option maxHeartbeats 2000000 in
theorem pagVis_any (G B c : Nat) (a : Option Addr) (mk mk' : Nat → Bool) (zs : List Int) (H : Nat → Ht) (all : List P3) (lv pg : Nat) (ad : Int) (w : World) (h1 : 1 ≤ lv) (h3 : lv ≤ 3) (hpg : pg + epg lv ≤ 4096) (hz : 0 ≤ wOf zs ad ∧ wOf zs ad < 18446744073709551616) (hmk : ∀ q, mk' q = (mk q || (brk zs H all ⟨lv, pg, ad⟩ && decide (pg ≤ q ∧ q < pg + epg lv)))) (h : SetAt w G 0 B a c (numsL mk 4096)) :
    Calls Tryz.prog 101 #[enV5 zs H all lv pg ad, .pointer (some ⟨G, 0, none⟩)] w (PagP G B a (numsL mk' 4096) w) := by
  have hbr := fun wX => broken_any zs H all lv pg ad wX hz
  have hcv := entryPages_any lv
  rw [cov_epg lv] at hcv
  obtain ⟨EP, hEP⟩ : ∃ EP, epg lv = EP := ⟨_, rfl⟩
  rw [hEP] at hcv hpg hmk
  obtain ⟨bb, hbb⟩ : ∃ bb, brk zs H all ⟨lv, pg, ad⟩ = bb := ⟨_, rfl⟩
  rw [hbb] at hbr hmk
  unfold enV5 at hbr ⊢
  generalize wOf zs ad = Z at *
  generalize rgt H all lv pg = R at *
  unfold PagP
  obtain ⟨wb, hwb⟩ : ∃ wb, wb = w.alloc (.cells #[.int .i64 lv, .int .i64 pg, .int .i64 ad, .int .u64 Z, .int .u64 R] 163) := ⟨_, rfl⟩
  have hb0 : Below w.heap.size w wb := by rw [hwb]; exact bal
  have q0 : wb.cell? ⟨w.heap.size, 0, none⟩ = some (.int .i64 lv) := by rw [hwb]; simp [go_sem]
  have q1 : wb.cell? ⟨w.heap.size, 1, none⟩ = some (.int .i64 pg) := by rw [hwb]; simp [go_sem]
  have N0 : w.heap.size < wb.heap.size := by rw [hwb]; simp
  have HB0 : Hid (Below w.heap.size w wb) := hb0
  have HWB : Hid (wb = _) := hwb
  have HH : Hid (SetAt w G 0 B a c (numsL mk 4096)) := h
  have HMK : Hid _ := hmk
  clear hwb hb0 h hz hbb hmk hEP
  cases bb
  · have HE : Hid (numsL mk' 4096 = numsL mk 4096) := nums_congr (fun k _ => by rw [HMK.out]; simp)
    go_enter Tryz.func101, Tryz.ntmps101
    go_wp2_with fail
    rw [← HWB.out]
    refine (hbr _).mono ?_
    rintro e w1 ⟨rfl, hb1⟩
    have hb01 := HB0.out.trans (hb1.mono HB0.out.size)
    clear hbr hb1
    go_wp2_with fail
    refine bodyPost_ret (v := .tuple #[]) (by simp [results, Tryz.results101, go_sem]) rfl ?_
    exact ⟨rfl, a, c, by rw [HE.out]; exact HH.out.tch (Tch.of_below (S := fun _ => False) hb01) (fun f => f) (fun _ _ f => f), Tch.of_below hb01, .inl rfl⟩
  · have HE : Hid (numsL mk' 4096 = numsL (fun q => mk q || decide (pg ≤ q ∧ q < pg + EP)) 4096) := nums_congr (fun k _ => by rw [HMK.out]; simp)
    go_enter Tryz.func101, Tryz.ntmps101
    go_wp2_with fail
    rw [← HWB.out]
    refine (hbr _).mono ?_
    rintro e w1 ⟨rfl, hb1⟩
    have HB01 : Hid (Below w.heap.size w w1) := HB0.out.trans (hb1.mono HB0.out.size)
    have r0 : w1.cell? ⟨w.heap.size, 0, none⟩ = some (.int .i64 lv) := (hb1.cell (p := ⟨w.heap.size, 0, none⟩) N0).trans q0
    have r1 : w1.cell? ⟨w.heap.size, 1, none⟩ = some (.int .i64 pg) := (hb1.cell (p := ⟨w.heap.size, 1, none⟩) N0).trans q1
    have N1 : w.heap.size < w1.heap.size := Nat.lt_of_lt_of_le N0 hb1.size
    clear hbr hb1 q0 q1
    go_wp2_with fail
    refine (hcv _).mono ?_
    rintro e w2 ⟨rfl, hw2⟩
    obtain rfl := hw2.symm
    clear hcv
    go_wp2_with fail
    have HR1 : Hid (w1.cell? ⟨w.heap.size, 1, none⟩ = some (.int .i64 pg)) := r1
    clear r0 r1
    go_loopw [10] (fun iv wr => ∃ i : Nat, i ≤ EP ∧ iv = .int .i64 i ∧ (∃ a' c', SetAt wr G 0 B a' c' (numsL (fun q => mk q || decide (pg ≤ q ∧ q < pg + i)) 4096) ∧ Tch (fun k => k = G ∨ oB a = some k) w wr ∧ (oB a' = oB a ∨ ∃ j, oB a' = some j ∧ w.heap.size < j)) ∧ wr.heap[w.heap.size]? = w1.heap[w.heap.size]? ∧ w.heap.size < wr.heap.size) (fun iv _ => EP - (intOf iv).toNat)
    case atStart =>
      have e0 : numsL (fun q => mk q || decide (pg ≤ q ∧ q < pg + 0)) 4096 = numsL mk 4096 := nums_congr (fun k _ => by
        have : decide (pg ≤ k ∧ k < pg + 0) = false := decide_eq_false (by omega)
        rw [this, Bool.or_false])
      exact ⟨0, Nat.zero_le _, rfl, ⟨a, c, by rw [e0]; exact HH.out.tch (Tch.of_below (S := fun _ => False) HB01.out) (fun f => f) (fun _ _ f => f), Tch.of_below HB01.out, .inl rfl⟩, rfl, N1⟩
    case round =>
      obtain ⟨i, hi, rfl, ⟨a', c', hset, htch, hown⟩, hblk, hsz⟩ := hrel
      by_cases hlt : i < EP
      · obtain ⟨X, hX⟩ : ∃ X, pg + i = X := ⟨_, rfl⟩
        have hadd := add_any G 0 B c' a' (numsL (fun q => mk q || decide (pg ≤ q ∧ q < pg + i)) 4096) (X : Int) wr (nums_rising _ _) (by have := nums_len (fun q => mk q || decide (pg ≤ q ∧ q < pg + i)) 4096; omega) hset
        rw [nums_add _ 4096 X (by omega)] at hadd
        have HN : Hid (numsL (fun q => (mk q || decide (pg ≤ q ∧ q < pg + i)) || decide (q = X)) 4096 = numsL (fun q => mk q || decide (pg ≤ q ∧ q < pg + (i + 1))) 4096) := nums_congr (fun k _ => by
          rw [Bool.or_assoc]
          congr 1
          by_cases e : k = X
          · rw [decide_eq_true e, Bool.or_true, decide_eq_true (show pg ≤ k ∧ k < pg + (i + 1) by omega)]
          · rw [decide_eq_false e, Bool.or_false]
            by_cases e2 : pg ≤ k ∧ k < pg + i
            · rw [decide_eq_true e2, decide_eq_true (show pg ≤ k ∧ k < pg + (i + 1) by omega)]
            · rw [decide_eq_false e2, decide_eq_false (show ¬ (pg ≤ k ∧ k < pg + (i + 1)) by omega)])
        have r1 : wr.cell? ⟨w.heap.size, 1, none⟩ = some (.int .i64 pg) := (cob hblk).trans HR1.out
        have W2 : IntKind.i64.wrap ((pg : Int) + (i : Int)) = (X : Int) := by rw [IntKind.wrap_i64]; omega
        have HSET : Hid _ := hset
        have HTC : Hid (Tch (fun k => k = G ∨ oB a = some k) w wr) := htch
        have HOW : Hid (oB a' = oB a ∨ ∃ j, oB a' = some j ∧ w.heap.size < j) := hown
        have HBK : Hid (wr.heap[w.heap.size]? = w1.heap[w.heap.size]?) := hblk
        clear hX hset htch hown hblk
        go_wp2_with fail
        refine hadd.mono ?_
        rintro e w3 ⟨rfl, a2, c2, st⟩
        rw [HN.out] at st
        clear hadd
        go_wp2_with fail
        go_roundw
        case rel =>
          have hoa : ∀ k, oB a = some k → k < w.heap.size := fun k hk => (HH.out.row.own k (by rw [own_sl]; exact hk)).2
          have hnz : ¬ (w.heap.size = G ∨ oB a' = some w.heap.size) := fun hh => by
            rcases hh with e | e
            · have := HH.out.lt; omega
            · rcases HOW.out with e2 | ⟨j, e2, hj⟩
              · have := hoa _ (by rw [← e2]; exact e); omega
              · rw [e] at e2; simp only [Option.some.injEq] at e2; omega
          refine ⟨i + 1, by omega, by go_num, ⟨a2, c2, st.set, HTC.out.then st.tch (fun k hk hh => ?_), ?_⟩, (st.tch.block _ hsz hnz).trans HBK.out, Nat.lt_of_lt_of_le hsz st.tch.size⟩
          · rcases hh with e | e
            · exact .inl e
            · rcases HOW.out with e2 | ⟨j, e2, hj⟩
              · exact .inr (by rw [← e2]; exact e)
              · rw [e] at e2; simp only [Option.some.injEq] at e2; omega
          · rcases st.own with e | ⟨j, e, hj⟩
            · rw [e]; exact HOW.out
            · exact .inr ⟨j, e, by omega⟩
        case measure => simp [intOf]; omega
      · have ei : i = EP := by omega
        subst ei
        go_wp2_with fail
        refine bodyPost_end (v := .tuple #[]) (by simp [results, Tryz.results101, go_sem]) rfl ?_
        exact ⟨rfl, a', c', by rw [HE.out]; exact hset, htch, hown.imp id (fun hh => by obtain ⟨j, e, hj⟩ := hh; exact ⟨j, e, by omega⟩)⟩
end Go.Proofs.YtnmhkgmmpkjjeacGreat
