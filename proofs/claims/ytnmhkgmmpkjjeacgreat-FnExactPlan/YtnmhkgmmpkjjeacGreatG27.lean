import Derived.Test.YtnmhkgmmpkjjeacGreatG19
import Derived.Test.YtnmhkgmmpkjjeacGreatG21
import Derived.Test.YtnmhkgmmpkjjeacGreatG26
namespace Go.Proofs.YtnmhkgmmpkjjeacGreat
open Go.ChangeShapes Go.WideShapes Go.ChangeAt Go.RowKit
set_option linter.unusedVariables false
set_option maxRecDepth 100000
attribute [local go_sem ↓] Go.wp_at_zero Go.wp_at_succ

/-- A plan in memory, as it is read. -/
structure PSt (w : World) (gp gz cz gl B : Nat) (zs : List Int) (H : Nat → Ht) (m : List HE) : Prop where
  lt : gp < w.heap.size
  c0 : w.cell? ⟨gp, 0, none⟩ = some (.slice (some ⟨gz, 0, none⟩) zs.length cz)
  c1 : w.cell? ⟨gp, 1, none⟩ = some (.pointer (some ⟨gl, 0, none⟩))
  c2 : w.cell? ⟨gp, 2, none⟩ = some (.map (some B))
  words : CRow w gz zs
  lay : LayIs w gl H
  map : MapIs w B m
theorem PSt.below {w w' : World} {gp gz cz gl B : Nat} {zs : List Int} {H : Nat → Ht} {m : List HE} (h : PSt w gp gz cz gl B zs H m) (hb : Below w.heap.size w w') : PSt w' gp gz cz gl B zs H m :=
  ⟨Nat.lt_of_lt_of_le h.lt hb.size, (hb.cell (p := ⟨gp, 0, none⟩) h.lt).trans h.c0, (hb.cell (p := ⟨gp, 1, none⟩) h.lt).trans h.c1, (hb.cell (p := ⟨gp, 2, none⟩) h.lt).trans h.c2, h.words.below hb h.words.lt, h.lay.below hb, h.map.below hb⟩
/-- The homes of kept and new tables. -/
def hmOf (kept fs : List P3) : List HE := kept.map (fun q => ⟨q.lv, q.pg, q.fr, true⟩) ++ fs.map (fun q => ⟨q.lv, q.pg, q.fr, false⟩)
theorem find_map_he (qs : List P3) (b : Bool) (lv pg : Int) : (qs.map (fun q => (⟨q.lv, q.pg, q.fr, b⟩ : HE))).find? (isAt lv pg) = (qs.find? (sameS lv pg)).map (fun q => (⟨q.lv, q.pg, q.fr, b⟩ : HE)) := by
  induction qs with
  | nil => rfl
  | cons q r ih =>
    rw [List.map_cons]
    by_cases h : q.lv = lv ∧ q.pg = pg
    · rw [List.find?_cons_of_pos (by unfold isAt; exact decide_eq_true ⟨h.1.symm, h.2.symm⟩), List.find?_cons_of_pos (by unfold sameS; exact decide_eq_true h)]
      rfl
    · rw [List.find?_cons_of_neg (by unfold isAt; rw [decide_eq_false (fun hh => h ⟨hh.1.symm, hh.2.symm⟩)]; decide), List.find?_cons_of_neg (by unfold sameS; rw [decide_eq_false h]; decide), ih]
theorem mGet_hm (kept fs : List P3) (lv pg : Int) : mGet (hmOf kept fs) lv pg = match kept.find? (sameS lv pg) with
    | some q => some ⟨q.lv, q.pg, q.fr, true⟩
    | none => (fs.find? (sameS lv pg)).map (fun q => ⟨q.lv, q.pg, q.fr, false⟩) := by
  unfold mGet hmOf
  rw [List.find?_append, find_map_he, find_map_he]
  cases kept.find? (sameS lv pg) <;> rfl
/-- What a home says: the frame, and whether it is kept. -/
theorem hm_none {kept fs : List P3} {lv pg : Int} (h0 : ∀ q ∈ kept ++ fs, 0 ≤ q.fr) (h : frOf (kept ++ fs) lv pg < 0) : mGet (hmOf kept fs) lv pg = none := by
  rw [mGet_hm]
  have hn : ∀ q ∈ kept ++ fs, sameS lv pg q = false := by
    intro q hq
    cases hs : sameS lv pg q
    · rfl
    · exfalso
      have hf : ∃ r, (kept ++ fs).find? (sameS lv pg) = some r := by
        have := List.find?_isSome.2 ⟨q, hq, hs⟩
        exact Option.isSome_iff_exists.1 this
      obtain ⟨r, hr⟩ := hf
      have hrm := List.mem_of_find?_eq_some hr
      have := h0 r hrm
      unfold frOf at h
      rw [hr] at h
      dsimp only at h
      omega
  rw [List.find?_eq_none.2 (fun q hq => by rw [hn q (List.mem_append_left _ hq)]; decide), List.find?_eq_none.2 (fun q hq => by rw [hn q (List.mem_append_right _ hq)]; decide)]
  rfl
theorem hm_some {kept fs : List P3} {lv pg : Int} (h : 0 ≤ frOf (kept ++ fs) lv pg) : ∃ k, mGet (hmOf kept fs) lv pg = some ⟨lv, pg, frOf (kept ++ fs) lv pg, k⟩ := by
  rw [mGet_hm]
  unfold frOf at h ⊢
  rw [List.find?_append] at h ⊢
  cases hk : kept.find? (sameS lv pg) with
  | some q =>
    have hs : sameS lv pg q = true := List.find?_some hk
    unfold sameS at hs
    have := of_decide_eq_true hs
    refine ⟨true, ?_⟩
    show some (⟨q.lv, q.pg, q.fr, true⟩ : HE) = _
    rw [this.1, this.2]
    rfl
  | none =>
    rw [hk] at h
    cases hf : fs.find? (sameS lv pg) with
    | some q =>
      have hs : sameS lv pg q = true := List.find?_some hf
      unfold sameS at hs
      have := of_decide_eq_true hs
      refine ⟨false, ?_⟩
      show some (⟨q.lv, q.pg, q.fr, false⟩ : HE) = _
      rw [this.1, this.2]
      rfl
    | none => rw [hf] at h; simp at h
theorem hm_kept {kept fs : List P3} {lv pg : Int} (h : 0 ≤ frOf kept lv pg) : mGet (hmOf kept fs) lv pg = some ⟨lv, pg, frOf kept lv pg, true⟩ := by
  rw [mGet_hm]
  unfold frOf at h ⊢
  cases hk : kept.find? (sameS lv pg) with
  | some q =>
    have hs : sameS lv pg q = true := List.find?_some hk
    unfold sameS at hs
    have := of_decide_eq_true hs
    show some (⟨q.lv, q.pg, q.fr, true⟩ : HE) = _
    rw [this.1, this.2]
  | none => rw [hk] at h; simp at h
theorem hm_not {kept fs : List P3} {lv pg : Int} (h0 : ∀ q ∈ kept, 0 ≤ q.fr) (h : frOf kept lv pg < 0) : ∀ x, mGet (hmOf kept fs) lv pg = some x → x.kp = false := by
  intro x hx
  rw [mGet_hm] at hx
  unfold frOf at h
  cases hk : kept.find? (sameS lv pg) with
  | some q =>
    rw [hk] at h
    have := h0 q (List.mem_of_find?_eq_some hk)
    dsimp only at h
    omega
  | none =>
    rw [hk] at hx
    cases hf : fs.find? (sameS lv pg) with
    | some q => rw [hf] at hx; simp at hx; rw [← hx]
    | none => rw [hf] at hx; simp at hx

set_option maxHeartbeats 1000000 in
theorem rightW_1 (gp gz cz gl B : Nat) (zs : List Int) (H : Nat → Ht) (kept fs : List P3) (p : Nat) (w : World) (hp : p < 4096) (h0 : ∀ q ∈ kept ++ fs, 0 ≤ q.fr) (h16 : (H p).s = 16 → frOf (kept ++ fs) 3 p < 0) (h4 : frOf (kept ++ fs) 4 p < 0) (h : PSt w gp gz cz gl B zs H (hmOf kept fs)) :
    Calls Tryz.prog 129 #[.pointer (some ⟨gp, 0, none⟩), .int .i64 1, .int .i64 p] w fun e w' => e = .returned (.int .u64 (rgt H (kept ++ fs) 1 p)) ∧ Below w.heap.size w w' := by
  have k2 := h.c2
  have k1 := h.c1
  obtain ⟨y0, y1, y2, y3⟩ := h.lay.cells p hp
  have ygl := h.lay.lt
  have hlt := h.lt
  have hlk := run_look B (hmOf kept fs) 2 p true w h.map
  obtain ⟨E, hE⟩ : ∃ E, H p = E := ⟨_, rfl⟩
  rw [hE] at y0 y1 y2 y3 h16
  obtain ⟨A, Bq, C, D⟩ := E
  dsimp only at y0 y1 y2 y3 h16
  have hT : ((p : Nat) : Int).toNat = p := rfl
  have L1 : (0 : Int) ≤ (p : Int) := by omega
  have L2 : (p : Int) < 4096 := by omega
  have hal : Tryz.prog.arrayLen 119 = 4096 := by kernel_rfl
  by_cases hf : 0 ≤ frOf (kept ++ fs) 2 p
  · obtain ⟨k, hg⟩ := hm_some hf
    have HV : Hid (rgt H (kept ++ fs) 1 p = encI 1 1 (frOf (kept ++ fs) 2 p) 0) := hidOf <| by
      unfold rgt
      rw [if_neg (by decide), if_neg (fun hh => absurd hh.1 (by decide))]
      rw [if_neg (by show ¬ frOf (kept ++ fs) 2 p < 0; omega)]
      rfl
    unfold lookV at hlk
    rw [hg] at hlk
    simp only [if_true, Option.isSome_some] at hlk
    have he := implEncode_any 1 1 (frOf (kept ++ fs) 2 p) 0
    generalize encI 1 1 (frOf (kept ++ fs) 2 p) 0 = X at HV he
    generalize frOf (kept ++ fs) 2 p = F at hlk he hf
    clear h h0 h16 h4 hE hg hT
    go_enter Tryz.func129, Tryz.ntmps129
    go_wp2_with (go_at_call 143; refine (he _).mono ?_; rintro e w1 ⟨rfl, hb1⟩)
    go_ret
    exact ⟨by rw [HV.out]; rfl, bal.trans (hb1.mono (by first | (simp; done) | (simp; omega)))⟩
  · have hg := hm_none h0 (Int.not_le.1 hf)
    unfold lookV at hlk
    rw [hg] at hlk
    simp only [if_true, Option.isSome_none] at hlk
    have HV : Hid (rgt H (kept ++ fs) 1 p = 0) := hidOf <| by
      unfold rgt
      rw [if_neg (by decide), if_neg (fun hh => absurd hh.1 (by decide)), if_pos (by show frOf (kept ++ fs) 2 p < 0; omega)]
    clear h h0 h16 h4 hE hg hT hf
    go_enter Tryz.func129, Tryz.ntmps129
    go_wp2_with fail
    go_ret
    exact ⟨by rw [HV.out]; rfl, (bal.alloc (by simp) _)⟩

set_option maxHeartbeats 1000000 in
theorem rightW_2 (gp gz cz gl B : Nat) (zs : List Int) (H : Nat → Ht) (kept fs : List P3) (p : Nat) (w : World) (hp : p < 4096) (h0 : ∀ q ∈ kept ++ fs, 0 ≤ q.fr) (h16 : (H p).s = 16 → frOf (kept ++ fs) 3 p < 0) (h4 : frOf (kept ++ fs) 4 p < 0) (h : PSt w gp gz cz gl B zs H (hmOf kept fs)) :
    Calls Tryz.prog 129 #[.pointer (some ⟨gp, 0, none⟩), .int .i64 2, .int .i64 p] w fun e w' => e = .returned (.int .u64 (rgt H (kept ++ fs) 2 p)) ∧ Below w.heap.size w w' := by
  have k2 := h.c2
  have k1 := h.c1
  obtain ⟨y0, y1, y2, y3⟩ := h.lay.cells p hp
  have ygl := h.lay.lt
  have hlt := h.lt
  have hlk := run_look B (hmOf kept fs) 3 p true w h.map
  obtain ⟨E, hE⟩ : ∃ E, H p = E := ⟨_, rfl⟩
  rw [hE] at y0 y1 y2 y3 h16
  obtain ⟨A, Bq, C, D⟩ := E
  dsimp only at y0 y1 y2 y3 h16
  have hT : ((p : Nat) : Int).toNat = p := rfl
  have L1 : (0 : Int) ≤ (p : Int) := by omega
  have L2 : (p : Int) < 4096 := by omega
  have hal : Tryz.prog.arrayLen 119 = 4096 := by kernel_rfl
  by_cases hf : 0 ≤ frOf (kept ++ fs) 3 p
  · obtain ⟨k, hg⟩ := hm_some hf
    have HV : Hid (rgt H (kept ++ fs) 2 p = encI 2 1 (frOf (kept ++ fs) 3 p) 0) := hidOf <| by
      unfold rgt
      rw [if_neg (by decide), if_neg (fun hh => by rw [hT, hE] at hh; have := h16 hh.2; omega)]
      rw [if_neg (by show ¬ frOf (kept ++ fs) 3 p < 0; omega)]
      rfl
    unfold lookV at hlk
    rw [hg] at hlk
    simp only [if_true, Option.isSome_some] at hlk
    have he := implEncode_any 2 1 (frOf (kept ++ fs) 3 p) 0
    generalize encI 2 1 (frOf (kept ++ fs) 3 p) 0 = X at HV he
    generalize frOf (kept ++ fs) 3 p = F at hlk he hf
    clear h h0 h16 h4 hE hg hT
    go_enter Tryz.func129, Tryz.ntmps129
    go_wp2_with (go_at_call 143; refine (he _).mono ?_; rintro e w1 ⟨rfl, hb1⟩)
    go_ret
    exact ⟨by rw [HV.out]; rfl, bal.trans (hb1.mono (by first | (simp; done) | (simp; omega)))⟩
  · have hg := hm_none h0 (Int.not_le.1 hf)
    unfold lookV at hlk
    rw [hg] at hlk
    simp only [if_true, Option.isSome_none] at hlk
    by_cases hD : D = 16
    · subst hD
      have HV : Hid (rgt H (kept ++ fs) 2 p = encI 2 2 Bq C) := hidOf <| by
        unfold rgt
        rw [if_neg (by decide), hT, hE, if_pos ⟨rfl, rfl⟩]
      have he := implEncode_any 2 2 Bq C
      generalize encI 2 2 Bq C = X at HV he
      clear h h0 h16 h4 hE hg hT hf
      go_enter Tryz.func129, Tryz.ntmps129
      go_wp2_with (go_at_call 143; refine (he _).mono ?_; rintro e w1 ⟨rfl, hb1⟩)
      go_ret
      exact ⟨by rw [HV.out]; rfl, (bal.alloc (by simp) _).trans (hb1.mono (by first | (simp; done) | (simp; omega)))⟩
    · have dD : (D == 16) = false := by simpa using hD
      have HV : Hid (rgt H (kept ++ fs) 2 p = 0) := hidOf <| by
        unfold rgt
        rw [if_neg (by decide), hT, hE, if_neg (fun hh => hD hh.2), if_pos (by show frOf (kept ++ fs) 3 p < 0; omega)]
      clear h h0 h16 h4 hE hg hT hf hD
      go_enter Tryz.func129, Tryz.ntmps129
      go_wp2_with fail
      go_ret
      exact ⟨by rw [HV.out]; rfl, (bal.alloc (by simp) _)⟩

set_option maxHeartbeats 1000000 in
theorem rightW_3 (gp gz cz gl B : Nat) (zs : List Int) (H : Nat → Ht) (kept fs : List P3) (p : Nat) (w : World) (hp : p < 4096) (h0 : ∀ q ∈ kept ++ fs, 0 ≤ q.fr) (h16 : (H p).s = 16 → frOf (kept ++ fs) 3 p < 0) (h4 : frOf (kept ++ fs) 4 p < 0) (h : PSt w gp gz cz gl B zs H (hmOf kept fs)) :
    Calls Tryz.prog 129 #[.pointer (some ⟨gp, 0, none⟩), .int .i64 3, .int .i64 p] w fun e w' => e = .returned (.int .u64 (rgt H (kept ++ fs) 3 p)) ∧ Below w.heap.size w w' := by
  have k2 := h.c2
  have k1 := h.c1
  obtain ⟨y0, y1, y2, y3⟩ := h.lay.cells p hp
  have ygl := h.lay.lt
  have hlt := h.lt
  have hlk := run_look B (hmOf kept fs) 4 p true w h.map
  obtain ⟨E, hE⟩ : ∃ E, H p = E := ⟨_, rfl⟩
  rw [hE] at y0 y1 y2 y3 h16
  obtain ⟨A, Bq, C, D⟩ := E
  dsimp only at y0 y1 y2 y3 h16
  have hT : ((p : Nat) : Int).toNat = p := rfl
  have L1 : (0 : Int) ≤ (p : Int) := by omega
  have L2 : (p : Int) < 4096 := by omega
  have hal : Tryz.prog.arrayLen 119 = 4096 := by kernel_rfl
  have hg := hm_none h0 h4
  unfold lookV at hlk
  rw [hg] at hlk
  simp only [if_true, Option.isSome_none] at hlk
  by_cases hA : A = 1
  · subst hA
    have HV : Hid (rgt H (kept ++ fs) 3 p = encI 3 3 Bq C) := hidOf <| by
      unfold rgt
      rw [if_pos rfl, hT, hE, if_pos rfl]
    have he := implEncode_any 3 3 Bq C
    generalize encI 3 3 Bq C = X at HV he
    clear h h0 h16 h4 hE hg hT
    go_enter Tryz.func129, Tryz.ntmps129
    go_wp2_with (go_at_call 143; refine (he _).mono ?_; rintro e w1 ⟨rfl, hb1⟩)
    go_ret
    exact ⟨by rw [HV.out]; rfl, (bal.alloc (by simp) _).trans (hb1.mono (by first | (simp; done) | (simp; omega)))⟩
  · have dA : (A == 1) = false := by simpa using hA
    have HV : Hid (rgt H (kept ++ fs) 3 p = 0) := hidOf <| by
      unfold rgt
      rw [if_pos rfl, hT, hE, if_neg hA]
    clear h h0 h16 h4 hE hg hT hA
    go_enter Tryz.func129, Tryz.ntmps129
    go_wp2_with fail
    go_ret
    exact ⟨by rw [HV.out]; rfl, (bal.alloc (by simp) _)⟩

theorem rightW_any (gp gz cz gl B : Nat) (zs : List Int) (H : Nat → Ht) (kept fs : List P3) (lv p : Nat) (w : World) (h1 : 1 ≤ lv) (h3 : lv ≤ 3) (hp : p < 4096) (h0 : ∀ q ∈ kept ++ fs, 0 ≤ q.fr) (h16 : (H p).s = 16 → frOf (kept ++ fs) 3 p < 0) (h4 : frOf (kept ++ fs) 4 p < 0) (h : PSt w gp gz cz gl B zs H (hmOf kept fs)) :
    Calls Tryz.prog 129 #[.pointer (some ⟨gp, 0, none⟩), .int .i64 lv, .int .i64 p] w fun e w' => e = .returned (.int .u64 (rgt H (kept ++ fs) lv p)) ∧ Below w.heap.size w w' := by
  rcases (show lv = 1 ∨ lv = 2 ∨ lv = 3 by omega) with rfl | rfl | rfl
  · exact rightW_1 gp gz cz gl B zs H kept fs p w hp h0 h16 h4 h
  · exact rightW_2 gp gz cz gl B zs H kept fs p w hp h0 h16 h4 h
  · exact rightW_3 gp gz cz gl B zs H kept fs p w hp h0 h16 h4 h
end Go.Proofs.YtnmhkgmmpkjjeacGreat
