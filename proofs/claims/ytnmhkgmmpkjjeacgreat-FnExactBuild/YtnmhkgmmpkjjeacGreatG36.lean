import Derived.Test.YtnmhkgmmpkjjeacGreatG35
import Derived.Test.YtnmhkgmmpkjjeacGreatG30
namespace Go.Proofs.YtnmhkgmmpkjjeacGreat
open Go.ChangeShapes Go.WideShapes Go.ChangeAt Go.RowKit
set_option linter.unusedVariables false
set_option maxRecDepth 100000
attribute [local go_sem ↓] Go.wp_at_zero Go.wp_at_succ

/-- Some operations were added since w. -/
def EmitR (wp w w' : World) (gp OP PV : Nat) (a : Option Addr) (l' : List OpE) : Prop := ∃ a' c', Emit wp w' gp OP PV a' c' l' ∧ Tch (fun k => k = OP ∨ oB a = some k) w w' ∧ (∀ k, oB a' = some k → oB a = some k ∨ w.heap.size ≤ k)
theorem EmitR.start {wp w w' : World} {gp OP PV c : Nat} {a : Option Addr} {l : List OpE} (h : Emit wp w gp OP PV a c l) (hb : Below w.heap.size w w') : EmitR wp w w' gp OP PV a l := ⟨a, c, h.below hb, Tch.of_below hb, fun k hk => .inl hk⟩
theorem EmitR.put {wp w w1 w2 : World} {gp OP PV c1 : Nat} {a a1 : Option Addr} {l1 l2 : List OpE} {r : Ending} (h : Emit wp w1 gp OP PV a1 c1 l1) (ht : Tch (fun k => k = OP ∨ oB a = some k) w w1) (hn : ∀ k, oB a1 = some k → oB a = some k ∨ w.heap.size ≤ k) (hp : PutP OP wp.heap.size a1 l2 w1 r w2) : r = .returned (.tuple #[]) ∧ EmitR wp w w2 gp OP PV a l2 := by
  obtain ⟨e, a2, c2, h1, h2, h3⟩ := hp
  refine ⟨e, a2, c2, h.step h1 h2 h3, ht.then h2 (fun k hk hh => ?_), fun k hk => ?_⟩
  · rcases hh with e | e
    · exact .inl e
    · rcases hn k e with e2 | e2
      · exact .inr e2
      · omega
  · rcases h3 k hk with e | e
    · exact hn k e
    · exact .inr (Nat.le_trans ht.size e)
theorem EmitR.trans {wp w w1 w2 : World} {gp OP PV c1 : Nat} {a a1 : Option Addr} {l1 l2 : List OpE} (ht : Tch (fun k => k = OP ∨ oB a = some k) w w1) (hn : ∀ k, oB a1 = some k → oB a = some k ∨ w.heap.size ≤ k) (hp : EmitR wp w1 w2 gp OP PV a1 l2) : EmitR wp w w2 gp OP PV a l2 := by
  obtain ⟨a2, c2, h1, h2, h3⟩ := hp
  refine ⟨a2, c2, h1, ht.then h2 (fun k hk hh => ?_), fun k hk => ?_⟩
  · rcases hh with e | e
    · exact .inl e
    · rcases hn k e with e2 | e2
      · exact .inr e2
      · omega
  · rcases h3 k hk with e | e
    · exact hn k e
    · exact .inr (Nat.le_trans ht.size e)
theorem EmitR.fin {wp w w' : World} {gp OP PV : Nat} {a : Option Addr} {l' : List OpE} (h : EmitR wp w w' gp OP PV a l') : PutP OP wp.heap.size a l' w (.returned (.tuple #[])) w' := by
  obtain ⟨a', c', h1, h2, h3⟩ := h
  exact ⟨rfl, a', c', h1.ops, h2, h3⟩
def opF (x : Int) : OpE := ⟨4, x, 0, 0⟩
theorem freeOps_ret (gone : List P3) (n : Nat) : freeOps n gone = (retL gone n).map opF := by
  unfold freeOps retL numsL
  rw [List.map_map]
  rfl
theorem take_map_snoc (xs : List Int) (i : Nat) (hi : i < xs.length) : (xs.take (i + 1)).map opF = (xs.take i).map opF ++ [opF (eAt eInt xs i)] := by
  rw [take_snocE eInt xs i hi, List.map_append]
  rfl
set_option maxHeartbeats 2000000 in
theorem backP_any (wp : World) (gp OP PV c cR bR : Nat) (a aR : Option Addr) (l : List OpE) (rt : List Int) (w : World) (hl : l.length ≤ 700000) (hrl : rt.length ≤ 1000) (hg : gp < wp.heap.size) (c4 : wp.cell? ⟨gp, 4, none⟩ = some (.slice aR rt.length cR)) (hr : ERow eInt wp bR (.slice aR rt.length cR) rt) (h : Emit wp w gp OP PV a c l) :
    Calls Tryz.prog 104 #[putV OP, .pointer (some ⟨PV, 0, none⟩)] w (PutP OP wp.heap.size a (l ++ rt.map opF) w) := by
  have p1 := h.pv
  have hvl := h.vlt
  have HG : Hid (∀ wX, Below wp.heap.size wp wX → wX.cell? ⟨gp, 4, none⟩ = some (.slice aR rt.length cR) ∧ ERow eInt wX bR (.slice aR rt.length cR) rt) := fun wX hX => ⟨(hX.cell (p := ⟨gp, 4, none⟩) hg).trans c4, hr.below hX⟩
  have g4 := (HG.out w h.pl).1
  have hgw : gp < w.heap.size := Nat.lt_of_lt_of_le hg h.pl.size
  have HST : Hid (EmitR wp w w gp OP PV a (l ++ (rt.take 0).map opF)) := hidOf <| by
    rw [List.take_zero, List.map_nil, List.append_nil]
    exact EmitR.start h (Below.refl _ _)
  clear h c4 hr
  unfold putV
  go_enter Tryz.func104, Tryz.ntmps104
  go_wp2_with fail
  go_loopw [11] (fun iv wr => ∃ i : Nat, i ≤ rt.length ∧ iv = .int .i64 i ∧ EmitR wp w wr gp OP PV a (l ++ (rt.take i).map opF)) (fun iv _ => rt.length - (intOf iv).toNat)
  case atStart => exact ⟨0, Nat.zero_le _, rfl, HST.out⟩
  case round =>
    obtain ⟨i, hi, rfl, a1, c1, he, ht, hn⟩ := hrel
    by_cases hlt : i < rt.length
    · have hrw := (HG.out wr he.pl).2
      obtain ⟨g, rfl⟩ : ∃ g, aR = some ⟨g, 0, none⟩ := by
        obtain ⟨a', c', e, h1⟩ := hrw.form
        obtain ⟨g, N, f, e2, _⟩ := h1 (by omega)
        simp only [Value.slice.injEq] at e
        exact ⟨g, by rw [e.1, e2]⟩
      obtain ⟨hgl, x0⟩ := eInt_cells hrw i hlt
      obtain ⟨X, hX⟩ : ∃ X, eAt eInt rt i = X := ⟨_, rfl⟩
      rw [hX] at x0
      have HL : Hid (l ++ (rt.take (i + 1)).map opF = (l ++ (rt.take i).map opF) ++ [⟨4, X, 0, 0⟩]) := hidOf <| by rw [take_map_snoc rt i hlt, hX, List.append_assoc]; rfl
      have hput := put_any OP wp.heap.size c1 a1 (l ++ (rt.take i).map opF) ⟨4, X, 0, 0⟩ wr (by rw [List.length_append, List.length_map, List.length_take]; omega) he.ops
      have L1 : (0 : Int) ≤ (i : Int) := by omega
      have L2 : (i : Int) < (rt.length : Int) := by omega
      have HE : Hid _ := he
      have HT : Hid _ := ht
      have HN : Hid (∀ k, oB a1 = some k → oB a = some k ∨ w.heap.size ≤ k) := hn
      clear he ht hn hrw hX
      dsimp only at hput
      go_wp2_with fail
      refine hput.mono ?_
      rintro r w2 hp
      obtain ⟨rfl, hr2⟩ := EmitR.put HE.out HT.out HN.out hp
      clear hput hp
      go_wp2_with fail
      go_roundw
      case rel => exact ⟨i + 1, by omega, by go_num, by rw [HL.out]; exact hr2⟩
      case measure => simp [intOf]; omega
    · have ei : i = rt.length := by omega
      subst ei
      rw [List.take_length] at he
      go_wp2_with fail
      refine bodyPost_end (v := .tuple #[]) (by simp [results, Tryz.results104, go_sem]) rfl ?_
      exact EmitR.fin ⟨a1, c1, he, ht, hn⟩
set_option maxHeartbeats 4000000 in
theorem fillP_any (wp : World) (gp gz cz gl M OP PV c cC bC : Nat) (a aC : Option Addr) (l : List OpE) (zs : List Int) (H : Nat → Ht) (kept fs : List P3) (w : World) (hzl : zs.length ≤ 1048576) (hl : l.length ≤ 700000) (hfl : fs.length ≤ 1000) (hP : PSt wp gp gz cz gl M zs H (hmOf kept fs)) (hO : PlOk zs H kept fs) (hF : ∀ q ∈ fs, ∃ F lv pg : Nat, q = ⟨F, lv, pg⟩ ∧ 1 ≤ lv ∧ lv ≤ 3 ∧ pg + tpg lv ≤ 4096 ∧ F * 16 + 16 ≤ zs.length) (c3 : wp.cell? ⟨gp, 3, none⟩ = some (.slice aC fs.length cC)) (hr : ERow ePl wp bC (.slice aC fs.length cC) fs) (h : Emit wp w gp OP PV a c l) :
    Calls Tryz.prog 105 #[putV OP, .pointer (some ⟨PV, 0, none⟩)] w (PutP OP wp.heap.size a (l ++ fillOps H (kept ++ fs) fs) w) := by
  have p1 := h.pv
  have hvl := h.vlt
  have hg := hP.lt
  have HG : Hid (∀ wX, Below wp.heap.size wp wX → wX.cell? ⟨gp, 3, none⟩ = some (.slice aC fs.length cC) ∧ ERow ePl wX bC (.slice aC fs.length cC) fs) := fun wX hX => ⟨(hX.cell (p := ⟨gp, 3, none⟩) hg).trans c3, hr.below hX⟩
  have g3 := (HG.out w h.pl).1
  have hgw : gp < w.heap.size := Nat.lt_of_lt_of_le hg h.pl.size
  have HST : Hid (EmitR wp w w gp OP PV a (l ++ fillOps H (kept ++ fs) (fs.take 0))) := hidOf <| by
    have e0 : fillOps H (kept ++ fs) (fs.take 0) = [] := rfl
    rw [e0, List.append_nil]
    exact EmitR.start h (Below.refl _ _)
  have HF : Hid (∀ q ∈ fs, ∃ F lv pg : Nat, q = ⟨F, lv, pg⟩ ∧ 1 ≤ lv ∧ lv ≤ 3 ∧ pg + tpg lv ≤ 4096 ∧ F * 16 + 16 ≤ zs.length) := hF
  have HPS : Hid (∀ wX, Below wp.heap.size wp wX → PSt wX gp gz cz gl M zs H (hmOf kept fs)) := fun wX hX => hP.below hX
  have HO : Hid (PlOk zs H kept fs) := hO
  clear h c3 hr hP hO hF
  unfold putV
  go_enter Tryz.func105, Tryz.ntmps105
  go_wp2_with fail
  go_loopw [12] (fun iv wr => ∃ t : Nat, t ≤ fs.length ∧ iv = .int .i64 t ∧ EmitR wp w wr gp OP PV a (l ++ fillOps H (kept ++ fs) (fs.take t))) (fun iv _ => fs.length - (intOf iv).toNat)
  case atStart => exact ⟨0, Nat.zero_le _, rfl, HST.out⟩
  case round =>
    obtain ⟨wo, hwo⟩ : ∃ wo : World, wo = wr := ⟨_, rfl⟩
    subst hwo
    obtain ⟨t, ht0, rfl, a1, c1, he, ht, hn⟩ := hrel
    by_cases hlt : t < fs.length
    · obtain ⟨F, lv, pg, hE, l1, l3, lp, lF⟩ := HF.out _ (pAt_mem hlt)
      have hrw := (HG.out wo he.pl).2
      obtain ⟨g, rfl⟩ : ∃ g, aC = some ⟨g, 0, none⟩ := by
        obtain ⟨a', c', e, h1⟩ := hrw.form
        obtain ⟨g, N, f, e2, _⟩ := h1 (by omega)
        simp only [Value.slice.injEq] at e
        exact ⟨g, by rw [e.1, e2]⟩
      obtain ⟨hgl, x0, x1, x2⟩ := ePl_cells hrw t hlt
      rw [hE] at x0 x1 x2
      dsimp only at x0 x1 x2
      obtain ⟨ll, hll⟩ : ∃ ll, l ++ fillOps H (kept ++ fs) (fs.take t) = ll := ⟨_, rfl⟩
      have hlen : ll.length ≤ 720000 := by
        rw [← hll, List.length_append, fillOps_len, List.length_take]
        omega
      rw [hll] at he
      have HL : Hid (l ++ fillOps H (kept ++ fs) (fs.take (t + 1)) = ll ++ fillOne H (kept ++ fs) ⟨F, lv, pg⟩ 16) := hidOf <| by rw [fillTo_succ H (kept ++ fs) fs t hlt, hE, ← List.append_assoc, hll]
      obtain ⟨wz, hwz⟩ : ∃ wz, wz = wo.alloc (.cells #[.int .i64 F, .int .i64 lv, .int .i64 pg] 62) := ⟨_, rfl⟩
      have hbz : Below wo.heap.size wo wz := by rw [hwz]; exact bal
      have z0 : wz.cell? ⟨wo.heap.size, 0, none⟩ = some (.int .i64 F) := by rw [hwz]; simp [go_sem]
      have z1 : wz.cell? ⟨wo.heap.size, 1, none⟩ = some (.int .i64 lv) := by rw [hwz]; simp [go_sem]
      have z2 : wz.cell? ⟨wo.heap.size, 2, none⟩ = some (.int .i64 pg) := by rw [hwz]; simp [go_sem]
      have N0 : wo.heap.size < wz.heap.size := by rw [hwz]; simp
      have hez := he.below hbz
      have HNZ : Hid (¬ (wo.heap.size = OP ∨ oB a1 = some wo.heap.size)) := hidOf <| fun hh => by
        rcases hh with e | e
        · have := he.ops.lt; omega
        · have := (he.ops.own _ e).2; omega
      have HSZ : Hid (EmitR wp wz wz gp OP PV a1 (ll ++ fillOne H (kept ++ fs) ⟨F, lv, pg⟩ 0)) := hidOf <| by
        have e0 : fillOne H (kept ++ fs) ⟨F, lv, pg⟩ 0 = [] := rfl
        rw [e0, List.append_nil]
        exact EmitR.start hez (Below.refl _ _)
      have HTZ : Hid (Tch (fun k => k = OP ∨ oB a = some k) w wz) := ht.then (Tch.of_below (S := fun _ => False) hbz) (fun k _ h => h.elim)
      have HZC : Hid (wz.cell? ⟨wo.heap.size, 0, none⟩ = some (.int .i64 F) ∧ wz.cell? ⟨wo.heap.size, 1, none⟩ = some (.int .i64 lv) ∧ wz.cell? ⟨wo.heap.size, 2, none⟩ = some (.int .i64 pg)) := ⟨z0, z1, z2⟩
      have L1 : (0 : Int) ≤ (t : Int) := by omega
      have L2 : (t : Int) < (fs.length : Int) := by omega
      have HN : Hid (∀ k, oB a1 = some k → oB a = some k ∨ w.heap.size ≤ k) := hn
      have HWZ : Hid (wz = _) := hwz
      clear he ht hn hrw hll hwz hbz z0 z1 z2 hez
      go_wp2_with fail
      rw [← HWZ.out]
      go_loopw [16] (fun iv wr2 => ∃ i : Nat, i ≤ 16 ∧ iv = .int .i64 i ∧ EmitR wp wz wr2 gp OP PV a1 (ll ++ fillOne H (kept ++ fs) ⟨F, lv, pg⟩ i)) (fun iv _ => 16 - (intOf iv).toNat)
      case atStart => exact ⟨0, Nat.zero_le _, rfl, HSZ.out⟩
      case round =>
        obtain ⟨i, hi, rfl, a2, c2, he, ht, hn⟩ := hrel
        by_cases hlti : i < 16
        · have hent := entryOf_any gp gz cz gl M zs H kept fs F lv pg i wr hzl l1 l3 hlti lp lF HO.out (HPS.out wr he.pl)
          obtain ⟨X, hX⟩ : ∃ X, pg + i * epg lv = X := ⟨_, rfl⟩
          obtain ⟨AD, hAD⟩ : ∃ AD, F * 16 + i = AD := ⟨_, rfl⟩
          rw [hX, hAD] at hent
          unfold enV5 at hent
          obtain ⟨R, hR⟩ : ∃ R, rgt H (kept ++ fs) lv X = R := ⟨_, rfl⟩
          rw [hR] at hent
          generalize wOf zs AD = Z at hent
          obtain ⟨l2, hl2⟩ : ∃ l2, ll ++ fillOne H (kept ++ fs) ⟨F, lv, pg⟩ i = l2 := ⟨_, rfl⟩
          have HL2 : Hid (ll ++ fillOne H (kept ++ fs) ⟨F, lv, pg⟩ (i + 1) = l2 ++ [⟨1, AD, 0, R⟩]) := hidOf <| by
            have e1 : (pg : Int) + (i : Int) * cov (lv : Int) = (X : Int) := by rw [cov_epg lv, ← hX]; simp
            have e2 : (F : Int) * 16 + (i : Int) = (AD : Int) := by rw [← hAD]; simp
            rw [fillOne_succ, ← List.append_assoc, hl2]
            dsimp only
            rw [e1, e2, hR]
          have hlen2 : l2.length ≤ 800000 := by rw [← hl2, List.length_append, fillOne_len]; omega
          rw [hl2] at he
          have HPUT : Hid (∀ wX, Below wr.heap.size wr wX → Calls Tryz.prog 75 #[.agg #[.int .i64 1, .int .i64 AD, .int .i64 0, .int .u64 R], .pointer (some ⟨OP, 0, none⟩)] wX (PutP OP wp.heap.size a2 (l2 ++ [⟨1, AD, 0, R⟩]) wX)) := fun wX hX => put_any OP wp.heap.size c2 a2 l2 ⟨1, AD, 0, R⟩ wX (by omega) (he.ops.below hX)
          have bz := ht.block wo.heap.size N0 HNZ.out
          have z0 : wr.cell? ⟨wo.heap.size, 0, none⟩ = some (.int .i64 F) := (cob bz).trans HZC.out.1
          have z1 : wr.cell? ⟨wo.heap.size, 1, none⟩ = some (.int .i64 lv) := (cob bz).trans HZC.out.2.1
          have z2 : wr.cell? ⟨wo.heap.size, 2, none⟩ = some (.int .i64 pg) := (cob bz).trans HZC.out.2.2
          have pv := he.pv
          have HE : Hid _ := he
          have HT : Hid _ := ht
          have HN2 : Hid (∀ k, oB a2 = some k → oB a1 = some k ∨ wz.heap.size ≤ k) := hn
          clear he ht hn bz hX hAD hR hl2
          go_wp2_with fail
          refine hent.mono ?_
          rintro r w3 ⟨rfl, hb3⟩
          have HB3 : Hid (Below wr.heap.size wr w3) := hb3
          clear hent hb3
          have hput := HPUT.out (w3.alloc (.cells #[.int .i64 lv, .int .i64 X, .int .i64 AD, .int .u64 Z, .int .u64 R] 163)) (HB3.out.trans (bal.mono HB3.out.size))
          go_wp2_with fail
          refine hput.mono ?_
          rintro r w4 hp
          obtain ⟨rfl, hr2⟩ := EmitR.put HE.out HT.out HN2.out (PutP.pre (c := c2) (l := l2) (HB3.out.trans (bal.mono HB3.out.size)) hp)
          clear hput hp HPUT
          go_wp2_with fail
          go_roundw
          case rel => exact ⟨i + 1, by omega, by go_num, by rw [HL2.out]; exact hr2⟩
          case measure => simp [intOf]; omega
        · have ei : i = 16 := by omega
          subst ei
          go_wp2_with fail
          go_roundw
          case rel => exact ⟨t + 1, by omega, by go_num, by rw [HL.out]; exact EmitR.trans (c1 := 0) (l1 := ll) HTZ.out (fun k hk => (HN.out k hk)) ⟨a2, c2, he, ht, hn⟩⟩
          case measure => simp [intOf]; omega
    · have et : t = fs.length := by omega
      subst et
      rw [List.take_length] at he
      go_wp2_with fail
      refine bodyPost_end (v := .tuple #[]) (by simp [results, Tryz.results105, go_sem]) rfl ?_
      exact EmitR.fin ⟨a1, c1, he, ht, hn⟩
end Go.Proofs.YtnmhkgmmpkjjeacGreat
