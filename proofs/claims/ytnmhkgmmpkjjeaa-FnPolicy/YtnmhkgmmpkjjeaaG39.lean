import Derived.Test.YtnmhkgmmpkjjeaaG38
import Derived.Laws.EntriesVeiled
namespace Go.Proofs.Ytnmhkgmmpkjjeaa
open Go.ChangeShapes Go.WideShapes Go.ChangeAt Go.RowKit
set_option linter.unusedVariables false
set_option linter.unusedSimpArgs false
set_option maxRecDepth 100000
attribute [local go_sem ↓] Go.wp_at_zero Go.wp_at_succ

/-! ReadPolicy, the program's. -/
theorem objOf_mem {all : List St} {n : Txt} (h : (objOf all n).kind = 1) : objOf all n ∈ all := by
  induction all with
  | nil => cases h
  | cons e r ih =>
    unfold objOf at h ⊢
    split
    · exact List.mem_cons_self
    · rename_i hx
      rw [if_neg hx] at h
      exact List.mem_cons_of_mem _ (ih h)
theorem good_regs {all : List St} (h : Good all) : (∀ r ∈ regsOf all, spanOk r = true) ∧ (regsOf all).Pairwise (fun x y => x.page + x.count ≤ y.page ∨ y.page + y.count ≤ x.page) := by
  have hz : ∀ e, e.kind = 2 → szOf all e = (objOf all e.name).a := fun e he => by unfold szOf; simp [he]
  constructor
  · intro r hr
    unfold regsOf at hr
    obtain ⟨e, he, rfl⟩ := List.mem_map.1 hr
    obtain ⟨m1, m2⟩ := List.mem_filter.1 he
    have k2 : e.kind = 2 := by simpa using m2
    obtain ⟨f1, f2⟩ := h.f e m1 (by omega)
    rw [hz e k2] at f1 f2
    have hm := objOf_mem (h.o e m1 k2)
    have hg := h.g _ hm (h.o e m1 k2)
    have so := h.s _ hm
    have se := h.s e m1
    have b0 := so.b0; have a0 := se.a0; have p1 := se.p1; have p0 := h.p e m1 k2
    rw [spanOk_iff]
    unfold regOf
    dsimp only
    omega
  · unfold regsOf
    rw [List.pairwise_map]
    refine (h.d.filter _).imp_of_mem (fun {x y} hx hy hxy => ?_)
    obtain ⟨mx, kx⟩ := List.mem_filter.1 hx
    obtain ⟨my, ky⟩ := List.mem_filter.1 hy
    have kx2 : x.kind = 2 := by simpa using kx
    have ky2 : y.kind = 2 := by simpa using ky
    have := hxy (by omega) (by omega)
    rw [hz x kx2, hz y ky2] at this
    unfold meetB at this
    unfold regOf
    simp at this ⊢
    omega
theorem sorted_gap {rs' rs : List SpanE} (hp : rs'.Perm rs) (hs : rs'.Pairwise (fun x y => x.page ≤ y.page)) (hd : rs.Pairwise (fun x y => x.page + x.count ≤ y.page ∨ y.page + y.count ≤ x.page)) (ho : ∀ r ∈ rs, spanOk r = true) : rs'.Pairwise (fun x y => x.page + x.count ≤ y.page) := by
  have hd' : rs'.Pairwise (fun x y => x.page + x.count ≤ y.page ∨ y.page + y.count ≤ x.page) := (hp.pairwise_iff (fun {x y} h => h.symm)).2 hd
  rw [List.pairwise_iff_getElem] at hs hd' ⊢
  intro i j hi hj hij
  have h1 := hs i j hi hj hij
  have h2 := hd' i j hi hj hij
  have h3 := ho _ (hp.mem_iff.1 (List.getElem_mem hj))
  rw [spanOk_iff] at h3
  omega
def RpPost (w : World) (r : List SpanE × Int × Int) (e : Ending) (w' : World) : Prop := ∃ a c, e = .returned (.tuple #[.slice a r.1.length c, .agg #[.int .i64 r.2.1, .int .i64 r.2.2]]) ∧ ERow eSpan w' w.heap.size (.slice a r.1.length c) r.1 ∧ Below w.heap.size w w'
theorem polL_fault (l : Txt) (h : (polL l).2.1 ≠ 0) : (polL l).1 = [] := by
  unfold polL at h ⊢
  split
  · rfl
  · rename_i h1
    rw [if_neg h1] at h
    split
    · rfl
    · rename_i h2
      rw [if_neg h2] at h
      unfold polT at h ⊢
      split
      · rfl
      · rename_i h3
        rw [if_neg h3] at h
        unfold polE at h ⊢
        split
        · rfl
        · rename_i hf
          rw [hf] at h
          dsimp only at h
          split
          · rfl
          · rename_i h4
            rw [if_neg h4] at h
            exact absurd rfl h
set_option maxHeartbeats 2000000 in
theorem implRead_any (l : Txt) (w : World) (hl : l.length ≤ 9223372036854775807) : Calls Try.prog 18 #[.string (bs l)] w (RpPost w (polL l)) := by
  have HF : Hid ((polL l).2.1 ≠ 0 → (polL l).1 = []) := hidP (polL_fault l)
  have hmk : ∀ w : World, (Instr.makeMap 117 none).run Try.prog w = .ok (.map (some w.heap.size)) (w.alloc (.map #[] 0)) := fun w => rfl
  obtain ⟨w3, hw3⟩ : ∃ w3, w3 = ((w.alloc (.cells #[.int .i64 0, .int .i64 0] 49)).alloc (.map #[] 0)).alloc (.cells #[.map (some (w.heap.size + 1)), .slice none 0 0, .slice none 0 0, .slice none 0 0, .int .i64 0, .slice none 0 0] 121) := ⟨_, rfl⟩
  have hb3 : Below w.heap.size w w3 := by rw [hw3]; exact (bal.alloc (by simp) _).alloc (by simp; omega) _
  have HZ3 : Hid (w.heap.size + 2 < w3.heap.size) := hidP (by rw [hw3]; simp)
  have HD3 : Hid (w3.cell? ⟨w.heap.size, 0, none⟩ = some (.int .i64 0) ∧ w3.cell? ⟨w.heap.size, 1, none⟩ = some (.int .i64 0) ∧ w3.frozen? ⟨w.heap.size, 0, none⟩ = false ∧ w3.frozen? ⟨w.heap.size, 1, none⟩ = false) := hidP (by rw [hw3]; refine ⟨?_, ?_, ?_, ?_⟩ <;> simp [go_sem])
  have HPB : Hid (PB w3 (w.heap.size + 2) (w.heap.size + 1)) := hidP (by
    rw [hw3]
    refine ⟨?_, ?_, ?_, ?_, ?_, ?_, ?_, ?_, by simp, by simp, by omega⟩
    rotate_left 7
    · have := MapO.new (w.alloc (.cells #[.int .i64 0, .int .i64 0] 49))
      rw [World.size_alloc] at this
      exact this.of_block (Below.heap_alloc _ _ _ (by simp))
    all_goals (first | (intro i; simp [go_sem]; done) | (simp [go_sem]; done))
  )
  have HW3 : Hid (w3 = _) := hw3
  have HB3 : Hid (Below w.heap.size w w3) := hb3
  have t1 := hidP (firstFault_any l (w.heap.size + 2) (w.heap.size + 1) w3 hl HPB.out)
  generalize polL l = r at *
  clear hb3 hw3
  go_enter Try.func18, Try.ntmps18
  go_wp2_with fail
  rw [← HW3.out]
  refine t1.out.mono ?_
  rintro e w4 ⟨rfl, ht4, hyes⟩
  obtain ⟨w5, hw5⟩ : ∃ w5, w5 = w4.alloc (.cells #[.int .i64 r.2.1, .int .i64 r.2.2] 49) := ⟨_, rfl⟩
  have hb5 : Below w4.heap.size w4 w5 := by rw [hw5]; exact bal
  have HW5 : Hid (w5 = _) := hw5
  have hz4 : w.heap.size + 2 < w4.heap.size := Nat.lt_of_lt_of_le HZ3.out ht4.size
  have hz5 : w4.heap.size < w5.heap.size := by rw [hw5]; simp
  have e4 : w4.heap[w.heap.size]? = w3.heap[w.heap.size]? := ht4.block _ (by have := HZ3.out; omega) (by show ¬ (_ ∨ _); omega)
  have e5 : w5.heap[w.heap.size]? = w3.heap[w.heap.size]? := (hb5.block _ (by omega)).trans e4
  have d0 := (World.cell?_of_block (a := ⟨w.heap.size, 0, none⟩) e5).trans HD3.out.1
  have d1 := (World.cell?_of_block (a := ⟨w.heap.size, 1, none⟩) e5).trans HD3.out.2.1
  have g0 := (World.frozen?_of_block (a := ⟨w.heap.size, 0, none⟩) e5).trans HD3.out.2.2.1
  have g1 := (World.frozen?_of_block (a := ⟨w.heap.size, 1, none⟩) e5).trans HD3.out.2.2.2
  have x0 : w5.cell? ⟨w4.heap.size, 0, none⟩ = some (.int .i64 r.2.1) := by rw [hw5]; simp [go_sem]
  have x1 : w5.cell? ⟨w4.heap.size, 1, none⟩ = some (.int .i64 r.2.2) := by rw [hw5]; simp [go_sem]
  have HT4 := hidP ht4
  have HB4 : Hid (Below w.heap.size w w4) := hidP ⟨ht4.os.trans HB3.out.os, ht4.tape.trans HB3.out.tape, ht4.output.trans HB3.out.output, Nat.le_trans HB3.out.size ht4.size, fun k hk => (ht4.block k (by have := HZ3.out; omega) (by show ¬ (_ ∨ _); omega)).trans (HB3.out.block k hk)⟩
  have HB5 : Hid (Below w.heap.size w w5) := hidP (HB4.out.trans (hb5.mono (by omega)))
  have HBE := hidP hb5
  clear hw5 ht4 e4 e5 t1 hb5
  by_cases hc : r.2.1 = 0
  · obtain ⟨all, at_, B, v, hgd, hr, hB, hp, hal⟩ := hyes hc
    have hp5 := hp.below HBE.out
    have c3 : w5.cell? ⟨w.heap.size + 1 + 1, 3, none⟩ = some (.slice v.ra (regsOf all).length v.rc) := hp5.c3
    obtain ⟨hok, hdj⟩ := good_regs hgd
    have t2 := hidP (joinSpans_any v.ra v.rc B (regsOf all) w5 hp5.rr (by have := (lens_le all).2.2; omega) hok)
    have HOW : Hid (∀ k, oP v.ra = some k → w3.heap.size ≤ k) := hidP (fun k hk => Nat.le_trans hB (hp.of.2.2 k hk).1)
    have HOK := hidP hok
    have HDJ := hidP hdj
    have HRR : Hid (r = (spansTo all 4096, 0, 0)) := hr
    rw [hr] at HW5 x0 x1
    have hc0 : ((0 : Int) != 0) = false := rfl
    clear hyes hp hp5 hok hdj hgd hc hal
    dsimp only at HW5 x0 x1
    subst hr
    go_upto_region 3 with fail
    rw [← HW5.out]
    go_wp2_with fail
    refine t2.out.mono ?_
    rintro e w6 ⟨rs', a', c', hpm, hso, rfl, hrow, ht6⟩
    have hj : joinL rs' = spansTo all 4096 := join_sorted hpm (sorted_gap hpm hso HDJ.out HOK.out) (fun r hr => by have := HOK.out r hr; rw [spanOk_iff] at this; omega)
    rw [hj] at hrow ⊢
    have e6 : w6.heap[w.heap.size]? = w5.heap[w.heap.size]? := ht6.block _ (by omega) (fun e => by have := HOW.out _ e; have := HZ3.out; omega)
    replace d0 := (World.cell?_of_block (a := ⟨w.heap.size, 0, none⟩) e6).trans d0
    replace d1 := (World.cell?_of_block (a := ⟨w.heap.size, 1, none⟩) e6).trans d1
    replace g0 := (World.frozen?_of_block (a := ⟨w.heap.size, 0, none⟩) e6).trans g0
    replace g1 := (World.frozen?_of_block (a := ⟨w.heap.size, 1, none⟩) e6).trans g1
    have HB6 : Hid (Below w.heap.size w w6) := hidP ⟨ht6.os.trans HB5.out.os, ht6.tape.trans HB5.out.tape, ht6.output.trans HB5.out.output, Nat.le_trans HB5.out.size ht6.size, fun k hk => (ht6.block k (by omega) (fun e => by have := HOW.out _ e; have := HZ3.out; omega)).trans (HB5.out.block k hk)⟩
    have HR6 : Hid (ERow eSpan w6 w5.heap.size (.slice a' (spansTo all 4096).length c') (spansTo all 4096)) := hidP hrow
    clear hpm hso hj hrow ht6 e6 t2 c3 x0 x1
    go_wp2_with fail
    obtain ⟨w7, hw7⟩ : ∃ w7, w7 = (w6.setCell ⟨w.heap.size, 0, none⟩ (.int .i64 0)).setCell ⟨w.heap.size, 1, none⟩ (.int .i64 0) := ⟨_, rfl⟩
    have c0 : w7.cell? ⟨w.heap.size, 0, none⟩ = some (.int .i64 0) := by rw [hw7]; exact (pcell (by omega)).trans (World.cell?_setCell_same _ _ _ d0)
    have c1 : w7.cell? ⟨w.heap.size, 1, none⟩ = some (.int .i64 0) := by rw [hw7]; exact World.cell?_setCell_same _ _ _ ((pcell (by omega)).trans d1)
    have t7 : Touch (fun k => k = w.heap.size) w6 w7 := by rw [hw7]; exact (pset (a := ⟨w.heap.size, 0, none⟩)).trans (pset (a := ⟨w.heap.size, 1, none⟩))
    have HB7 : Hid (Below w.heap.size w w7) := hidP (by rw [hw7]; exact (HB6.out.setCell (by simp) _).setCell (by simp) _)
    have HR7 : Hid (ERow eSpan w7 w.heap.size (.slice a' (spansTo all 4096).length c') (spansTo all 4096)) := hidP ((HR6.out.touch t7 (fun k hk e => by have := (HR6.out.own k hk).1; omega)).rebase (by omega))
    rw [← hw7]
    exact bodyPost_ret (v := .tuple #[.slice a' (spansTo all 4096).length c', .agg #[.int .i64 0, .int .i64 0]]) (by simp [results, Try.results18, go_sem, c0, c1]) rfl ⟨a', c', rfl, HR7.out, HB7.out⟩
  · have hcb : (r.2.1 != 0) = true := by simpa using hc
    have HN : Hid (r.1 = []) := hidP (HF.out hc)
    have HS : Hid (∀ wX, Below w5.heap.size w5 wX → wX.cell? ⟨w4.heap.size, 0, none⟩ = some (.int .i64 r.2.1) ∧ wX.cell? ⟨w4.heap.size, 1, none⟩ = some (.int .i64 r.2.2)) := hidP (fun wX hX => ⟨(hX.cell (p := ⟨w4.heap.size, 0, none⟩) hz5).trans x0, (hX.cell (p := ⟨w4.heap.size, 1, none⟩) hz5).trans x1⟩)
    clear hyes hc
    obtain ⟨w7, hw7⟩ : ∃ w7, w7 = ((w5.setCell ⟨w.heap.size, 0, none⟩ (.int .i64 r.2.1)).setCell ⟨w.heap.size, 1, none⟩ (.int .i64 r.2.2)).drew := ⟨_, rfl⟩
    have c0 : w7.cell? ⟨w.heap.size, 0, none⟩ = some (.int .i64 r.2.1) := by rw [hw7]; exact (pcell (by omega)).trans (World.cell?_setCell_same _ _ _ d0)
    have c1 : w7.cell? ⟨w.heap.size, 1, none⟩ = some (.int .i64 r.2.2) := by rw [hw7]; exact World.cell?_setCell_same _ _ _ ((pcell (by omega)).trans d1)
    have HB7 : Hid (Below w.heap.size w w7) := hidP (by rw [hw7]; exact ((HB5.out.setCell (by simp) _).setCell (by simp) _).drew)
    have HS7 : Hid (w7.cell? ⟨w4.heap.size, 0, none⟩ = some (.int .i64 r.2.1) ∧ w7.cell? ⟨w4.heap.size, 1, none⟩ = some (.int .i64 r.2.2)) := hidP (by
      have e : w7.heap[w4.heap.size]? = w5.heap[w4.heap.size]? := by rw [hw7]; exact (Below.heap_setCell _ _ _ _ (by show _ ≠ w.heap.size; omega)).trans (Below.heap_setCell _ _ _ _ (by show _ ≠ w.heap.size; omega))
      exact ⟨(World.cell?_of_block e).trans x0, (World.cell?_of_block e).trans x1⟩)
    have HW7 : Hid (w7 = _) := hw7
    clear hw7
    go_upto_region 3 with fail
    rw [← HW5.out]
    go_wp2_with fail
    refine wp_region_held_drew (S := fun wX => wX.cell? ⟨w4.heap.size, 0, none⟩ = some (.int .i64 r.2.1) ∧ wX.cell? ⟨w4.heap.size, 1, none⟩ = some (.int .i64 r.2.2)) (by kernel_rfl) (HS.out _ (Below.refl _ _).drew) (fun hHeld => ?_)
    refine tk 0 ?_
    refine tk 1 ?_
    refine wpAnyH_ready (rs := [2]) (by kernel_rfl) (by simp) ?_
    refine AllReadyH.cons rfl (fun K hK => ?_) AllReadyH.nil
    go_simp
    rw [← HW7.out]
    refine hK.out _ _ HS7.out (fun hHeld2 => ?_)
    clear hK K hHeld hHeld2
    refine wpAnyH_done (by kernel_rfl) ?_ _
    go_wp2_with fail
    refine bodyPost_ret (v := .tuple #[.slice none 0 0, .agg #[.int .i64 r.2.1, .int .i64 r.2.2]]) (by simp [results, Try.results18, go_sem, c0, c1]) rfl ⟨none, 0, ?_, ?_, HB7.out⟩
    · rw [HN.out]; rfl
    · rw [HN.out]; exact ⟨by simp [ecells], .inl ⟨rfl, rfl⟩⟩

/-! Two readings of one list of spans are the same. -/
set_option maxHeartbeats 4000000 in
theorem sameSpans_any (a a2 : Option Addr) (cap cap2 b b2 : Nat) (xs : List SpanE) (w : World) (hn : xs.length ≤ 1048576) (h1 : ERow eSpan w b (.slice a xs.length cap) xs) (h2 : ERow eSpan w b2 (.slice a2 xs.length cap2) xs) :
    Calls Try.prog 19 #[.slice a xs.length cap, .slice a2 xs.length cap2] w fun e w' => e = .returned (.bool true) ∧ Below w.heap.size w w' := by
  obtain ⟨g, hg, hcg⟩ := spCells h1
  obtain ⟨h, hh, hch⟩ := spCells h2
  have HG := hidP hg
  have HH := hidP hh
  have HCG := hidP hcg
  have HCH := hidP hch
  clear h1 h2 hg hh hcg hch
  go_enter Try.func19, Try.ntmps19
  go_wp2_with fail
  go_loopw [5] (fun iv wr => ∃ k : Nat, k ≤ xs.length ∧ iv = .int .i64 (k : Int) ∧ Below w.heap.size w wr) (fun iv _ => xs.length - (intOf iv).toNat)
  case atStart => exact ⟨0, Nat.zero_le _, rfl, Below.refl _ _⟩
  case round =>
    obtain ⟨k, hk, rfl, hbr⟩ := hrel
    have HBR := hidP hbr
    clear hbr
    by_cases hlt : k < xs.length
    · obtain ⟨rfl, hgl⟩ := HG.out (by omega)
      obtain ⟨rfl, hhl⟩ := HH.out (by omega)
      obtain ⟨⟨P, Q, O, R, G⟩, hX⟩ : ∃ S, eAt eSpan xs k = S := ⟨_, rfl⟩
      have HS : Hid (∀ wX, Below wr.heap.size wr wX → wX.cell? ⟨g, k * 5, none⟩ = some (.int .i64 P) ∧ wX.cell? ⟨g, k * 5 + 1, none⟩ = some (.int .i64 Q) ∧ wX.cell? ⟨g, k * 5 + 2, none⟩ = some (.int .i64 O) ∧ wX.cell? ⟨g, k * 5 + 3, none⟩ = some (.int .i64 R) ∧ wX.cell? ⟨g, k * 5 + 4, none⟩ = some (.bool G) ∧ wX.cell? ⟨h, k * 5, none⟩ = some (.int .i64 P) ∧ wX.cell? ⟨h, k * 5 + 1, none⟩ = some (.int .i64 Q) ∧ wX.cell? ⟨h, k * 5 + 2, none⟩ = some (.int .i64 O) ∧ wX.cell? ⟨h, k * 5 + 3, none⟩ = some (.int .i64 R) ∧ wX.cell? ⟨h, k * 5 + 4, none⟩ = some (.bool G)) := hidP (fun wX hX' => by
        obtain ⟨x0, x1, x2, x3, x4⟩ := HCG.out k P Q O R G hlt hX wX (HBR.out.trans (hX'.mono HBR.out.size))
        obtain ⟨y0, y1, y2, y3, y4⟩ := HCH.out k P Q O R G hlt hX wX (HBR.out.trans (hX'.mono HBR.out.size))
        exact ⟨x0, x1, x2, x3, x4, y0, y1, y2, y3, y4⟩)
      have L1 : (0 : Int) ≤ (k : Int) := by omega
      have L2 : (k : Int) < (xs.length : Int) := by omega
      have hsr := HBR.out.size
      have e0 : (P != P) = false := by simp
      have e1 : (Q != Q) = false := by simp
      have e2 : (O != O) = false := by simp
      have e3 : (R != R) = false := by simp
      have e4 : (G != G) = false := by simp
      clear hX
      go_wp2_with fail
      refine wp_region_held_drew (S := fun wX => wX.cell? ⟨g, k * 5, none⟩ = some (.int .i64 P) ∧ wX.cell? ⟨g, k * 5 + 1, none⟩ = some (.int .i64 Q) ∧ wX.cell? ⟨g, k * 5 + 2, none⟩ = some (.int .i64 O) ∧ wX.cell? ⟨g, k * 5 + 3, none⟩ = some (.int .i64 R) ∧ wX.cell? ⟨g, k * 5 + 4, none⟩ = some (.bool G) ∧ wX.cell? ⟨h, k * 5, none⟩ = some (.int .i64 P) ∧ wX.cell? ⟨h, k * 5 + 1, none⟩ = some (.int .i64 Q) ∧ wX.cell? ⟨h, k * 5 + 2, none⟩ = some (.int .i64 O) ∧ wX.cell? ⟨h, k * 5 + 3, none⟩ = some (.int .i64 R) ∧ wX.cell? ⟨h, k * 5 + 4, none⟩ = some (.bool G)) (by kernel_rfl) (HS.out _ (Below.refl _ _).drew) (fun hHeld => ?_)
      refine tk 0 ?_
      refine tk 1 ?_
      refine tk 2 ?_
      refine tk 3 ?_
      refine tk 4 ?_
      refine tk 5 ?_
      refine tk 6 ?_
      refine tk 7 ?_
      refine tk 8 ?_
      refine tk 9 ?_
      refine tk 10 ?_
      refine tk 11 ?_
      refine tk 12 ?_
      refine tk 13 ?_
      refine tk 14 ?_
      refine tk 15 ?_
      refine tk 16 ?_
      refine tk 17 ?_
      refine tk 18 ?_
      refine tk 19 ?_
      refine tk 20 ?_
      refine tk 21 ?_
      refine tk 22 ?_
      refine tk 23 ?_
      refine tk 24 ?_
      refine tk 25 ?_
      refine tk 26 ?_
      refine tk 27 ?_
      refine tk 28 ?_
      refine tk 29 ?_
      refine tk 30 ?_
      refine tk 31 ?_
      refine tk 32 ?_
      refine tk 33 ?_
      refine tk 34 ?_
      refine tk 35 ?_
      refine tk 36 ?_
      refine wpAnyH_done (by kernel_rfl) ?_ _
      clear hHeld
      go_wp2_with fail
      refine wp_region_held_drew (S := fun wX => wX.cell? ⟨g, k * 5, none⟩ = some (.int .i64 P) ∧ wX.cell? ⟨g, k * 5 + 1, none⟩ = some (.int .i64 Q) ∧ wX.cell? ⟨g, k * 5 + 2, none⟩ = some (.int .i64 O) ∧ wX.cell? ⟨g, k * 5 + 3, none⟩ = some (.int .i64 R) ∧ wX.cell? ⟨g, k * 5 + 4, none⟩ = some (.bool G) ∧ wX.cell? ⟨h, k * 5, none⟩ = some (.int .i64 P) ∧ wX.cell? ⟨h, k * 5 + 1, none⟩ = some (.int .i64 Q) ∧ wX.cell? ⟨h, k * 5 + 2, none⟩ = some (.int .i64 O) ∧ wX.cell? ⟨h, k * 5 + 3, none⟩ = some (.int .i64 R) ∧ wX.cell? ⟨h, k * 5 + 4, none⟩ = some (.bool G)) (by kernel_rfl) (HS.out _ (Below.refl _ _).drew.drew) (fun hHeld => ?_)
      refine tk 0 ?_
      refine tk 1 ?_
      refine tk 2 ?_
      refine tk 3 ?_
      refine tk 4 ?_
      refine tk 5 ?_
      refine tk 6 ?_
      refine tk 7 ?_
      refine tk 8 ?_
      refine tk 9 ?_
      refine tk 10 ?_
      refine tk 11 ?_
      refine tk 12 ?_
      refine tk 13 ?_
      refine tk 14 ?_
      refine tk 15 ?_
      refine tk 16 ?_
      refine tk 17 ?_
      refine tk 18 ?_
      refine tk 19 ?_
      refine tk 20 ?_
      refine tk 21 ?_
      refine tk 22 ?_
      refine tk 23 ?_
      refine wpAnyH_done (by kernel_rfl) ?_ _
      clear hHeld
      go_wp2_with fail
      go_roundw
      case rel => exact ⟨k + 1, by omega, by go_num, HBR.out.drew.drew⟩
      case measure => simp [intOf]; omega
    · obtain rfl : k = xs.length := by omega
      have L2 : ¬ (xs.length : Int) < (xs.length : Int) := by omega
      go_wp2_with fail
      go_ret
      exact ⟨rfl, HBR.out⟩
theorem sameHit2 (A B C D : Int) (w : World) :
    Calls Try.prog 21 #[.agg #[.int .i64 A, .int .i64 B, .int .i64 C, .int .i64 D], .agg #[.int .i64 A, .int .i64 B, .int .i64 C, .int .i64 D]] w fun e w' => e = .returned (.bool true) ∧ Below w.heap.size w w' := by
  go_enter Try.func21, Try.ntmps21
  go_wp2
  go_ret
  exact ⟨rfl, ((Below.refl _ _).alloc (Nat.le_refl _) _).alloc (by simp) _⟩
end Go.Proofs.Ytnmhkgmmpkjjeaa
