import Derived.Test.YtnmhkgmmpkjjeabLawS
namespace Go.Proofs.Ytnmhkgmmpkjjeab
open Go.ChangeShapes Go.WideShapes Go.ChangeAt Go.RowKit
set_option linter.unusedVariables false

theorem infoWord : (Try.prog.info? 84).map (fun i => (i.zero, i.size, i.bytes)) = some (some (.int .u64 0), 1, 8) := by kernel_rfl

set_option maxHeartbeats 1000000 in
theorem copyMem_any (v : Value) (zs : List Int) (b : Nat) (w : World) (hn : zs.length ≤ 1048576) (hv : ERow eWord w b v zs) :
    Calls Try.prog 136 #[.agg #[v]] w fun e w' => ∃ g c, e = .returned (.agg #[.slice (some ⟨g, 0, none⟩) zs.length c]) ∧ ERow eWord w' w.heap.size (.slice (some ⟨g, 0, none⟩) zs.length c) zs ∧ Below w.heap.size w w' := by
  obtain ⟨a, c, rfl, ha⟩ := eWord_form hv
  obtain ⟨i0, hi, hz0, hz1, hz2⟩ := info_parts infoWord
  obtain ⟨wb, hwb⟩ : ∃ wb, wb = (w.alloc (.cells #[.slice a zs.length c] 29)).alloc (.cells #[.slice none 0 0] 29) := ⟨_, rfl⟩
  have hbb : Below w.heap.size w wb := by rw [hwb]; exact ((Below.refl _ _).alloc (Nat.le_refl _) _).alloc (by simp) _
  have hzb : wb.heap.size = w.heap.size + 2 := by rw [hwb]; simp
  have q0 : wb.cell? ⟨w.heap.size, 0, none⟩ = some (.slice a zs.length c) := by rw [hwb]; simp [go_sem]
  have q1 : wb.cell? ⟨w.heap.size + 1, 0, none⟩ = some (.slice none 0 0) := by rw [hwb]; simp [go_sem]
  have f1 : wb.frozen? ⟨w.heap.size + 1, 0, none⟩ = false := by rw [hwb]; simp [go_sem]
  have he := ERow.empty eWord wb (w.heap.size + 2) (by omega)
  have HQ : Hid (wb.cell? ⟨w.heap.size, 0, none⟩ = some (.slice a zs.length c) ∧ wb.cell? ⟨w.heap.size + 1, 0, none⟩ = some (.slice none 0 0) ∧ wb.frozen? ⟨w.heap.size + 1, 0, none⟩ = false) := ⟨q0, q1, f1⟩
  have HWB : Hid (wb = _) := hwb
  have HBB : Hid (Below _ w wb) := hbb
  have HE : Hid (ERow _ _ _ _ _) := he
  have HZ : Hid (wb.heap.size = w.heap.size + 2) := hzb
  clear hwb hbb q0 q1 f1 he hzb hv
  go_enter Try.func136, Try.ntmps136
  go_wp2_with fail
  go_loopw [3, 4] (fun vv iv wr => ∃ t gv cv : Nat, t ≤ zs.length ∧ iv = .int .i64 t ∧ vv = .slice (some ⟨gv, 0, none⟩) t cv ∧ ERow eWord wr (w.heap.size + 2) (.slice (some ⟨gv, 0, none⟩) t cv) (zs.take t) ∧ Below (w.heap.size + 2) wb wr) (fun _ iv _ => zs.length - (intOf iv).toNat)
  case atStart =>
    refine ⟨0, w.heap.size + 1 + 1, 0, Nat.zero_le _, rfl, rfl, ?_, ?_⟩
    · have h := HE.out
      rw [HZ.out, HWB.out] at h
      exact h
    · rw [HWB.out]
      exact (Below.refl (w.heap.size + 2) _).alloc (by simp) _
  case round =>
    obtain ⟨t, gv, cv, ht, rfl, rfl, hrow, hb⟩ := hrel
    have hz := HZ.out
    have hsz := hb.size
    obtain ⟨q0, q1, f1⟩ := HQ.out
    by_cases hlt : t < zs.length
    · obtain ⟨g, N, f, rfl, _, hr, hN, hf⟩ := ha (by omega)
      have hb2 : Below w.heap.size w wr := HBB.out.trans (hb.mono (by omega))
      have hr1 : wr.rowIs g 84 N f := hr.of_block (hb2.block g hr.lt)
      have c1 := hr1.cell (i := t) (by omega)
      rw [hf t hlt] at c1
      have c0 := (hb.cell (p := ⟨w.heap.size, 0, none⟩) (by simp)).trans q0
      have hgl := hr1.lt
      have hec : eWord.enc (eAt eWord zs t) = [.int .u64 (zs.getD t 0)] := rfl
      generalize zs.getD t 0 = A at *
      have L1 : (0 : Int) ≤ (t : Int) := by omega
      have L2 : (t : Int) < (zs.length : Int) := by omega
      have HROW : Hid (ERow _ wr _ _ _) := hrow
      have HB : Hid (Below _ wb wr) := hb
      have HEC : Hid _ := hec
      have htl : (zs.take t).length = t := by rw [List.length_take]; omega
      have hown : wr.ownsRow (w.heap.size + 2) 84 1 (.slice (some ⟨gv, 0, none⟩) t cv) t (ecells eWord (zs.take t)) := by
        have h := hrow
        unfold ERow at h
        rw [htl] at h
        exact h
      have HOWN : Hid _ := hown
      clear hrow hb hb2 hr1 hr hf hec q0 q1 f1 htl hown ha
      go_wp2_with (at_builtin; refine wpList_append_lies _ rfl (.tmp 13) (.tmp 19) 22 rfl (w.heap.size + 2) 84 i0 _ 1 8 Try.underlying22 hi hz0 hz1 hz2 rfl (by omega) _ _ _ rfl (World.ownsRow.alloc HOWN.out _) ⟨wr.heap.size, 0, none⟩ 1 1 [.int .u64 A] rfl rfl ?c1 ?c2 (by omega) ?c3 ?c4 ?c5 (wr.heap.size + 1) ?c6 ?_)
      case c1 => exact World.news_of_block (heap_alloc_new wr (.cells #[.int .u64 A] 84))
      case c2 => intro u hu; simp at hu; subst hu; rfl
      case c3 => unfold maxLen; omega
      case c4 => omega
      case c5 => simp; omega
      case c6 => simp
      intro g1 cap1 wn hown hgrow hat hlt3
      have hnew : ERow eWord wn (w.heap.size + 2) (.slice (some ⟨g1, 0, none⟩) (t + 1) cap1) (zs.take (t + 1)) := ERow.snoc (m := t + 1) hlt rfl (by rw [HEC.out]; exact hown)
      have hbn : Below (w.heap.size + 2) wb wn := ((HB.out.alloc (by omega) _).grown hgrow (by simp; omega) (fun q hq => (HROW.out.own q hq).1))
      clear hown hgrow hat c1 c0
      go_wp2_with fail
      go_roundw
      case rel => exact ⟨t + 1, g1, cap1, by omega, by go_num, rfl, hnew, hbn⟩
      case measure => simp [intOf]; omega
    · have e : t = zs.length := by omega
      subst e
      rw [List.take_length] at hrow
      have c0 := (hb.cell (p := ⟨w.heap.size, 0, none⟩) (by simp)).trans q0
      have c1 := (hb.cell (p := ⟨w.heap.size + 1, 0, none⟩) (by simp)).trans q1
      have f1' := (hb.frozen (p := ⟨w.heap.size + 1, 0, none⟩) (by simp)).trans f1
      have hown := hrow.own gv rfl
      have HROW : Hid (ERow _ wr _ _ _) := hrow
      have HB : Hid (Below _ wb wr) := hb
      clear hrow hb ha
      go_wp2_with fail
      refine bodyPost_ret (v := .agg #[.slice (some ⟨gv, 0, none⟩) zs.length cv]) (by simp [results, Try.results136, go_sem, c1]) rfl ⟨gv, cv, rfl, ?_, ?_⟩
      · have T : Touch (fun k => k = w.heap.size + 1) wr (wr.setCell ⟨w.heap.size + 1, 0, none⟩ (.slice (some ⟨gv, 0, none⟩) zs.length cv)) := ⟨rfl, rfl, rfl, by simp, fun k hk hn => Below.heap_setCell _ _ _ _ hn⟩
        refine ERow.rebase (HROW.out.touch T ?_) (by omega : w.heap.size ≤ w.heap.size + 2)
        intro k hk hx
        simp [Value.ownBlock] at hk
        omega
      · exact HBB.out.trans ((HB.out.mono (by omega)).setCell (by simp) _)
end Go.Proofs.Ytnmhkgmmpkjjeab
