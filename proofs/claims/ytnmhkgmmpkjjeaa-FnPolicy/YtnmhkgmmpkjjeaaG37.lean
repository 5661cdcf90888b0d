import Derived.Test.YtnmhkgmmpkjjeaaRows
import Derived.Shelf.SlLaysF0
import Derived.Test.YtnmhkgmmpkjjeaaG36
import Derived.Shelf.SlSortCmp.WholeK
namespace Go.Proofs.Ytnmhkgmmpkjjeaa
open Go.Shelf
set_option linter.unusedVariables false
set_option maxRecDepth 100000

/-! slices.SortFunc at Span, by the library's contracts: its bodies are the shelf's. -/
def laysS_ren : Go.Shelf.Ren := ⟨fun | 6 => 128 | 14 => 158 | 15 => 159 | 20 => 176 | 21 => 177 | 22 => 178 | 23 => 179 | 24 => 180 | 25 => 181 | 26 => 182 | 27 => 183 | 28 => 184 | 29 => 185 | 46 => 202 | 47 => 203 | 48 => 204 | 49 => 205 | 50 => 206 | 57 => 210 | n => n, fun | 0 => 0 | 3 => 3 | 4 => 4 | 5 => 5 | 9 => 9 | 22 => 47 | 24 => 125 | 25 => 191 | 39 => 158 | 45 => 239 | 46 => 240 | 50 => 244 | 53 => 247 | 55 => 61 | 66 => 261 | 70 => 265 | 76 => 269 | 77 => 81 | n => n, fun | n => n⟩
theorem laysS : Go.Proofs.SlLaysF0.n6 Try.prog laysS_ren := {
  mixed := by kernel_rfl
  f6 := ⟨Try.f128.name, by decide, Try.func128.trans (congrArg some (by kernel_rfl))⟩
  f14 := ⟨Try.f158.name, by decide, Try.func158.trans (congrArg some (by kernel_rfl))⟩
  f15 := Try.func159.trans (congrArg some (by kernel_rfl))
  f20 := ⟨Try.f176.name, by decide, Try.func176.trans (congrArg some (by kernel_rfl))⟩
  f21 := ⟨Try.f177.name, by decide, Try.func177.trans (congrArg some (by kernel_rfl))⟩
  f22 := ⟨Try.f178.name, by decide, Try.func178.trans (congrArg some (by kernel_rfl))⟩
  f23 := ⟨Try.f179.name, by decide, Try.func179.trans (congrArg some (by kernel_rfl))⟩
  f24 := ⟨Try.f180.name, by decide, Try.func180.trans (congrArg some (by kernel_rfl))⟩
  f25 := ⟨Try.f181.name, by decide, Try.func181.trans (congrArg some (by kernel_rfl))⟩
  f26 := ⟨Try.f182.name, by decide, Try.func182.trans (congrArg some (by kernel_rfl))⟩
  f27 := ⟨Try.f183.name, by decide, Try.func183.trans (congrArg some (by kernel_rfl))⟩
  f28 := Try.func184.trans (congrArg some (by kernel_rfl))
  f29 := Try.func185.trans (congrArg some (by kernel_rfl))
  f46 := ⟨Try.f202.name, by decide, Try.func202.trans (congrArg some (by kernel_rfl))⟩
  f47 := Try.func203.trans (congrArg some (by kernel_rfl))
  f48 := Try.func204.trans (congrArg some (by kernel_rfl))
  f49 := ⟨Try.f205.name, by decide, Try.func205.trans (congrArg some (by kernel_rfl))⟩
  f50 := ⟨Try.f206.name, by decide, Try.func206.trans (congrArg some (by kernel_rfl))⟩
  f57 := ⟨Try.f210.name, by decide, Try.func210.trans (congrArg some (by kernel_rfl))⟩
  t0 := Try.underlying0
  a0 := Try.isAgg0
  z0 := Try.sizeOf0
  v0 := Try.zeroValue0
  t3 := Try.underlying3
  a3 := Try.isAgg3
  z3 := Try.sizeOf3
  v3 := Try.zeroValue3
  t4 := Try.underlying4
  a4 := Try.isAgg4
  z4 := Try.sizeOf4
  v4 := Try.zeroValue4
  t5 := Try.underlying5
  a5 := Try.isAgg5
  z5 := Try.sizeOf5
  v5 := Try.zeroValue5
  t9 := Try.underlying9
  a9 := Try.isAgg9
  z9 := Try.sizeOf9
  v9 := Try.zeroValue9
  t22 := Try.underlying47
  a22 := Try.isAgg47
  z22 := Try.sizeOf47
  v22 := Try.zeroValue47
  t25 := Try.underlying191
  a25 := Try.isAgg191
  z25 := Try.sizeOf191
  v25 := Try.zeroValue191
  t39 := Try.underlying158
  a39 := Try.isAgg158
  z39 := Try.sizeOf158
  v39 := Try.zeroValue158
  t45 := Try.underlying239
  a45 := Try.isAgg239
  z45 := Try.sizeOf239
  v45 := Try.zeroValue239
  t46 := Try.underlying240
  a46 := Try.isAgg240
  z46 := Try.sizeOf240
  v46 := Try.zeroValue240
  t50 := Try.underlying244
  a50 := Try.isAgg244
  z50 := Try.sizeOf244
  v50 := Try.zeroValue244
  t53 := Try.underlying247
  a53 := Try.isAgg247
  z53 := Try.sizeOf247
  v53 := Try.zeroValue247
  t55 := Try.underlying61
  a55 := Try.isAgg61
  z55 := Try.sizeOf61
  v55 := Try.zeroValue61
  t66 := Try.underlying261
  a66 := Try.isAgg261
  z66 := Try.sizeOf261
  v66 := Try.zeroValue261
  t70 := Try.underlying265
  a70 := Try.isAgg265
  z70 := Try.sizeOf265
  v70 := Try.zeroValue265
  t76 := Try.underlying269
  a76 := Try.isAgg269
  z76 := Try.sizeOf269
  v76 := Try.zeroValue269
  t77 := Try.underlying81
  a77 := Try.isAgg81
  z77 := Try.sizeOf81
  v77 := Try.zeroValue81 }
end Go.Proofs.Ytnmhkgmmpkjjeaa
namespace Go.Proofs.Ytnmhkgmmpkjjeaa
open Go.ChangeShapes Go.WideShapes Go.ChangeAt Go.RowKit
set_option linter.unusedVariables false
set_option linter.unusedSimpArgs false
set_option maxRecDepth 100000
attribute [local go_sem ↓] Go.wp_at_zero Go.wp_at_succ

/-! The sort of the regions by their first page. -/
def cmpI (x y : Int) : Int := if x < y then -1 else if y < x then 1 else 0
theorem isNaNR_any (x : Int) (w : World) : Calls Try.prog 160 #[.int .i64 x] w fun e w' => e = .returned (.bool false) ∧ w' = w := by
  have h : (x != x) = false := by simp
  go_enter Try.func160, Try.ntmps160
  go_wp2_with fail
  go_ret
  exact ⟨rfl, rfl⟩
theorem cmp_any (x y : Int) (w : World) : Calls Try.prog 130 #[.int .i64 x, .int .i64 y] w fun e w' => e = .returned (.int .i64 (cmpI x y)) ∧ w' = w := by
  have t1 := hidP (isNaNR_any x w)
  have t2 := hidP (isNaNR_any y w)
  by_cases h1 : x < y
  · have HR : Hid (cmpI x y = -1) := hidP (by unfold cmpI; rw [if_pos h1])
    go_enter Try.func130, Try.ntmps130
    go_wp2_with fail
    refine t1.out.mono ?_
    rintro e w1 ⟨rfl, ew⟩
    obtain rfl : w = w1 := ew.symm
    go_wp2_with fail
    refine t2.out.mono ?_
    rintro e w1 ⟨rfl, ew⟩
    obtain rfl : w = w1 := ew.symm
    go_wp2_with fail
    go_ret
    exact ⟨by rw [HR.out]; rfl, rfl⟩
  · by_cases h2 : y < x
    · have HR : Hid (cmpI x y = 1) := hidP (by unfold cmpI; rw [if_neg h1, if_pos h2])
      go_enter Try.func130, Try.ntmps130
      go_wp2_with fail
      refine t1.out.mono ?_
      rintro e w1 ⟨rfl, ew⟩
      obtain rfl : w = w1 := ew.symm
      go_wp2_with fail
      refine t2.out.mono ?_
      rintro e w1 ⟨rfl, ew⟩
      obtain rfl : w = w1 := ew.symm
      go_wp2_with fail
      go_ret
      exact ⟨by rw [HR.out]; rfl, rfl⟩
    · have HR : Hid (cmpI x y = 0) := hidP (by unfold cmpI; rw [if_neg h1, if_neg h2])
      go_enter Try.func130, Try.ntmps130
      go_wp2_with fail
      refine t1.out.mono ?_
      rintro e w1 ⟨rfl, ew⟩
      obtain rfl : w = w1 := ew.symm
      go_wp2_with fail
      refine t2.out.mono ?_
      rintro e w1 ⟨rfl, ew⟩
      obtain rfl : w = w1 := ew.symm
      go_wp2_with fail
      go_ret
      exact ⟨by rw [HR.out]; rfl, rfl⟩
open Go.Shelf Go.Lib Go.Sort in
theorem byPage_any (x y : SpanE) (W : World) : Calls Try.prog 129 #[.agg (eSpan.enc x).toArray, .agg (eSpan.enc y).toArray] W fun e w' => e = .returned (.int .i64 (cmpI x.page y.page)) ∧ ∃ q os', w' = grow (W.drewN q) os' := by
  have t1 := hidP (fun w => cmp_any x.page y.page w)
  obtain ⟨a0, a1, a2, a3, a4⟩ := x
  obtain ⟨b0, b1, b2, b3, b4⟩ := y
  dsimp only [eSpan] at t1 ⊢
  generalize cmpI a0 b0 = r at *
  go_enter Try.func129, Try.ntmps129
  go_wp2_with fail
  refine (t1.out _).mono ?_
  rintro e w1 ⟨rfl, rfl⟩
  go_wp2_with fail
  go_ret
  exact ⟨rfl, 0, _, by rw [alloc_eq_grow, alloc_eq_grow, grow_grow]; rfl⟩
theorem lt_page (x y : SpanE) : ltOf (fun x y : SpanE => cmpI x.page y.page) x y = decide (x.page < y.page) := by
  unfold ltOf cmpI
  by_cases h1 : x.page < y.page
  · simp [h1]
  · by_cases h2 : y.page < x.page <;> simp [h1, h2]
open Go.Shelf Go.Lib Go.Sort in
theorem swo_page : SWO (ltOf fun x y : SpanE => cmpI x.page y.page) where
  irrefl x := by rw [lt_page]; simp
  trans x y z h1 h2 := by rw [lt_page] at *; simp at *; omega
  ntrans x y z h1 h2 := by rw [lt_page] at *; simp at *; omega
theorem at_bang [Inhabited SpanE] (rs : List SpanE) (i : Nat) (h : i < rs.length) : (rs.toArray[i]!) = eAt eSpan rs i := by
  unfold eAt
  rw [List.getD_eq_getElem?_getD, List.getElem?_eq_getElem h]
  simp [h]
open Go.Shelf Go.Lib Go.Sort in
theorem holds_row [Inhabited SpanE] {w : World} {B g cap : Nat} {rs : List SpanE} (h : ERow eSpan w B (.slice (some ⟨g, 0, none⟩) rs.length cap) rs) : HoldsK eSpan.enc 5 w g 0 rs.toArray := by
  rcases h.2 with ⟨e, _⟩ | ⟨g', cap', cur, e, hb, hg, hn, hm, hs, ht⟩
  · cases e
  · simp only [Value.slice.injEq, Option.some.injEq, Addr.mk.injEq, and_true, true_and] at e
    obtain ⟨rfl, rfl⟩ := e
    have hr : w.rowIs g 125 cur.size (fun i => cur.getD i (.bool false)) := ⟨cur, hg, rfl, fun i hi => by simp [hi]⟩
    intro j hj
    have hj' : j < rs.length * 5 := by simpa using hj
    have hs' : cur.size = cap * 5 := hs
    have hjc : j < cur.size := by rw [hs']; exact Nat.lt_of_lt_of_le hj' (Nat.mul_le_mul_right 5 hn)
    have hd : j / 5 < rs.length := by omega
    rw [Nat.zero_add]
    refine ⟨?_, hr.frozen j⟩
    rw [hr.cell hjc, get_flatK _ _ _ j (by simpa using hj'), at_bang rs _ hd]
    have hu := ecells_at eSpan rs (j / 5) hd (j % 5) (by show j % 5 < 5; omega)
    have e5 : j / 5 * eSpan.sz + j % 5 = j := by show j / 5 * 5 + j % 5 = j; omega
    rw [e5, ← ht, List.getElem?_take, if_pos (by show j < rs.length * 5; exact hj')] at hu
    simp only [Array.getElem?_toList] at hu
    have hl : j % 5 < (eSpan.enc (eAt eSpan rs (j / 5))).length := by rw [eSpan.len]; show j % 5 < 5; omega
    rw [List.getElem?_eq_getElem hl] at hu
    show some (cur.getD j (.bool false)) = some (id ((eSpan.enc (eAt eSpan rs (j / 5)))[j % 5]!))
    rw [getElem!_pos (eSpan.enc (eAt eSpan rs (j / 5))) (j % 5) hl]
    simp [Array.getD_eq_getD_getElem?, hu]
open Go.Shelf Go.Lib Go.Sort in
theorem sorted_row [Inhabited SpanE] {w : World} {B g cap n : Nat} {rs : List SpanE} {d' : Array SpanE} {os : Array Obj} (h : ERow eSpan w B (.slice (some ⟨g, 0, none⟩) rs.length cap) rs) (hz : d'.size = rs.length) :
    ERow eSpan (sortWorldK eSpan.enc 5 w g 0 n d' os) B (.slice (some ⟨g, 0, none⟩) rs.length cap) d'.toList ∧ Touch (fun k => oP (some ⟨g, 0, none⟩) = some k) w (sortWorldK eSpan.enc 5 w g 0 n d' os) := by
  rcases h.2 with ⟨e, _⟩ | ⟨g', cap', cur, e, hb, hg, hn, hm, hs, ht⟩
  · cases e
  · simp only [Value.slice.injEq, Option.some.injEq, Addr.mk.injEq, and_true, true_and] at e
    obtain ⟨rfl, rfl⟩ := e
    have hlt : g < w.heap.size := (Array.getElem?_eq_some_iff.1 hg).1
    have hsz : (w.heap.modify g (onCells (putCells id 0 (flatK eSpan.enc 5 d')))).size = w.heap.size := by simp
    have hblk : (sortWorldK eSpan.enc 5 w g 0 n d' os).heap[g]? = some (.cells (putCells id 0 (flatK eSpan.enc 5 d') cur) 125) := by
      show (w.heap.modify g (onCells (putCells id 0 (flatK eSpan.enc 5 d'))) ++ os)[g]? = _
      rw [Array.getElem?_append, if_pos (by rw [hsz]; exact hlt), Array.getElem?_modify, if_pos rfl, hg]
      rfl
    have hs' : cur.size = cap * 5 := hs
    have hpz : (putCells id 0 (flatK eSpan.enc 5 d') cur).size = cap * 5 := by unfold putCells; rw [Array.size_mapIdx]; exact hs'
    refine ⟨?_, rfl, rfl, rfl, ?_, fun k hk hne => ?_⟩
    · refine ERow.of_row (cap := cap) (N := cap * 5) (f := fun i => (putCells id 0 (flatK eSpan.enc 5 d') cur).getD i (.bool false)) (by simp [hz]) hb ⟨_, hblk, hpz, fun i hi => by rw [← hpz] at hi; simp [hi]⟩ rfl hn hm ?_
      intro i hi j hj
      have hj5 : j < 5 := hj
      have hd : i < d'.size := by omega
      have hk : i * 5 + j < d'.size * 5 := by omega
      have hkc : i * 5 + j < cur.size := by rw [hs']; have := Nat.mul_le_mul_right 5 hn; omega
      show (putCells id 0 (flatK eSpan.enc 5 d') cur).getD (i * 5 + j) (.bool false) = _
      have hp : (putCells id 0 (flatK eSpan.enc 5 d') cur)[i * 5 + j]? = some ((eSpan.enc d'[i]!)[j]!) := by
        unfold putCells
        rw [Array.getElem?_mapIdx, Array.getElem?_eq_getElem hkc]
        simp only [Option.map_some]
        rw [if_pos ⟨Nat.zero_le _, by simpa using hk⟩]
        show some (id (flatK eSpan.enc 5 d')[i * 5 + j - 0]!) = _
        rw [Nat.sub_zero, get_flatK _ _ _ _ hk, show (i * 5 + j) / 5 = i by omega, show (i * 5 + j) % 5 = j by omega]
        rfl
      rw [Array.getD_eq_getD_getElem?, hp]
      unfold eCell
      have hl : j < (eSpan.enc (eAt eSpan d'.toList i)).length := by rw [eSpan.len]; exact hj
      rw [List.getElem?_eq_getElem hl]
      have e1 : (d'[i]!) = eAt eSpan d'.toList i := by
        have := at_bang d'.toList i (by simpa using hd)
        simpa using this
      rw [e1, getElem!_pos (eSpan.enc (eAt eSpan d'.toList i)) j hl]
    · show w.heap.size ≤ (w.heap.modify g (onCells (putCells id 0 (flatK eSpan.enc 5 d'))) ++ os).size
      simp
    · show (w.heap.modify g (onCells (putCells id 0 (flatK eSpan.enc 5 d'))) ++ os)[k]? = _
      rw [Array.getElem?_append, if_pos (by rw [hsz]; exact hk), Array.getElem?_modify, if_neg (fun e => hne (by rw [e]; rfl))]
theorem insNone_any (a : Option Addr) (cap : Nat) (fv : Value) (w : World) : Calls Try.prog 176 #[.slice a 0 cap, .int .i64 0, .int .i64 0, fv] w fun e w' => e = .returned (.tuple #[]) ∧ w' = w := by
  go_enter Try.func176, Try.ntmps176
  go_wp2_with fail
  go_loopw [8] (fun iv wr => iv = .int .i64 1 ∧ wr = w) (fun _ _ => 0)
  case atStart => exact ⟨rfl, rfl⟩
  case round =>
    obtain ⟨rfl, rfl⟩ := hrel
    go_wp2_with fail
    refine bodyPost_end (v := .tuple #[]) (by simp [results, Try.results176, go_sem]) rfl ⟨rfl, rfl⟩
theorem pdqNone_any (a : Option Addr) (cap : Nat) (lim : Int) (fv : Value) (w : World) : Calls Try.prog 158 #[.slice a 0 cap, .int .i64 0, .int .i64 0, .int .i64 lim, fv] w fun e w' => e = .returned (.tuple #[]) ∧ w' = w := by
  have t1 := hidP (insNone_any a cap fv w)
  refine calls_o 148 Try.func158 rfl (by rfl) (by simp) ?_
  intro tm hsz hla
  have s0 := hla 0 (by simp)
  have s1 := hla 1 (by simp)
  have s2 := hla 2 (by simp)
  have s3 := hla 3 (by simp)
  have s4 := hla 4 (by simp)
  clear hla
  simp only [List.getElem_toArray, List.getElem_cons_zero, List.getElem_cons_succ] at s0 s1 s2 s3 s4
  go_wp2_with fail
  refine wp_loop_o 148 (fun j tm wr => Fs tm [(0, .slice a 0 cap), (1, .int .i64 0), (2, .int .i64 0), (3, .int .i64 lim), (4, fv)] ∧ wr = w) 0 (by simp [hsz]) ⟨by simp only [Fs]; and_intros <;> simp [hsz, s0, s1, s2, s3, s4], rfl⟩ ?_
  clear s0 s1 s2 s3 s4 hsz
  clear tm
  intro j tm wr J K hsz hI hJ hK
  obtain ⟨hs, hw⟩ := hI
  obtain rfl : w = wr := hw.symm
  simp only [Fs] at hs
  obtain ⟨s0, s1, s2, s3, s4, -⟩ := hs
  go_upto_if 25 with fail
  refine wp_cond_true (by go_simp) ?_
  go_wp2_with fail
  refine t1.out.mono ?_
  rintro e w1 ⟨rfl, ew⟩
  obtain rfl : w = w1 := ew.symm
  go_wp2_with fail
  first
    | exact bodyPost_ret (v := .tuple #[]) (by simp [results, Try.results158, go_sem, hsz]) rfl ⟨rfl, rfl⟩
    | exact bodyPost_end (v := .tuple #[]) (by simp [results, Try.results158, go_sem, hsz]) rfl ⟨rfl, rfl⟩
theorem len0_any (w : World) : Calls Try.prog 159 #[.int .u64 0] w fun e w' => ∃ lim : Int, e = .returned (.int .i64 lim) ∧ w' = w := by
  go_enter Try.func159, Try.ntmps159
  go_wp2
  go_ret
  exact ⟨_, rfl, rfl⟩
theorem sortNone_any (a : Option Addr) (cap : Nat) (w : World) : Calls Try.prog 128 #[.slice a 0 cap, .func (.func 129) #[] #[]] w fun e w' => e = .returned (.tuple #[]) ∧ w' = w := by
  have t1 := hidP (fun lim => pdqNone_any a cap lim (.func (.func 129) #[] #[]) w)
  go_enter Try.func128, Try.ntmps128
  go_wp2_with fail
  refine (len0_any w).mono ?_
  rintro e w1 ⟨lim, rfl, ew⟩
  obtain rfl : w = w1 := ew.symm
  go_wp2_with fail
  refine (t1.out lim).mono ?_
  rintro e w1 ⟨rfl, ew⟩
  obtain rfl : w = w1 := ew.symm
  go_wp2_with fail
  refine bodyPost_end (v := .tuple #[]) (by simp [results, Try.results128, go_sem]) rfl ⟨rfl, rfl⟩
open Go.Shelf Go.Lib Go.Sort in
theorem sortSpans_any (a : Option Addr) (cap B : Nat) (rs : List SpanE) (w : World) (h : ERow eSpan w B (.slice a rs.length cap) rs) (hl : rs.length ≤ 1000) :
    Calls Try.prog 128 #[.slice a rs.length cap, .func (.func 129) #[] #[]] w fun e w' => e = .returned (.tuple #[]) ∧ ∃ rs' : List SpanE, rs'.length = rs.length ∧ rs'.Perm rs ∧ rs'.Pairwise (fun x y => x.page ≤ y.page) ∧ ERow eSpan w' B (.slice a rs.length cap) rs' ∧ Touch (fun k => oP a = some k) w w' := by
  have hin : Inhabited SpanE := ⟨⟨0, 0, 0, 0, false⟩⟩
  by_cases h0 : rs.length = 0
  · obtain rfl := List.length_eq_zero_iff.1 h0
    refine (sortNone_any a cap w).mono ?_
    rintro e w1 ⟨rfl, rfl⟩
    exact ⟨rfl, [], rfl, List.Perm.refl _, List.Pairwise.nil, h, Touch.of_below (Below.refl _ _)⟩
  · obtain ⟨a', c', e, hf⟩ := h.form
    simp only [Value.slice.injEq] at e
    obtain ⟨g, N, f, hag, _, hr, _⟩ := hf (by omega)
    obtain rfl : a = some ⟨g, 0, none⟩ := e.1.trans hag
    have hH := holds_row h
    have hsz : rs.toArray.size = rs.length := by simp
    have eg : ∀ args w, (callFunc 129 args).run Try.prog w = .ok (.enter 129 args) w := enters_of Try.func129 (by kernel_rfl) rfl
    have hcon := AnyQ.slices_SortFunc laysS 5 Try.isAgg125 Try.sizeOf125 eSpan.enc (fun x => rfl) (fun x v hv => by simp [eSpan] at hv; rcases hv with rfl | rfl | rfl | rfl | rfl <;> rfl) (fun x y => cmpI x.page y.page) swo_page 129 #[] g 0 cap rs.toArray w eg (fun _ _ _ _ x y => byPage_any x y _) hH hr.lt (by rw [hsz]; omega)
    rw [hsz] at hcon
    change Calls Try.prog 128 _ _ _ at hcon
    refine hcon.mono ?_
    rintro e w1 ⟨rfl, d', n, os, hp, hso, rfl⟩
    have hdz : d'.size = rs.length := by rw [hp.1, hsz]
    obtain ⟨r1, r2⟩ := sorted_row (n := n) (os := os) h hdz
    refine ⟨rfl, d'.toList, by simpa using hdz, ?_, ?_, r1, r2⟩
    · have := hp.2.2
      rw [← hdz, Array.extract_size, hdz, ← hsz, Array.extract_size] at this
      simpa using this
    · rw [List.pairwise_iff_getElem]
      intro i j hi hj hij
      have := hso i j (Nat.zero_le _) hij (by simpa [hdz] using hj)
      rw [lt_page] at this
      have hi' : i < d'.size := by simpa using hi
      have hj' : j < d'.size := by simpa using hj
      rw [getElem!_pos d' i hi', getElem!_pos d' j hj'] at this
      simp at this
      simpa using this
end Go.Proofs.Ytnmhkgmmpkjjeaa
