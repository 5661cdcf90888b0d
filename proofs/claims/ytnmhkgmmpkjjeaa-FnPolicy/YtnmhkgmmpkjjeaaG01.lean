import Derived.Test.YtnmhkgmmpkjjeaaRows
import Derived.Test.YtnmhkgmmpkjjeaaG00
import Derived.WalkKit
import Derived.ProofKit
import Derived.Laws.Concat
import Derived.Laws.DeepStrings4
namespace Go.Proofs.Ytnmhkgmmpkjjeaa
open Go.ChangeShapes Go.WideShapes Go.ChangeAt Go.RowKit
set_option linter.unusedVariables false
set_option maxRecDepth 100000
theorem hidP {p : Prop} (h : p) : Hid p := h
theorem erow_push {α : Type} {E : Elt α} {w : World} {B n : Nat} {v : Value} {xs : List α} {x : α} (hn : xs.length = n) (h : w.ownsRow B E.T E.sz v (n + 1) (ecells E xs ++ E.enc x)) : ERow E w B v (xs ++ [x]) := by
  unfold ERow
  rw [ecells_append, List.length_append, List.length_singleton, hn]
  have e : ecells E [x] = E.enc x := by simp [ecells]
  rw [e]
  exact h
/-- A list in the making: owned from w's end on. -/
structure LS {α : Type} (E : Elt α) (w : World) (wr : World) (vv : Value) (l : List α) : Prop where
  row : ∃ g c : Nat, vv = .slice (some ⟨g, 0, none⟩) l.length c ∧ ERow E wr w.heap.size (.slice (some ⟨g, 0, none⟩) l.length c) l
  bel : Below w.heap.size w wr
theorem LS.below {α : Type} {E : Elt α} {w wr w1 : World} {vv : Value} {l : List α} (h : LS E w wr vv l) (hb : Below wr.heap.size wr w1) : LS E w w1 vv l := by
  obtain ⟨⟨g, c, e, hr⟩, hbel⟩ := h
  exact ⟨⟨g, c, e, hr.below hb⟩, hbel.trans (hb.mono hbel.size)⟩
theorem LS.push {α : Type} {E : Elt α} {w w1 wn : World} {g c g1 c1 : Nat} {l : List α} {x : α} {o : Obj} (hbel : Below w.heap.size w w1) (hr : ERow E w1 w.heap.size (.slice (some ⟨g, 0, none⟩) l.length c) l) (hown : wn.ownsRow w.heap.size E.T E.sz (.slice (some ⟨g1, 0, none⟩) (l.length + 1) c1) (l.length + 1) (ecells E l ++ E.enc x)) (hgrow : (w1.alloc o).grownBy wn (Value.ownBlock (.slice (some ⟨g, 0, none⟩) l.length c))) :
    LS E w wn (.slice (some ⟨g1, 0, none⟩) (l.length + 1) c1) (l ++ [x]) := by
  refine ⟨⟨g1, c1, by simp, ?_⟩, ?_⟩
  · have := erow_push rfl hown
    rw [List.length_append, List.length_singleton]
    exact this
  · exact (hbel.alloc hbel.size _).grown hgrow (by have := hbel.size; simp; omega) (fun q hq => (hr.own q hq).1)
theorem LS.new {α : Type} (E : Elt α) (w : World) : LS E w (w.alloc (.cells #[] E.T)) (.slice (some ⟨w.heap.size, 0, none⟩) 0 0) [] := ⟨⟨w.heap.size, 0, rfl, ERow.empty E w w.heap.size (Nat.le_refl _)⟩, bal⟩

end Go.Proofs.Ytnmhkgmmpkjjeaa
namespace Go.Proofs.Ytnmhkgmmpkjjeaa
set_option linter.unusedVariables false

/-! Texts as lists of bytes. -/
abbrev Txt := List UInt8
def bs (l : Txt) : ByteArray := ⟨l.toArray⟩
theorem bs_size (l : Txt) : (bs l).size = l.length := by show l.toArray.size = _; simp
theorem bs_get (l : Txt) (i : Nat) (h : i < (bs l).size) : (bs l)[i]'h = l.getD i 0 := by
  have hl : i < l.length := by rw [← bs_size]; exact h
  simp only [List.getD, List.getElem?_eq_getElem hl, Option.getD_some]
  rfl
theorem bs_app (a b : Txt) : bs a ++ bs b = bs (a ++ b) := by unfold bs; rw [ByteArray.mk_append_mk]
theorem bs_mk (a : Array UInt8) : ByteArray.mk a = bs a.toList := rfl
def cutL (l : Txt) (i j : Nat) : Txt := (l.take j).drop i
theorem bs_cut (l : Txt) (i j : Nat) : (bs l).extract i j = bs (cutL l i j) := by
  unfold bs cutL
  rw [ByteArray.extract_mk]
  congr 1
  simp [List.drop_take]
theorem bs_list (l : Txt) : (bs l).toList = l := by
  rw [ByteArray.toList_eq]; rfl
theorem bs_of (s : ByteArray) : ∃ l, s = bs l := ⟨s.data.toList, rfl⟩
theorem bs_inj {a b : Txt} (h : bs a = bs b) : a = b := by rw [← bs_list a, h, bs_list]

/-! Bytes. -/
def isLow (c : UInt8) : Bool := decide (97 ≤ c.toNat) && decide (c.toNat ≤ 122)
def isDig (c : UInt8) : Bool := decide (48 ≤ c.toNat) && decide (c.toNat ≤ 57)
def isWd (c : UInt8) : Bool := isLow c || isDig c || decide (c.toNat = 95)
def okB (c : UInt8) : Bool := isWd c || decide (c.toNat = 32) || decide (c.toNat = 10) || decide (c.toNat = 59)

/-- Comments turned into blanks. -/
def insN (b : Bool) (c : UInt8) : Bool := (b || decide (c.toNat = 35)) && !decide (c.toNat = 10)
def blankL : Bool → Txt → Txt
  | _, [] => []
  | b, c :: r => (if insN b c then 32 else c) :: blankL (insN b c) r
/-- The first bad byte. -/
def badL : Nat → Txt → Int
  | _, [] => -1
  | k, c :: r => if okB c then badL (k + 1) r else k
/-- The words and semicolons. -/
def flush (w : Txt) : List Txt := if w = [] then [] else [w]
def tokL : Txt → Txt → List Txt
  | w, [] => flush w
  | w, c :: r => if isWd c then tokL (w ++ [c]) r else flush w ++ ((if decide (c.toNat = 59) then [[59]] else []) ++ tokL [] r)

theorem drop_at {l : Txt} {k : Nat} (h : k < l.length) : l.drop k = l.getD k 0 :: l.drop (k + 1) := by
  rw [List.drop_eq_getElem_cons h]
  simp [List.getD, List.getElem?_eq_getElem h]
theorem cut_one {l : Txt} {k : Nat} (h : k < l.length) : cutL l k (k + 1) = [l.getD k 0] := by
  unfold cutL
  rw [List.drop_take, show k + 1 - k = 1 by omega, drop_at h]
  rfl
/-- A byte of a text. -/
def cAt (l : Txt) (k : Nat) : UInt8 := l.getD k 0
theorem drop_cAt {l : Txt} {k : Nat} (h : k < l.length) : l.drop k = cAt l k :: l.drop (k + 1) := drop_at h
theorem cut_cAt {l : Txt} {k : Nat} (h : k < l.length) : cutL l k (k + 1) = [cAt l k] := cut_one h
theorem bs_cAt (l : Txt) (i : Nat) (h : i < (bs l).size) : (bs l)[i]'h = cAt l i := bs_get l i h
theorem u8_eq (c : UInt8) (n : Nat) : ((c.toNat : Int) == (n : Int)) = decide (c.toNat = n) := by
  rw [Bool.eq_iff_iff]; simp; omega
end Go.Proofs.Ytnmhkgmmpkjjeaa
namespace Go.Proofs.Ytnmhkgmmpkjjeaa
open Go.ChangeShapes Go.WideShapes Go.ChangeAt Go.RowKit
set_option linter.unusedVariables false
set_option maxRecDepth 100000
/-- A token: one cell. -/
def eTok : Elt Txt := ⟨109, 1, fun x => [.string (bs x)], [], by omega, fun _ => rfl⟩
theorem infoTok : (Try.prog.info? 109).map (fun i => (i.zero, i.size, i.bytes)) = some (some (.agg #[.string (bs [])]), 1, 16) := by kernel_rfl
theorem eTok_cells {w : World} {b g c : Nat} {xs : List Txt} (h : ERow eTok w b (.slice (some ⟨g, 0, none⟩) xs.length c) xs) (i : Nat) (hi : i < xs.length) : g < w.heap.size ∧ w.cell? ⟨g, i, none⟩ = some (.string (bs (eAt eTok xs i))) := by
  obtain ⟨a, c', e, h1⟩ := h.form
  obtain ⟨g', N, f, e2, _, hr, hN, hf⟩ := h1 (by omega)
  have hN' : xs.length * 1 ≤ N := hN
  simp only [Value.slice.injEq] at e
  obtain ⟨e, _, _⟩ := e
  rw [e2] at e
  simp only [Option.some.injEq, Addr.mk.injEq, and_true] at e
  subst e
  refine ⟨hr.lt, ?_⟩
  have h0 := hf i hi 0 (by decide)
  have h1 : i * eTok.sz + 0 = i := by show i * 1 + 0 = i; omega
  rw [h1] at h0
  rw [hr.cell (i := i) (by omega), h0]
  rfl
end Go.Proofs.Ytnmhkgmmpkjjeaa
namespace Go.Proofs.Ytnmhkgmmpkjjeaa
open Go.ChangeShapes Go.WideShapes Go.ChangeAt Go.RowKit
set_option linter.unusedVariables false
set_option maxRecDepth 100000
attribute [local go_sem ↓] Go.wp_at_zero Go.wp_at_succ
attribute [local go_sem] bs_size bs_cAt bs_app bs_mk bs_cut bs_list

theorem l4WordByte_any (c : UInt8) (w : World) : Calls Try.prog 117 #[.int .u8 c.toNat] w fun e w' => e = .returned (.bool (isWd c)) ∧ w' = w := by
  unfold isWd isLow isDig
  obtain ⟨n, hn⟩ : ∃ n : Nat, c.toNat = n := ⟨_, rfl⟩
  rw [hn]
  clear hn
  go_enter Try.func117, Try.ntmps117
  go_wp2
  all_goals
    go_ret
    refine ⟨congrArg (fun b => Ending.returned (Value.bool b)) ?_, rfl⟩
    rw [Bool.eq_iff_iff]
    simp
    omega

theorem l4Blank_any (l : Txt) (w : World) (hle : l.length ≤ 20000) : Calls Try.prog 57 #[.string (bs l)] w fun e w' => e = .returned (.string (bs (blankL false l))) ∧ w' = w := by
  go_enter Try.func57, Try.ntmps57
  go_wp2_with fail
  go_loopw [3, 4, 5] (fun ov bv iv wr => ∃ (k : Nat) (O : Txt) (B : Bool), k ≤ l.length ∧ iv = .int .i64 k ∧ bv = .bool B ∧ ov = .string (bs O) ∧ Hid (O ++ blankL B (l.drop k) = blankL false l) ∧ Hid (O.length = k) ∧ wr = w) (fun _ _ iv _ => l.length - (intOf iv).toNat)
  case atStart => exact ⟨0, [], false, Nat.zero_le _, rfl, rfl, rfl, rfl, rfl, rfl⟩
  case round =>
    obtain ⟨k, O, B, hk, rfl, rfl, rfl, HO, HK, rfl⟩ := hrel
    by_cases hlt : k < l.length
    · have HD : Hid _ := drop_cAt hlt
      have hcut := cut_cAt hlt
      obtain ⟨c, hc⟩ : ∃ c, cAt l k = c := ⟨_, rfl⟩
      rw [hc] at HD hcut
      have hO : O.length < 9223372036854775807 := by have := HK.out; omega
      have L1 : (0 : Int) ≤ (k : Int) := by omega
      have L2 : (k : Int) < (l.length : Int) := by omega
      have L3 : (0 : Int) ≤ (k : Int) + 1 := by omega
      have L4 : (k : Int) + 1 ≤ (l.length : Int) := by omega
      by_cases h35 : c.toNat = 35
      · have e1 : ((c.toNat : Int) == 35) = true := by simp [h35]
        have e2 : ((c.toNat : Int) == 10) = false := by simp [h35]
        have HN : Hid (insN B c = true) := hidP <| by unfold insN; simp [h35]
        clear h35
        go_wp2_with fail
        go_roundw
        case rel => exact ⟨k + 1, O ++ [32], true, by omega, by go_num, rfl, rfl, hidP <| by rw [← HO.out, HD.out]; simp [blankL, HN.out], hidP <| by have := HK.out; simp; omega, by first | rfl | trivial⟩
        case measure => simp [intOf]; omega
      · have e1 : ((c.toNat : Int) == 35) = false := by simp; omega
        by_cases h10 : c.toNat = 10
        · have e2 : ((c.toNat : Int) == 10) = true := by simp [h10]
          have HN : Hid (insN B c = false) := hidP <| by unfold insN; simp [h10]
          clear h35 h10
          go_wp2_with fail
          go_roundw
          case rel => exact ⟨k + 1, O ++ [c], false, by omega, by go_num, rfl, rfl, hidP <| by rw [← HO.out, HD.out]; simp [blankL, HN.out], hidP <| by have := HK.out; simp; omega, by first | rfl | trivial⟩
          case measure => simp [intOf]; omega
        · have e2 : ((c.toNat : Int) == 10) = false := by simp; omega
          have HN : Hid (insN B c = B) := hidP <| by unfold insN; simp [h35, h10]
          clear h35 h10
          cases B
          · go_wp2_with fail
            go_roundw
            case rel => exact ⟨k + 1, O ++ [c], false, by omega, by go_num, rfl, rfl, hidP <| by rw [← HO.out, HD.out]; simp [blankL, HN.out], hidP <| by have := HK.out; simp; omega, by first | rfl | trivial⟩
            case measure => simp [intOf]; omega
          · go_wp2_with fail
            go_roundw
            case rel => exact ⟨k + 1, O ++ [32], true, by omega, by go_num, rfl, rfl, hidP <| by rw [← HO.out, HD.out]; simp [blankL, HN.out], hidP <| by have := HK.out; simp; omega, by first | rfl | trivial⟩
            case measure => simp [intOf]; omega
    · have HE : Hid (blankL false l = O) := hidP <| by
        rw [← HO.out, List.drop_eq_nil_of_le (by omega)]; simp [blankL]
      go_wp2_with fail
      go_ret
      exact ⟨by rw [HE.out]; rfl, rfl⟩
theorem l4Bad_any (l : Txt) (w : World) (hle : l.length ≤ 20000) : Calls Try.prog 58 #[.string (bs l)] w fun e w' => e = .returned (.int .i64 (badL 0 l)) ∧ w' = w := by
  go_enter Try.func58, Try.ntmps58
  go_wp2_with fail
  go_loopw [3] (fun iv wr => ∃ (k : Nat), k ≤ l.length ∧ iv = .int .i64 k ∧ Hid (badL k (l.drop k) = badL 0 l) ∧ wr = w) (fun iv _ => l.length - (intOf iv).toNat)
  case atStart => exact ⟨0, Nat.zero_le _, rfl, rfl, rfl⟩
  case round =>
    obtain ⟨k, hk, rfl, HO, rfl⟩ := hrel
    by_cases hlt : k < l.length
    · have HD : Hid _ := drop_cAt hlt
      obtain ⟨c, hc⟩ : ∃ c, cAt l k = c := ⟨_, rfl⟩
      rw [hc] at HD
      have L1 : (0 : Int) ≤ (k : Int) := by omega
      have L2 : (k : Int) < (l.length : Int) := by omega
      cases hw : isWd c
      · have HB1 : Hid (okB c = false → badL 0 l = k) := hidP <| fun h => by rw [← HO.out, HD.out]; simp [badL, h]
        have HB2 : Hid (okB c = true → badL (k + 1) (l.drop (k + 1)) = badL 0 l) := hidP <| fun h => by rw [← HO.out, HD.out]; simp [badL, h]
        have HW : Hid (isWd c = false) := hw
        by_cases h1 : c.toNat = 32
        · have HR : Hid _ := HB2.out (by unfold okB; simp [h1])
          have e1 : ((c.toNat : Int) != 32) = false := by simp [h1]
          clear h1
          go_wp2_with (go_at_call 117; refine (l4WordByte_any c _).mono ?_; rintro e w' ⟨rfl, rfl⟩)
          go_roundw
          case rel => exact ⟨k + 1, by omega, by go_num, HR, by first | rfl | trivial⟩
          case measure => simp [intOf]; omega
        · have e1 : ((c.toNat : Int) != 32) = true := by simp; omega
          by_cases h2 : c.toNat = 10
          · have HR : Hid _ := HB2.out (by unfold okB; simp [h2])
            have e2 : ((c.toNat : Int) != 10) = false := by simp [h2]
            clear h1 h2
            go_wp2_with (go_at_call 117; refine (l4WordByte_any c _).mono ?_; rintro e w' ⟨rfl, rfl⟩)
            go_roundw
            case rel => exact ⟨k + 1, by omega, by go_num, HR, by first | rfl | trivial⟩
            case measure => simp [intOf]; omega
          · have e2 : ((c.toNat : Int) != 10) = true := by simp; omega
            by_cases h3 : c.toNat = 59
            · have HR : Hid _ := HB2.out (by unfold okB; simp [h3])
              have e3 : ((c.toNat : Int) != 59) = false := by simp [h3]
              clear h1 h2 h3
              go_wp2_with (go_at_call 117; refine (l4WordByte_any c _).mono ?_; rintro e w' ⟨rfl, rfl⟩)
              go_roundw
              case rel => exact ⟨k + 1, by omega, by go_num, HR, by first | rfl | trivial⟩
              case measure => simp [intOf]; omega
            · have e3 : ((c.toNat : Int) != 59) = true := by simp; omega
              have HR : Hid _ := HB1.out (by unfold okB; simp [h1, h2, h3, HW.out])
              clear h1 h2 h3
              go_wp2_with (go_at_call 117; refine (l4WordByte_any c _).mono ?_; rintro e w' ⟨rfl, rfl⟩)
              go_ret
              exact ⟨by rw [HR.out]; rfl, rfl⟩
      · have HR : Hid (badL (k + 1) (l.drop (k + 1)) = badL 0 l) := hidP <| by rw [← HO.out, HD.out]; simp [badL, okB, hw]
        go_wp2_with (go_at_call 117; refine (l4WordByte_any c _).mono ?_; rintro e w' ⟨rfl, rfl⟩)
        go_roundw
        case rel => exact ⟨k + 1, by omega, by go_num, HR, by first | rfl | trivial⟩
        case measure => simp [intOf]; omega
    · have HE : Hid (badL 0 l = -1) := hidP <| by
        rw [← HO.out, List.drop_eq_nil_of_le (by omega)]; simp [badL]
      go_wp2_with fail
      go_ret
      exact ⟨by rw [HE.out]; rfl, rfl⟩
end Go.Proofs.Ytnmhkgmmpkjjeaa
