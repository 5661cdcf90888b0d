import Derived.Test.YtnmhkgmmpkjjeaaG05
import Derived.Test.YtnmhkgmmpkjjeaaG03
namespace Go.Proofs.Ytnmhkgmmpkjjeaa
open Go.ChangeShapes Go.WideShapes Go.ChangeAt Go.RowKit
set_option linter.unusedVariables false
set_option maxRecDepth 100000
attribute [local go_sem ↓] Go.wp_at_zero Go.wp_at_succ
attribute [local go_sem] bs_size bs_cAt bs_app bs_mk bs_cut bs_list

def eSt : Elt St := ⟨112, 6, fun s => [.int .i64 s.kind, .string (bs s.name), .int .i64 s.a, .int .i64 s.b, .int .i64 s.perm, .bool s.extra], noSt, by omega, fun _ => rfl⟩
theorem infoSt : (Try.prog.info? 112).map (fun i => (i.zero, i.size, i.bytes)) = some (some (.agg #[.int .i64 0, .string (bs []), .int .i64 0, .int .i64 0, .int .i64 0, .bool false]), 6, 56) := by kernel_rfl
/-- The cells of statement i. -/
structure StC (w : World) (g i : Nat) (s : St) : Prop where
  lt : g < w.heap.size
  k : w.cell? ⟨g, i * 6, none⟩ = some (.int .i64 s.kind)
  n : w.cell? ⟨g, i * 6 + 1, none⟩ = some (.string (bs s.name))
  a : w.cell? ⟨g, i * 6 + 2, none⟩ = some (.int .i64 s.a)
  b : w.cell? ⟨g, i * 6 + 3, none⟩ = some (.int .i64 s.b)
  p : w.cell? ⟨g, i * 6 + 4, none⟩ = some (.int .i64 s.perm)
  e : w.cell? ⟨g, i * 6 + 5, none⟩ = some (.bool s.extra)
theorem eSt_cells {w : World} {b c : Nat} {a : Option Addr} {xs : List St} (h : ERow eSt w b (.slice a xs.length c) xs) (h0 : 0 < xs.length) : ∃ g, a = some ⟨g, 0, none⟩ ∧ ∀ i, i < xs.length → StC w g i (stAt xs i) := by
  obtain ⟨a', c', e, h1⟩ := h.form
  obtain ⟨g', N, f, e2, _, hr, hN, hf⟩ := h1 h0
  have hN' : xs.length * 6 ≤ N := hN
  simp only [Value.slice.injEq] at e
  obtain ⟨e, _, _⟩ := e
  rw [e2] at e
  refine ⟨g', e, fun i hi => ⟨hr.lt, ?_, ?_, ?_, ?_, ?_, ?_⟩⟩
  · rw [hr.cell (i := i * 6) (by omega)]; exact congrArg some (hf i hi 0 (by decide))
  · rw [hr.cell (i := i * 6 + 1) (by omega)]; exact congrArg some (hf i hi 1 (by decide))
  · rw [hr.cell (i := i * 6 + 2) (by omega)]; exact congrArg some (hf i hi 2 (by decide))
  · rw [hr.cell (i := i * 6 + 3) (by omega)]; exact congrArg some (hf i hi 3 (by decide))
  · rw [hr.cell (i := i * 6 + 4) (by omega)]; exact congrArg some (hf i hi 4 (by decide))
  · rw [hr.cell (i := i * 6 + 5) (by omega)]; exact congrArg some (hf i hi 5 (by decide))
theorem StC.below {w w' : World} {g i : Nat} {s : St} (h : StC w g i s) (hb : Below w.heap.size w w') : StC w' g i s :=
  ⟨Nat.lt_of_lt_of_le h.lt hb.size, (hb.cell (p := ⟨g, _, none⟩) h.lt).trans h.k, (hb.cell (p := ⟨g, _, none⟩) h.lt).trans h.n, (hb.cell (p := ⟨g, _, none⟩) h.lt).trans h.a, (hb.cell (p := ⟨g, _, none⟩) h.lt).trans h.b, (hb.cell (p := ⟨g, _, none⟩) h.lt).trans h.p, (hb.cell (p := ⟨g, _, none⟩) h.lt).trans h.e⟩

/-- Statements that can be read. -/
def StR (w : World) (a : Option Addr) (xs : List St) : Prop := 0 < xs.length → ∃ g, a = some ⟨g, 0, none⟩ ∧ ∀ i, i < xs.length → StC w g i (stAt xs i)
theorem StR.below {w w' : World} {a : Option Addr} {xs : List St} (h : StR w a xs) (hb : Below w.heap.size w w') : StR w' a xs := fun h0 => by
  obtain ⟨g, e, hc⟩ := h h0
  exact ⟨g, e, fun i hi => (hc i hi).below hb⟩

set_option maxHeartbeats 1000000 in
theorem l4Object_any (a : Option Addr) (c : Nat) (all : List St) (n : Txt) (w : World) (hle : all.length ≤ 1000) (hr : StR w a all) :
    Calls Try.prog 121 #[.slice a all.length c, .string (bs n)] w fun e w' => e = .returned (stV (objOf all n)) ∧ Below w.heap.size w w' := by
  have HR : Hid (∀ wX, Below w.heap.size w wX → StR wX a all) := hidP fun wX hX => hr.below hX
  clear hr
  go_enter Try.func121, Try.ntmps121
  go_wp2_with fail
  go_loopw [5] (fun iv wr => ∃ (k : Nat), k ≤ all.length ∧ iv = .int .i64 k ∧ Hid (∀ j, j < k → isObj n (stAt all j) = false) ∧ wr = w.alloc (.cells #[.int .i64 0, .string (bs []), .int .i64 0, .int .i64 0, .int .i64 0, .bool false] 112)) (fun iv _ => all.length - (intOf iv).toNat)
  case atStart => exact ⟨0, Nat.zero_le _, rfl, hidP fun j hj => absurd hj (by omega), rfl⟩
  case round =>
    obtain ⟨k, hk, rfl, HO, rfl⟩ := hrel
    by_cases hlt : k < all.length
    · have L1 : (0 : Int) ≤ (k : Int) := by omega
      have L2 : (k : Int) < (all.length : Int) := by omega
      obtain ⟨g, rfl, hc⟩ := HR.out _ (Below.refl _ _) (by omega)
      obtain ⟨hg, c0, c1, c2, c3, c4, c5⟩ := hc k hlt
      have HS : Hid (isObj n (stAt all k) = true → objOf all n = stAt all k) := hidP fun h => objOf_hit hlt HO.out h
      have HN : Hid (isObj n (stAt all k) = false → ∀ j, j < k + 1 → isObj n (stAt all j) = false) := hidP fun h j hj => by
        by_cases e : j = k
        · rw [e]; exact h
        · exact HO.out j (by omega)
      obtain ⟨s, hs⟩ : ∃ s, stAt all k = s := ⟨_, rfl⟩
      rw [hs] at c0 c1 c2 c3 c4 c5 HS HN
      obtain ⟨K, M, A, B, P, X⟩ := s
      dsimp only at c0 c1 c2 c3 c4 c5
      clear hs hc
      cases hK : K == 1
      · have HF : Hid _ := HN.out (by unfold isObj; rw [hK]; rfl)
        go_wp2_with fail
        go_roundw
        case rel => exact ⟨k + 1, by omega, by go_num, HF, by first | rfl | trivial⟩
        case measure => first | (simp [intOf]; done) | (simp [intOf]; omega)
      · cases hM : M == n
        · have HF : Hid _ := HN.out (by unfold isObj; rw [hK, hM]; rfl)
          go_wp2_with fail
          go_roundw
          case rel => exact ⟨k + 1, by omega, by go_num, HF, by first | rfl | trivial⟩
          case measure => first | (simp [intOf]; done) | (simp [intOf]; omega)
        · have HF : Hid _ := HS.out (by unfold isObj; rw [hK, hM]; rfl)
          go_wp2_with fail
          refine bodyPost_ret (v := stV ⟨K, M, A, B, P, X⟩) (by simp [results, Try.results121, go_sem, stV]) rfl ⟨by rw [HF.out], ?_⟩
          repeat (first | exact Below.refl _ _ | with_reducible refine Below.drew ?_ | with_reducible refine Below.setCell ?_ (by first | omega | (simp <;> omega)) _ | with_reducible refine Below.alloc ?_ (by first | omega | (simp <;> omega)) _)
    · have HF : Hid (objOf all n = noSt) := hidP (objOf_none fun j hj => HO.out j (by omega))
      go_wp2_with fail
      refine bodyPost_ret (v := stV noSt) (by simp [results, Try.results121, go_sem, stV, noSt]) rfl ⟨by rw [HF.out], ?_⟩
      repeat (first | exact Below.refl _ _ | with_reducible refine Below.drew ?_ | with_reducible refine Below.setCell ?_ (by first | omega | (simp <;> omega)) _ | with_reducible refine Below.alloc ?_ (by first | omega | (simp <;> omega)) _)

theorem run_field_a (k a b p : Int) (m : ByteArray) (x : Bool) (w : World) : (Instr.field 112 (.agg #[.int .i64 k, .string m, .int .i64 a, .int .i64 b, .int .i64 p, .bool x]) 2).run Try.prog w = .ok (.int .i64 a) w := by rfl
theorem l4Size_any (a : Option Addr) (c : Nat) (all : List St) (s : St) (w : World) (hle : all.length ≤ 1000) (hr : StR w a all) :
    Calls Try.prog 122 #[.slice a all.length c, stV s] w fun e w' => e = .returned (.int .i64 (szOf all s)) ∧ Below w.heap.size w w' := by
  obtain ⟨K, M, A, B, P, X⟩ := s
  unfold stV
  dsimp only
  obtain ⟨R, hR⟩ : ∃ R, objOf all M = R := ⟨_, rfl⟩
  obtain ⟨k2, m2, a2, b2, p2, x2⟩ := R
  have HO : Hid (∀ wX, Below w.heap.size w wX → Calls Try.prog 121 #[.slice a all.length c, .string (bs M)] wX fun e w' => e = .returned (.agg #[.int .i64 k2, .string (bs m2), .int .i64 a2, .int .i64 b2, .int .i64 p2, .bool x2]) ∧ Below wX.heap.size wX w') := hidP fun wX hX => by
    have := l4Object_any a c all M wX hle (hr.below hX)
    rw [hR] at this
    exact this
  clear hr
  have HRR : Hid _ := hR
  cases hK : K == 3
  · have HF : Hid (szOf all ⟨K, M, A, B, P, X⟩ = a2) := hidP <| by unfold szOf; rw [if_neg (by rw [hK]; decide), hR]
    have hfl := run_field_a
    go_enter Try.func122, Try.ntmps122
    go_wp2_with (go_at_call 121; refine (HO.out _ (bal)).mono ?_; rintro e w1 ⟨rfl, hb1⟩)
    go_ret
    refine ⟨by rw [HF.out]; rfl, ?_⟩
    exact bal.trans (hb1.mono (by simp))
  · have HF : Hid (szOf all ⟨K, M, A, B, P, X⟩ = B) := hidP <| by unfold szOf; rw [if_pos hK]
    go_enter Try.func122, Try.ntmps122
    go_wp2_with fail
    go_ret
    refine ⟨by rw [HF.out]; rfl, ?_⟩
    repeat (first | exact Below.refl _ _ | with_reducible refine Below.drew ?_ | with_reducible refine Below.setCell ?_ (by first | omega | (simp <;> omega)) _ | with_reducible refine Below.alloc ?_ (by first | omega | (simp <;> omega)) _)
end Go.Proofs.Ytnmhkgmmpkjjeaa
