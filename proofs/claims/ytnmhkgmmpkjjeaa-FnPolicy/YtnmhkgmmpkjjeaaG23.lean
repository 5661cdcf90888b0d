import Derived.Test.YtnmhkgmmpkjjeaaG22
import Derived.Laws.IdiomStrings
namespace Go.Proofs.Ytnmhkgmmpkjjeaa
open Go.ChangeShapes Go.WideShapes Go.ChangeAt Go.RowKit
set_option linter.unusedVariables false
set_option linter.unusedSimpArgs false
set_option maxRecDepth 100000
attribute [local go_sem ↓] Go.wp_at_zero Go.wp_at_succ
attribute [local go_sem] bs_size bs_cAt bs_app bs_mk bs_cut bs_list

/-! Numbers. -/
theorem bytes_of (x : Txt) (w : World) : ∃ cap wq, (convert 9 22 (.string (bs x))).run Try.prog w = .ok (.slice (some ⟨w.heap.size, 0, none⟩) x.length cap) wq ∧ Below w.heap.size w wq ∧ ∀ i, i < x.length → wq.cell? ⟨w.heap.size, i, none⟩ = some (.int .u8 ((cAt x i).toNat : Int)) := by
  have h := run_bytes_of_string (P := Try.prog) w 9 22 5 (bs x) Try.underlying9 Try.underlying22 Try.underlying5
  rw [bs_size] at h
  refine ⟨_, _, h, (Below.refl _ _).drew.alloc (Nat.le_refl _) _, fun i hi => ?_⟩
  have hb := bytesRow_at (bs x) (grownCap w x.length 0 5) i (by show i < x.toArray.size; simpa using hi)
  have hc : ((bs x).data[i]'(by show i < x.toArray.size; simpa using hi)) = cAt x i := by
    unfold cAt
    rw [List.getD_eq_getElem?_getD, List.getElem?_eq_getElem hi]
    rfl
  rw [hc] at hb
  have hn : ∀ (C : Array Value) (f : Nat × Nat), (w.drew.alloc (.cells C 5 f)).cell? ⟨w.heap.size, i, none⟩ = C[i]? := fun C f => World.cell?_alloc_mark w.drew C _ f i
  rw [hn]
  exact hb
/-- What is read of the first k digits. -/
def valTo (x : Txt) (k : Nat) : Nat := valL (x.take k)
theorem valTo_succ {x : Txt} {k : Nat} (h : k < x.length) : valTo x (k + 1) = valTo x k * 10 + ((cAt x k).toNat - 48) := by
  unfold valTo valL cAt
  rw [List.take_add_one, List.foldl_append, List.getD_eq_getElem?_getD, List.getElem?_eq_getElem h]
  rfl
theorem valTo_b {x : Txt} (hd : ∀ j, j < x.length → isDig (cAt x j) = true) : ∀ k, k ≤ 6 → k ≤ x.length → valTo x k < 10 ^ k
  | 0, _, _ => by unfold valTo valL; simp
  | k + 1, h6, hl => by
    have ih := valTo_b hd k (by omega) (by omega)
    have h1 := hd k (by omega)
    unfold isDig at h1
    simp at h1
    rw [valTo_succ (by omega), Nat.pow_succ]
    omega
theorem valTo_b2 {x : Txt} {k : Nat} (hd : ∀ j, j < k → isDig (cAt x j) = true) (h6 : k ≤ 6) (hl : k ≤ x.length) : valTo x k < 10 ^ k := by
  induction k with
  | zero => unfold valTo valL; simp
  | succ k ih =>
    have ih := ih (fun j hj => hd j (by omega)) (by omega) (by omega)
    have h1 := hd k (by omega)
    unfold isDig at h1
    simp at h1
    rw [valTo_succ (by omega), Nat.pow_succ]
    omega
theorem pow6 {k : Nat} (h : k < 6) : (10 : Nat) ^ k ≤ 100000 := by
  rcases (show k = 0 ∨ k = 1 ∨ k = 2 ∨ k = 3 ∨ k = 4 ∨ k = 5 by omega) with rfl | rfl | rfl | rfl | rfl | rfl <;> decide
set_option maxHeartbeats 600000 in
theorem numberOf_any (x : Txt) (w : World) (hl : x.length ≤ 20000) : Calls Try.prog 209 #[.string (bs x)] w fun e w' => (numOk x = true → e = .returned (.tuple #[.int .i64 (valL x : Int), .bool true])) ∧ (numOk x = false → e = .returned (.tuple #[.int .i64 0, .bool false])) ∧ Below w.heap.size w w' := by
  by_cases h0 : x.length = 0
  · obtain rfl := List.length_eq_zero_iff.1 h0
    have HNO : Hid (numOk [] = false) := hidP rfl
    clear h0
    go_enter Try.func209, Try.ntmps209
    go_wp2_with fail
    exact bodyPost_ret (v := .tuple #[.int .i64 0, .bool false]) (by simp [results, Try.results209, go_sem]) rfl ⟨fun h => (by rw [HNO.out] at h; cases h), fun _ => rfl, Below.refl _ _⟩
  · have L0 : ¬ (x.length : Int) < 1 := by omega
    by_cases h6 : x.length ≤ 6
    · have L6 : ¬ (6 : Int) < (x.length : Int) := by omega
      have L7 : (0 : Int) < (x.length : Int) := by omega
      by_cases hz : (cAt x 0).toNat = 48 ∧ 1 < x.length
      · have HNO : Hid (numOk x = false) := hidP (by unfold numOk; simp [hz.1, hz.2])
        have L1 : (1 : Int) < (x.length : Int) := by omega
        have hb : (((cAt x 0).toNat : Int) == 48) = true := by simp; omega
        clear hz
        refine calls_o 43 Try.func209 rfl (by rfl) (by simp) ?_
        intro tm hsz hla
        have s0 := hla 0 (by simp)
        clear hla
        simp only [List.getElem_toArray, List.getElem_cons_zero, List.getElem_cons_succ] at s0
        go_upto_if 24 with fail
        refine wp_cond_true (by go_simp) ?_
        go_wp2_with fail
        exact bodyPost_ret (v := .tuple #[.int .i64 0, .bool false]) (by simp [results, Try.results209, go_sem, hsz]) rfl ⟨fun h => (by rw [HNO.out] at h; cases h), fun _ => rfl, Below.refl _ _⟩
      · have HZ : Hid (¬ ((cAt x 0).toNat = 48 ∧ 1 < x.length)) := hz
        obtain ⟨cap, wq, hcv, hbq, hcl⟩ := bytes_of x w
        have HCL : Hid (∀ i, i < x.length → wq.cell? ⟨w.heap.size, i, none⟩ = some (.int .u8 ((cAt x i).toNat : Int))) := hcl
        have HBQ : Hid (Below w.heap.size w wq) := hbq
        clear hcl hbq
        by_cases h1 : 1 < x.length
        · have L1 : (1 : Int) < (x.length : Int) := by omega
          have hb : (((cAt x 0).toNat : Int) == 48) = false := by simp; omega
          clear hz
          refine calls_o 43 Try.func209 rfl (by rfl) (by simp) ?_
          intro tm hsz hla
          have s0 := hla 0 (by simp)
          clear hla
          simp only [List.getElem_toArray, List.getElem_cons_zero, List.getElem_cons_succ] at s0
          go_upto_if 24 with fail
          refine wp_cond_false (by go_simp) ?_
          go_wp2_with fail
          refine wp_loop_o 43 (fun j tm wz => ∃ k : Nat, j = x.length - k ∧ k ≤ x.length ∧ Fs tm [(4, .int .i64 (valTo x k : Int)), (26, .slice (some ⟨w.heap.size, 0, none⟩) x.length cap), (27, .int .i64 (x.length : Int)), (28, .int .i64 (k : Int))] ∧ wz = wq ∧ ∀ j, j < k → isDig (cAt x j) = true) x.length (by simp [hsz]) ⟨0, by omega, by omega, by simp only [Fs]; and_intros <;> simp [hsz, s0, valTo, valL], rfl, fun j hj => absurd hj (Nat.not_lt_zero _)⟩ ?_
          clear s0 hsz hcv
          clear tm
          intro j tm wz J K hsz hI hJ hK
          obtain ⟨k, hj, hk, hs, hwz, hdg⟩ := hI
          obtain rfl : wq = wz := hwz.symm
          simp only [Fs] at hs
          obtain ⟨s4, s26, s27, s28, -⟩ := hs
          subst hj
          have HDG : Hid (∀ j, j < k → isDig (cAt x j) = true) := hdg
          clear hdg
          by_cases hlt : k < x.length
          · have K0 : (0 : Int) ≤ (k : Int) := by omega
            have K1 : (k : Int) < (x.length : Int) := by omega
            have hck := HCL.out k hlt
            have t1 := isDigit_any (cAt x k) wq
            go_upto_if 29 with fail
            refine wp_cond_true (by go_simp <;> omega) ?_
            go_wp2_with fail
            refine t1.mono ?_
            rintro e w2 ⟨rfl, ew⟩
            obtain rfl : wq = w2 := ew.symm
            clear t1
            by_cases hd : isDig (cAt x k) = true
            · have HS : Hid (valTo x (k + 1) = valTo x k * 10 + ((cAt x k).toNat - 48)) := hidP (valTo_succ hlt)
              have HDN : Hid (∀ j, j < k + 1 → isDig (cAt x j) = true) := hidP (fun j hj => by
                rcases Nat.lt_or_ge j k with h | h
                · exact HDG.out j h
                · obtain rfl : j = k := by omega
                  exact hd)
              have bv : valTo x k < 1000000 := Nat.lt_of_lt_of_le (valTo_b2 HDG.out (by omega) hk) (Nat.le_trans (pow6 (k := k) (by omega)) (by decide))
              have bd : 48 ≤ (cAt x k).toNat ∧ (cAt x k).toNat ≤ 57 := by unfold isDig at hd; simp at hd; omega
              have W1 : IntKind.u8.wrap (((cAt x k).toNat : Int) - 48) = ((cAt x k).toNat : Int) - 48 := by rw [IntKind.wrap_u8]; omega
              have W2 : IntKind.i64.wrap ((valTo x k : Int) * 10) = (valTo x k : Int) * 10 := by rw [IntKind.wrap_i64]; omega
              have W3 : IntKind.i64.wrap (((cAt x k).toNat : Int) - 48) = ((cAt x k).toNat : Int) - 48 := by rw [IntKind.wrap_i64]; omega
              have W4 : IntKind.i64.wrap ((valTo x k : Int) * 10 + (((cAt x k).toNat : Int) - 48)) = (valTo x k : Int) * 10 + (((cAt x k).toNat : Int) - 48) := by rw [IntKind.wrap_i64]; omega
              have W5 : IntKind.i64.wrap ((k : Int) + 1) = (k : Int) + 1 := by rw [IntKind.wrap_i64]; omega
              rw [hd]
              go_upto_if 34 with fail
              refine wp_cond_false (by go_simp) ?_
              go_wp2_with fail
              refine Met.intro (hJ (x.length - (k + 1)) _ _ (by simp [hsz]) ⟨k + 1, rfl, by omega, by rw [HS.out, show ((valTo x k * 10 + ((cAt x k).toNat - 48) : Nat) : Int) = (valTo x k : Int) * 10 + (((cAt x k).toNat : Int) - 48) by omega, show ((k + 1 : Nat) : Int) = (k : Int) + 1 by omega]; simp only [Fs]; and_intros <;> simp [hsz, s4, s26, s27, s28], rfl, HDN.out⟩ (by omega))
            · have hdf : isDig (cAt x k) = false := by simpa using hd
              have HNO : Hid (numOk x = false) := hidP (by
                have : x.all isDig = false := by
                  cases hh : x.all isDig
                  · rfl
                  · exact absurd (all_cAt.1 hh k hlt) hd
                unfold numOk digL; rw [this]; rfl)
              rw [hdf]
              go_upto_if 34 with fail
              refine wp_cond_true (by go_simp) ?_
              go_wp2_with fail
              exact bodyPost_ret (v := .tuple #[.int .i64 0, .bool false]) (by simp [results, Try.results209, go_sem, hsz]) rfl ⟨fun h => (by rw [HNO.out] at h; cases h), fun _ => rfl, HBQ.out⟩
          · obtain rfl : k = x.length := by omega
            have K2 : ¬ (x.length : Int) < (x.length : Int) := by omega
            have HYES : Hid (numOk x = true) := hidP (by
              unfold numOk digL
              rw [all_cAt.2 HDG.out]
              have := HZ.out
              simp
              omega)
            have HV : Hid (valTo x x.length = valL x) := hidP (by unfold valTo; rw [List.take_length])
            go_upto_if 29 with fail
            refine wp_cond_false (by go_simp <;> omega) ?_
            go_wp2_with fail
            exact bodyPost_ret (v := .tuple #[.int .i64 (valTo x x.length : Int), .bool true]) (by simp [results, Try.results209, go_sem, hsz, s4]) rfl ⟨fun _ => (by rw [HV.out]), fun h => (by rw [HYES.out] at h; cases h), HBQ.out⟩
        · have L1 : ¬ (1 : Int) < (x.length : Int) := by omega
          clear hz
          refine calls_o 43 Try.func209 rfl (by rfl) (by simp) ?_
          intro tm hsz hla
          have s0 := hla 0 (by simp)
          clear hla
          simp only [List.getElem_toArray, List.getElem_cons_zero, List.getElem_cons_succ] at s0
          go_upto_if 24 with fail
          refine wp_cond_false (by go_simp) ?_
          go_wp2_with fail
          refine wp_loop_o 43 (fun j tm wz => ∃ k : Nat, j = x.length - k ∧ k ≤ x.length ∧ Fs tm [(4, .int .i64 (valTo x k : Int)), (26, .slice (some ⟨w.heap.size, 0, none⟩) x.length cap), (27, .int .i64 (x.length : Int)), (28, .int .i64 (k : Int))] ∧ wz = wq ∧ ∀ j, j < k → isDig (cAt x j) = true) x.length (by simp [hsz]) ⟨0, by omega, by omega, by simp only [Fs]; and_intros <;> simp [hsz, s0, valTo, valL], rfl, fun j hj => absurd hj (Nat.not_lt_zero _)⟩ ?_
          clear s0 hsz hcv
          clear tm
          intro j tm wz J K hsz hI hJ hK
          obtain ⟨k, hj, hk, hs, hwz, hdg⟩ := hI
          obtain rfl : wq = wz := hwz.symm
          simp only [Fs] at hs
          obtain ⟨s4, s26, s27, s28, -⟩ := hs
          subst hj
          have HDG : Hid (∀ j, j < k → isDig (cAt x j) = true) := hdg
          clear hdg
          by_cases hlt : k < x.length
          · have K0 : (0 : Int) ≤ (k : Int) := by omega
            have K1 : (k : Int) < (x.length : Int) := by omega
            have hck := HCL.out k hlt
            have t1 := isDigit_any (cAt x k) wq
            go_upto_if 29 with fail
            refine wp_cond_true (by go_simp <;> omega) ?_
            go_wp2_with fail
            refine t1.mono ?_
            rintro e w2 ⟨rfl, ew⟩
            obtain rfl : wq = w2 := ew.symm
            clear t1
            by_cases hd : isDig (cAt x k) = true
            · have HS : Hid (valTo x (k + 1) = valTo x k * 10 + ((cAt x k).toNat - 48)) := hidP (valTo_succ hlt)
              have HDN : Hid (∀ j, j < k + 1 → isDig (cAt x j) = true) := hidP (fun j hj => by
                rcases Nat.lt_or_ge j k with h | h
                · exact HDG.out j h
                · obtain rfl : j = k := by omega
                  exact hd)
              have bv : valTo x k < 1000000 := Nat.lt_of_lt_of_le (valTo_b2 HDG.out (by omega) hk) (Nat.le_trans (pow6 (k := k) (by omega)) (by decide))
              have bd : 48 ≤ (cAt x k).toNat ∧ (cAt x k).toNat ≤ 57 := by unfold isDig at hd; simp at hd; omega
              have W1 : IntKind.u8.wrap (((cAt x k).toNat : Int) - 48) = ((cAt x k).toNat : Int) - 48 := by rw [IntKind.wrap_u8]; omega
              have W2 : IntKind.i64.wrap ((valTo x k : Int) * 10) = (valTo x k : Int) * 10 := by rw [IntKind.wrap_i64]; omega
              have W3 : IntKind.i64.wrap (((cAt x k).toNat : Int) - 48) = ((cAt x k).toNat : Int) - 48 := by rw [IntKind.wrap_i64]; omega
              have W4 : IntKind.i64.wrap ((valTo x k : Int) * 10 + (((cAt x k).toNat : Int) - 48)) = (valTo x k : Int) * 10 + (((cAt x k).toNat : Int) - 48) := by rw [IntKind.wrap_i64]; omega
              have W5 : IntKind.i64.wrap ((k : Int) + 1) = (k : Int) + 1 := by rw [IntKind.wrap_i64]; omega
              rw [hd]
              go_upto_if 34 with fail
              refine wp_cond_false (by go_simp) ?_
              go_wp2_with fail
              refine Met.intro (hJ (x.length - (k + 1)) _ _ (by simp [hsz]) ⟨k + 1, rfl, by omega, by rw [HS.out, show ((valTo x k * 10 + ((cAt x k).toNat - 48) : Nat) : Int) = (valTo x k : Int) * 10 + (((cAt x k).toNat : Int) - 48) by omega, show ((k + 1 : Nat) : Int) = (k : Int) + 1 by omega]; simp only [Fs]; and_intros <;> simp [hsz, s4, s26, s27, s28], rfl, HDN.out⟩ (by omega))
            · have hdf : isDig (cAt x k) = false := by simpa using hd
              have HNO : Hid (numOk x = false) := hidP (by
                have : x.all isDig = false := by
                  cases hh : x.all isDig
                  · rfl
                  · exact absurd (all_cAt.1 hh k hlt) hd
                unfold numOk digL; rw [this]; rfl)
              rw [hdf]
              go_upto_if 34 with fail
              refine wp_cond_true (by go_simp) ?_
              go_wp2_with fail
              exact bodyPost_ret (v := .tuple #[.int .i64 0, .bool false]) (by simp [results, Try.results209, go_sem, hsz]) rfl ⟨fun h => (by rw [HNO.out] at h; cases h), fun _ => rfl, HBQ.out⟩
          · obtain rfl : k = x.length := by omega
            have K2 : ¬ (x.length : Int) < (x.length : Int) := by omega
            have HYES : Hid (numOk x = true) := hidP (by
              unfold numOk digL
              rw [all_cAt.2 HDG.out]
              have := HZ.out
              simp
              omega)
            have HV : Hid (valTo x x.length = valL x) := hidP (by unfold valTo; rw [List.take_length])
            go_upto_if 29 with fail
            refine wp_cond_false (by go_simp <;> omega) ?_
            go_wp2_with fail
            exact bodyPost_ret (v := .tuple #[.int .i64 (valTo x x.length : Int), .bool true]) (by simp [results, Try.results209, go_sem, hsz, s4]) rfl ⟨fun _ => (by rw [HV.out]), fun h => (by rw [HYES.out] at h; cases h), HBQ.out⟩
    · have L6 : (6 : Int) < (x.length : Int) := by omega
      have HNO : Hid (numOk x = false) := hidP (by unfold numOk; simp [h6])
      clear h6 h0
      go_enter Try.func209, Try.ntmps209
      go_wp2_with fail
      exact bodyPost_ret (v := .tuple #[.int .i64 0, .bool false]) (by simp [results, Try.results209, go_sem]) rfl ⟨fun h => (by rw [HNO.out] at h; cases h), fun _ => rfl, Below.refl _ _⟩
end Go.Proofs.Ytnmhkgmmpkjjeaa
