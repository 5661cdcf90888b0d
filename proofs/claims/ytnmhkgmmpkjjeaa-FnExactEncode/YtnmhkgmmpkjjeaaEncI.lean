import Derived.Test.YtnmhkgmmpkjjeaaEnc
import Derived.Laws.Closers25b
import Derived.ChangeOld
namespace Go.Proofs.Ytnmhkgmmpkjjeaa
open Go.ChangeShapes Go.WideShapes Go.ChangeAt Go.RowKit
set_option linter.unusedVariables false
attribute [local go_sem ↓] Go.wp_at_zero Go.wp_at_succ
theorem implEnc_kind (l k o p : Int) (h : ¬ (k = 1 ∨ k = 2 ∨ k = 3)) (w : World) :
    Calls Try.prog 36 #[.int .i64 l, .agg #[.int .i64 k, .int .i64 o, .int .i64 p]] w fun e w' => e = .returned (.int .u64 0) ∧ Below w.heap.size w w' := by
  have a : (k == 1) = false := by simp; omega
  have b : (k == 2) = false := by simp; omega
  have c : (k == 3) = false := by simp; omega
  clear h
  go_enter Try.func36, Try.ntmps36
  go_wp2
  go_ret
  exact ⟨rfl, (Below.refl _ _).alloc (Nat.le_refl _) _⟩
theorem or_disj (x y : Int) (i : Nat) (a b : Nat) (hx : x = ((a * 2 ^ i : Nat) : Int)) (hy : y = (b : Int)) (hb : b < 2 ^ i) (h64 : a * 2 ^ i < 18446744073709551616) (hb64 : b < 18446744073709551616) : bits .or .u64 x y = x + y := by
  subst hx hy
  rw [bits_or_u64_nat _ _ h64 hb64, ← Nat.shiftLeft_eq, ← Nat.shiftLeft_add_eq_or_of_lt hb]
  simp
theorem or_op (o p : Int) (a : 0 ≤ o) (b : o < 65536) (c : 0 ≤ p) (d : p ≤ 7) : bits .or .u64 (o * 4096) (p * 4) = o * 4096 + p * 4 :=
  or_disj _ _ 12 o.toNat (p * 4).toNat (by simp; omega) (by omega) (by omega) (by omega) (by omega)
theorem or_3 (o p : Int) (a : 0 ≤ o) (b : o < 65536) (c : 0 ≤ p) (d : p ≤ 7) : bits .or .u64 (o * 4096 + p * 4) 3 = 1 + p * 4 + o * 4096 + 2 := by
  rw [or_disj _ 3 2 (o * 1024 + p).toNat 3 (by simp; omega) rfl (by omega) (by omega) (by omega)]
  omega
theorem or_1 (o p : Int) (a : 0 ≤ o) (b : o < 65536) (c : 0 ≤ p) (d : p ≤ 7) : bits .or .u64 (o * 4096 + p * 4) 1 = 1 + p * 4 + o * 4096 := by
  rw [or_disj _ 1 2 (o * 1024 + p).toNat 1 (by simp; omega) rfl (by omega) (by omega) (by omega)]
  omega

theorem implEnc_1yes (l o p : Int)
    (hd : ∀ w, Calls Try.prog 32 #[.int .i64 l, .int .u64 (bits BinOp.or IntKind.u64 (bits BinOp.or IntKind.u64 (IntKind.u64.wrap (IntKind.u64.wrap o * 4096)) (IntKind.u64.wrap (IntKind.u64.wrap p * 4))) 3)] w fun e w' => e = .returned (.agg #[.int .i64 1, .int .i64 o, .int .i64 p]) ∧ Below w.heap.size w w') (w : World) :
    Calls Try.prog 36 #[.int .i64 l, .agg #[.int .i64 1, .int .i64 o, .int .i64 p]] w fun e w' => e = .returned (.int .u64 (bits BinOp.or IntKind.u64 (bits BinOp.or IntKind.u64 (IntKind.u64.wrap (IntKind.u64.wrap o * 4096)) (IntKind.u64.wrap (IntKind.u64.wrap p * 4))) 3)) ∧ Below w.heap.size w w' := by
  go_enter Try.func36, Try.ntmps36
  go_wp2
  go_region_held3 (fun w' => w'.cell? ⟨w.heap.size, 0, none⟩ = some (.int .i64 1) ∧ w'.cell? ⟨w.heap.size, 1, none⟩ = some (.int .i64 o) ∧ w'.cell? ⟨w.heap.size, 2, none⟩ = some (.int .i64 p))
    (first | go_keep | (go_split_ands; refine ⟨?_, ?_, ?_⟩ <;> (rw [hb1.cell (by simp)]; simp)))
    (first | (go_at_call 32; refine (hd _).mono ?_; rintro e w1 ⟨rfl, hb1⟩))
  go_wp2
  go_ret
  exact ⟨rfl, ((Below.refl _ _).alloc (Nat.le_refl _) _).drew.trans (hb1.mono (by simp))⟩
theorem implEnc_1noK (l o p K O P : Int) (h1 : (K == 1) = false)
    (hd : ∀ w, Calls Try.prog 32 #[.int .i64 l, .int .u64 (bits BinOp.or IntKind.u64 (bits BinOp.or IntKind.u64 (IntKind.u64.wrap (IntKind.u64.wrap o * 4096)) (IntKind.u64.wrap (IntKind.u64.wrap p * 4))) 3)] w fun e w' => e = .returned (.agg #[.int .i64 K, .int .i64 O, .int .i64 P]) ∧ Below w.heap.size w w') (w : World) :
    Calls Try.prog 36 #[.int .i64 l, .agg #[.int .i64 1, .int .i64 o, .int .i64 p]] w fun e w' => e = .returned (.int .u64 0) ∧ Below w.heap.size w w' := by
  go_enter Try.func36, Try.ntmps36
  go_wp2
  go_region_held3 (fun w' => w'.cell? ⟨w.heap.size, 0, none⟩ = some (.int .i64 1) ∧ w'.cell? ⟨w.heap.size, 1, none⟩ = some (.int .i64 o) ∧ w'.cell? ⟨w.heap.size, 2, none⟩ = some (.int .i64 p))
    (first | go_keep | (go_split_ands; refine ⟨?_, ?_, ?_⟩ <;> (rw [hb1.cell (by simp)]; simp)))
    (first | (go_at_call 32; refine (hd _).mono ?_; rintro e w1 ⟨rfl, hb1⟩))
  go_wp2
  go_ret
  exact ⟨rfl, ((Below.refl _ _).alloc (Nat.le_refl _) _).drew.trans (hb1.mono (by simp))⟩
theorem implEnc_1noO (l o p O P : Int) (h1 : (O == o) = false)
    (hd : ∀ w, Calls Try.prog 32 #[.int .i64 l, .int .u64 (bits BinOp.or IntKind.u64 (bits BinOp.or IntKind.u64 (IntKind.u64.wrap (IntKind.u64.wrap o * 4096)) (IntKind.u64.wrap (IntKind.u64.wrap p * 4))) 3)] w fun e w' => e = .returned (.agg #[.int .i64 1, .int .i64 O, .int .i64 P]) ∧ Below w.heap.size w w') (w : World) :
    Calls Try.prog 36 #[.int .i64 l, .agg #[.int .i64 1, .int .i64 o, .int .i64 p]] w fun e w' => e = .returned (.int .u64 0) ∧ Below w.heap.size w w' := by
  go_enter Try.func36, Try.ntmps36
  go_wp2
  go_region_held3 (fun w' => w'.cell? ⟨w.heap.size, 0, none⟩ = some (.int .i64 1) ∧ w'.cell? ⟨w.heap.size, 1, none⟩ = some (.int .i64 o) ∧ w'.cell? ⟨w.heap.size, 2, none⟩ = some (.int .i64 p))
    (first | go_keep | (go_split_ands; refine ⟨?_, ?_, ?_⟩ <;> (rw [hb1.cell (by simp)]; simp)))
    (first | (go_at_call 32; refine (hd _).mono ?_; rintro e w1 ⟨rfl, hb1⟩))
  go_wp2
  go_ret
  exact ⟨rfl, ((Below.refl _ _).alloc (Nat.le_refl _) _).drew.trans (hb1.mono (by simp))⟩
theorem implEnc_1noP (l o p P : Int) (h1 : (P == p) = false)
    (hd : ∀ w, Calls Try.prog 32 #[.int .i64 l, .int .u64 (bits BinOp.or IntKind.u64 (bits BinOp.or IntKind.u64 (IntKind.u64.wrap (IntKind.u64.wrap o * 4096)) (IntKind.u64.wrap (IntKind.u64.wrap p * 4))) 3)] w fun e w' => e = .returned (.agg #[.int .i64 1, .int .i64 o, .int .i64 P]) ∧ Below w.heap.size w w') (w : World) :
    Calls Try.prog 36 #[.int .i64 l, .agg #[.int .i64 1, .int .i64 o, .int .i64 p]] w fun e w' => e = .returned (.int .u64 0) ∧ Below w.heap.size w w' := by
  go_enter Try.func36, Try.ntmps36
  go_wp2
  go_region_held3 (fun w' => w'.cell? ⟨w.heap.size, 0, none⟩ = some (.int .i64 1) ∧ w'.cell? ⟨w.heap.size, 1, none⟩ = some (.int .i64 o) ∧ w'.cell? ⟨w.heap.size, 2, none⟩ = some (.int .i64 p))
    (first | go_keep | (go_split_ands; refine ⟨?_, ?_, ?_⟩ <;> (rw [hb1.cell (by simp)]; simp)))
    (first | (go_at_call 32; refine (hd _).mono ?_; rintro e w1 ⟨rfl, hb1⟩))
  go_wp2
  go_ret
  exact ⟨rfl, ((Below.refl _ _).alloc (Nat.le_refl _) _).drew.trans (hb1.mono (by simp))⟩
theorem implEnc_2yes (l o p : Int)
    (hd : ∀ w, Calls Try.prog 32 #[.int .i64 l, .int .u64 (bits BinOp.or IntKind.u64 (bits BinOp.or IntKind.u64 (IntKind.u64.wrap (IntKind.u64.wrap o * 4096)) (IntKind.u64.wrap (IntKind.u64.wrap p * 4))) 1)] w fun e w' => e = .returned (.agg #[.int .i64 2, .int .i64 o, .int .i64 p]) ∧ Below w.heap.size w w') (w : World) :
    Calls Try.prog 36 #[.int .i64 l, .agg #[.int .i64 2, .int .i64 o, .int .i64 p]] w fun e w' => e = .returned (.int .u64 (bits BinOp.or IntKind.u64 (bits BinOp.or IntKind.u64 (IntKind.u64.wrap (IntKind.u64.wrap o * 4096)) (IntKind.u64.wrap (IntKind.u64.wrap p * 4))) 1)) ∧ Below w.heap.size w w' := by
  go_enter Try.func36, Try.ntmps36
  go_wp2
  go_region_held3 (fun w' => w'.cell? ⟨w.heap.size, 0, none⟩ = some (.int .i64 2) ∧ w'.cell? ⟨w.heap.size, 1, none⟩ = some (.int .i64 o) ∧ w'.cell? ⟨w.heap.size, 2, none⟩ = some (.int .i64 p))
    (first | go_keep | (go_split_ands; refine ⟨?_, ?_, ?_⟩ <;> (rw [hb1.cell (by simp)]; simp)))
    (first | (go_at_call 32; refine (hd _).mono ?_; rintro e w1 ⟨rfl, hb1⟩))
  go_wp2
  go_ret
  exact ⟨rfl, ((Below.refl _ _).alloc (Nat.le_refl _) _).drew.trans (hb1.mono (by simp))⟩
theorem implEnc_2noK (l o p K O P : Int) (h1 : (K == 2) = false)
    (hd : ∀ w, Calls Try.prog 32 #[.int .i64 l, .int .u64 (bits BinOp.or IntKind.u64 (bits BinOp.or IntKind.u64 (IntKind.u64.wrap (IntKind.u64.wrap o * 4096)) (IntKind.u64.wrap (IntKind.u64.wrap p * 4))) 1)] w fun e w' => e = .returned (.agg #[.int .i64 K, .int .i64 O, .int .i64 P]) ∧ Below w.heap.size w w') (w : World) :
    Calls Try.prog 36 #[.int .i64 l, .agg #[.int .i64 2, .int .i64 o, .int .i64 p]] w fun e w' => e = .returned (.int .u64 0) ∧ Below w.heap.size w w' := by
  go_enter Try.func36, Try.ntmps36
  go_wp2
  go_region_held3 (fun w' => w'.cell? ⟨w.heap.size, 0, none⟩ = some (.int .i64 2) ∧ w'.cell? ⟨w.heap.size, 1, none⟩ = some (.int .i64 o) ∧ w'.cell? ⟨w.heap.size, 2, none⟩ = some (.int .i64 p))
    (first | go_keep | (go_split_ands; refine ⟨?_, ?_, ?_⟩ <;> (rw [hb1.cell (by simp)]; simp)))
    (first | (go_at_call 32; refine (hd _).mono ?_; rintro e w1 ⟨rfl, hb1⟩))
  go_wp2
  go_ret
  exact ⟨rfl, ((Below.refl _ _).alloc (Nat.le_refl _) _).drew.trans (hb1.mono (by simp))⟩
theorem implEnc_2noO (l o p O P : Int) (h1 : (O == o) = false)
    (hd : ∀ w, Calls Try.prog 32 #[.int .i64 l, .int .u64 (bits BinOp.or IntKind.u64 (bits BinOp.or IntKind.u64 (IntKind.u64.wrap (IntKind.u64.wrap o * 4096)) (IntKind.u64.wrap (IntKind.u64.wrap p * 4))) 1)] w fun e w' => e = .returned (.agg #[.int .i64 2, .int .i64 O, .int .i64 P]) ∧ Below w.heap.size w w') (w : World) :
    Calls Try.prog 36 #[.int .i64 l, .agg #[.int .i64 2, .int .i64 o, .int .i64 p]] w fun e w' => e = .returned (.int .u64 0) ∧ Below w.heap.size w w' := by
  go_enter Try.func36, Try.ntmps36
  go_wp2
  go_region_held3 (fun w' => w'.cell? ⟨w.heap.size, 0, none⟩ = some (.int .i64 2) ∧ w'.cell? ⟨w.heap.size, 1, none⟩ = some (.int .i64 o) ∧ w'.cell? ⟨w.heap.size, 2, none⟩ = some (.int .i64 p))
    (first | go_keep | (go_split_ands; refine ⟨?_, ?_, ?_⟩ <;> (rw [hb1.cell (by simp)]; simp)))
    (first | (go_at_call 32; refine (hd _).mono ?_; rintro e w1 ⟨rfl, hb1⟩))
  go_wp2
  go_ret
  exact ⟨rfl, ((Below.refl _ _).alloc (Nat.le_refl _) _).drew.trans (hb1.mono (by simp))⟩
theorem implEnc_2noP (l o p P : Int) (h1 : (P == p) = false)
    (hd : ∀ w, Calls Try.prog 32 #[.int .i64 l, .int .u64 (bits BinOp.or IntKind.u64 (bits BinOp.or IntKind.u64 (IntKind.u64.wrap (IntKind.u64.wrap o * 4096)) (IntKind.u64.wrap (IntKind.u64.wrap p * 4))) 1)] w fun e w' => e = .returned (.agg #[.int .i64 2, .int .i64 o, .int .i64 P]) ∧ Below w.heap.size w w') (w : World) :
    Calls Try.prog 36 #[.int .i64 l, .agg #[.int .i64 2, .int .i64 o, .int .i64 p]] w fun e w' => e = .returned (.int .u64 0) ∧ Below w.heap.size w w' := by
  go_enter Try.func36, Try.ntmps36
  go_wp2
  go_region_held3 (fun w' => w'.cell? ⟨w.heap.size, 0, none⟩ = some (.int .i64 2) ∧ w'.cell? ⟨w.heap.size, 1, none⟩ = some (.int .i64 o) ∧ w'.cell? ⟨w.heap.size, 2, none⟩ = some (.int .i64 p))
    (first | go_keep | (go_split_ands; refine ⟨?_, ?_, ?_⟩ <;> (rw [hb1.cell (by simp)]; simp)))
    (first | (go_at_call 32; refine (hd _).mono ?_; rintro e w1 ⟨rfl, hb1⟩))
  go_wp2
  go_ret
  exact ⟨rfl, ((Below.refl _ _).alloc (Nat.le_refl _) _).drew.trans (hb1.mono (by simp))⟩
theorem implEnc_3yes (l o p : Int)
    (hd : ∀ w, Calls Try.prog 32 #[.int .i64 l, .int .u64 (bits BinOp.or IntKind.u64 (bits BinOp.or IntKind.u64 (IntKind.u64.wrap (IntKind.u64.wrap o * 4096)) (IntKind.u64.wrap (IntKind.u64.wrap p * 4))) 3)] w fun e w' => e = .returned (.agg #[.int .i64 3, .int .i64 o, .int .i64 p]) ∧ Below w.heap.size w w') (w : World) :
    Calls Try.prog 36 #[.int .i64 l, .agg #[.int .i64 3, .int .i64 o, .int .i64 p]] w fun e w' => e = .returned (.int .u64 (bits BinOp.or IntKind.u64 (bits BinOp.or IntKind.u64 (IntKind.u64.wrap (IntKind.u64.wrap o * 4096)) (IntKind.u64.wrap (IntKind.u64.wrap p * 4))) 3)) ∧ Below w.heap.size w w' := by
  go_enter Try.func36, Try.ntmps36
  go_wp2
  go_region_held3 (fun w' => w'.cell? ⟨w.heap.size, 0, none⟩ = some (.int .i64 3) ∧ w'.cell? ⟨w.heap.size, 1, none⟩ = some (.int .i64 o) ∧ w'.cell? ⟨w.heap.size, 2, none⟩ = some (.int .i64 p))
    (first | go_keep | (go_split_ands; refine ⟨?_, ?_, ?_⟩ <;> (rw [hb1.cell (by simp)]; simp)))
    (first | (go_at_call 32; refine (hd _).mono ?_; rintro e w1 ⟨rfl, hb1⟩))
  go_wp2
  go_ret
  exact ⟨rfl, ((Below.refl _ _).alloc (Nat.le_refl _) _).drew.trans (hb1.mono (by simp))⟩
theorem implEnc_3noK (l o p K O P : Int) (h1 : (K == 3) = false)
    (hd : ∀ w, Calls Try.prog 32 #[.int .i64 l, .int .u64 (bits BinOp.or IntKind.u64 (bits BinOp.or IntKind.u64 (IntKind.u64.wrap (IntKind.u64.wrap o * 4096)) (IntKind.u64.wrap (IntKind.u64.wrap p * 4))) 3)] w fun e w' => e = .returned (.agg #[.int .i64 K, .int .i64 O, .int .i64 P]) ∧ Below w.heap.size w w') (w : World) :
    Calls Try.prog 36 #[.int .i64 l, .agg #[.int .i64 3, .int .i64 o, .int .i64 p]] w fun e w' => e = .returned (.int .u64 0) ∧ Below w.heap.size w w' := by
  go_enter Try.func36, Try.ntmps36
  go_wp2
  go_region_held3 (fun w' => w'.cell? ⟨w.heap.size, 0, none⟩ = some (.int .i64 3) ∧ w'.cell? ⟨w.heap.size, 1, none⟩ = some (.int .i64 o) ∧ w'.cell? ⟨w.heap.size, 2, none⟩ = some (.int .i64 p))
    (first | go_keep | (go_split_ands; refine ⟨?_, ?_, ?_⟩ <;> (rw [hb1.cell (by simp)]; simp)))
    (first | (go_at_call 32; refine (hd _).mono ?_; rintro e w1 ⟨rfl, hb1⟩))
  go_wp2
  go_ret
  exact ⟨rfl, ((Below.refl _ _).alloc (Nat.le_refl _) _).drew.trans (hb1.mono (by simp))⟩
theorem implEnc_3noO (l o p O P : Int) (h1 : (O == o) = false)
    (hd : ∀ w, Calls Try.prog 32 #[.int .i64 l, .int .u64 (bits BinOp.or IntKind.u64 (bits BinOp.or IntKind.u64 (IntKind.u64.wrap (IntKind.u64.wrap o * 4096)) (IntKind.u64.wrap (IntKind.u64.wrap p * 4))) 3)] w fun e w' => e = .returned (.agg #[.int .i64 3, .int .i64 O, .int .i64 P]) ∧ Below w.heap.size w w') (w : World) :
    Calls Try.prog 36 #[.int .i64 l, .agg #[.int .i64 3, .int .i64 o, .int .i64 p]] w fun e w' => e = .returned (.int .u64 0) ∧ Below w.heap.size w w' := by
  go_enter Try.func36, Try.ntmps36
  go_wp2
  go_region_held3 (fun w' => w'.cell? ⟨w.heap.size, 0, none⟩ = some (.int .i64 3) ∧ w'.cell? ⟨w.heap.size, 1, none⟩ = some (.int .i64 o) ∧ w'.cell? ⟨w.heap.size, 2, none⟩ = some (.int .i64 p))
    (first | go_keep | (go_split_ands; refine ⟨?_, ?_, ?_⟩ <;> (rw [hb1.cell (by simp)]; simp)))
    (first | (go_at_call 32; refine (hd _).mono ?_; rintro e w1 ⟨rfl, hb1⟩))
  go_wp2
  go_ret
  exact ⟨rfl, ((Below.refl _ _).alloc (Nat.le_refl _) _).drew.trans (hb1.mono (by simp))⟩
theorem implEnc_3noP (l o p P : Int) (h1 : (P == p) = false)
    (hd : ∀ w, Calls Try.prog 32 #[.int .i64 l, .int .u64 (bits BinOp.or IntKind.u64 (bits BinOp.or IntKind.u64 (IntKind.u64.wrap (IntKind.u64.wrap o * 4096)) (IntKind.u64.wrap (IntKind.u64.wrap p * 4))) 3)] w fun e w' => e = .returned (.agg #[.int .i64 3, .int .i64 o, .int .i64 P]) ∧ Below w.heap.size w w') (w : World) :
    Calls Try.prog 36 #[.int .i64 l, .agg #[.int .i64 3, .int .i64 o, .int .i64 p]] w fun e w' => e = .returned (.int .u64 0) ∧ Below w.heap.size w w' := by
  go_enter Try.func36, Try.ntmps36
  go_wp2
  go_region_held3 (fun w' => w'.cell? ⟨w.heap.size, 0, none⟩ = some (.int .i64 3) ∧ w'.cell? ⟨w.heap.size, 1, none⟩ = some (.int .i64 o) ∧ w'.cell? ⟨w.heap.size, 2, none⟩ = some (.int .i64 p))
    (first | go_keep | (go_split_ands; refine ⟨?_, ?_, ?_⟩ <;> (rw [hb1.cell (by simp)]; simp)))
    (first | (go_at_call 32; refine (hd _).mono ?_; rintro e w1 ⟨rfl, hb1⟩))
  go_wp2
  go_ret
  exact ⟨rfl, ((Below.refl _ _).alloc (Nat.le_refl _) _).drew.trans (hb1.mono (by simp))⟩

theorem or_range (x y : Int) : 0 ≤ bits .or .u64 x y ∧ bits .or .u64 x y < 2 ^ 64 := by
  have := bits_lo_u64 .or x y
  have := bits_hi_u64 .or x y
  omega
theorem dOut_range (l x : Int) : 0 ≤ dOut l x ∧ dOut l x < 65536 := by
  unfold dOut; split <;> omega
theorem dPerm_range (l x : Int) : 0 ≤ dPerm l x ∧ dPerm l x ≤ 7 := by
  unfold dPerm; split <;> omega
theorem wrap_id (x : Int) (a : 0 ≤ x) (b : x < 18446744073709551616) : IntKind.u64.wrap x = x := by
  rw [IntKind.wrap_u64]; omega
theorem inner_eq (o p : Int) (a : 0 ≤ o) (b : o < 65536) (c : 0 ≤ p) (d : p ≤ 7) : bits BinOp.or IntKind.u64 (IntKind.u64.wrap (IntKind.u64.wrap o * 4096)) (IntKind.u64.wrap (IntKind.u64.wrap p * 4)) = o * 4096 + p * 4 := by
  rw [wrap_id o a (by omega), wrap_id p c (by omega), wrap_id (o * 4096) (by omega) (by omega), wrap_id (p * 4) (by omega) (by omega), or_op o p a b c d]
/-- The two words are one where the numbers fit their fields. -/
theorem implEnc_val (l k o p X : Int) (hk : k = 1 ∨ k = 2 ∨ k = 3) (hX : 0 ≤ o → o < 65536 → 0 ≤ p → p ≤ 7 → X = encW k o p) :
    (dKind l X = k ∧ dOut l X = o ∧ dPerm l X = p → X = encI l k o p) ∧ (¬ (dKind l X = k ∧ dOut l X = o ∧ dPerm l X = p) → 0 = encI l k o p) := by
  have r1 := dOut_range l X
  have r2 := dPerm_range l X
  constructor
  · rintro ⟨a, b, c⟩
    have hx := hX (by omega) (by omega) (by omega) (by omega)
    unfold encI Fits
    rw [← hx, if_pos ⟨hk, by omega, by omega, by omega, by omega, a, b, c⟩]
  · intro h
    unfold encI
    rw [if_neg]
    rintro ⟨_, a, b, c, d, f⟩
    have hx := hX a b c d
    unfold Fits at f
    rw [← hx] at f
    exact h f
theorem implEncode_any (l k o p : Int) (w : World) :
    Calls Try.prog 36 #[.int .i64 l, .agg #[.int .i64 k, .int .i64 o, .int .i64 p]] w fun e w' => e = .returned (.int .u64 (encI l k o p)) ∧ Below w.heap.size w w' := by
  by_cases hk : k = 1 ∨ k = 2 ∨ k = 3
  · rcases hk with rfl | rfl | rfl
    · have hx : 0 ≤ o → o < 65536 → 0 ≤ p → p ≤ 7 → (bits BinOp.or IntKind.u64 (bits BinOp.or IntKind.u64 (IntKind.u64.wrap (IntKind.u64.wrap o * 4096)) (IntKind.u64.wrap (IntKind.u64.wrap p * 4))) 3) = encW 1 o p := by
        intro a b c d; rw [inner_eq o p a b c d, or_3 o p a b c d]; simp [encW]
      have hr := or_range (bits BinOp.or IntKind.u64 (IntKind.u64.wrap (IntKind.u64.wrap o * 4096)) (IntKind.u64.wrap (IntKind.u64.wrap p * 4))) 3
      have hd := implDecode_any l (bits BinOp.or IntKind.u64 (bits BinOp.or IntKind.u64 (IntKind.u64.wrap (IntKind.u64.wrap o * 4096)) (IntKind.u64.wrap (IntKind.u64.wrap p * 4))) 3) hr.1 hr.2
      have hv := implEnc_val l 1 o p _ (by omega) hx
      unfold descV desc3 at hd
      by_cases a : dKind l (bits BinOp.or IntKind.u64 (bits BinOp.or IntKind.u64 (IntKind.u64.wrap (IntKind.u64.wrap o * 4096)) (IntKind.u64.wrap (IntKind.u64.wrap p * 4))) 3) = 1
      · by_cases b : dOut l (bits BinOp.or IntKind.u64 (bits BinOp.or IntKind.u64 (IntKind.u64.wrap (IntKind.u64.wrap o * 4096)) (IntKind.u64.wrap (IntKind.u64.wrap p * 4))) 3) = o
        · by_cases c : dPerm l (bits BinOp.or IntKind.u64 (bits BinOp.or IntKind.u64 (IntKind.u64.wrap (IntKind.u64.wrap o * 4096)) (IntKind.u64.wrap (IntKind.u64.wrap p * 4))) 3) = p
          · rw [← hv.1 ⟨a, b, c⟩]
            rw [a, b, c] at hd
            exact implEnc_1yes l o p hd w
          · rw [← hv.2 (fun h => c h.2.2)]
            rw [a, b] at hd
            exact implEnc_1noP l o p _ (by simpa using c) hd w
        · rw [← hv.2 (fun h => b h.2.1)]
          rw [a] at hd
          exact implEnc_1noO l o p _ _ (by simpa using b) hd w
      · rw [← hv.2 (fun h => a h.1)]
        exact implEnc_1noK l o p _ _ _ (by simpa using a) hd w
    · have hx : 0 ≤ o → o < 65536 → 0 ≤ p → p ≤ 7 → (bits BinOp.or IntKind.u64 (bits BinOp.or IntKind.u64 (IntKind.u64.wrap (IntKind.u64.wrap o * 4096)) (IntKind.u64.wrap (IntKind.u64.wrap p * 4))) 1) = encW 2 o p := by
        intro a b c d; rw [inner_eq o p a b c d, or_1 o p a b c d]; simp [encW]
      have hr := or_range (bits BinOp.or IntKind.u64 (IntKind.u64.wrap (IntKind.u64.wrap o * 4096)) (IntKind.u64.wrap (IntKind.u64.wrap p * 4))) 1
      have hd := implDecode_any l (bits BinOp.or IntKind.u64 (bits BinOp.or IntKind.u64 (IntKind.u64.wrap (IntKind.u64.wrap o * 4096)) (IntKind.u64.wrap (IntKind.u64.wrap p * 4))) 1) hr.1 hr.2
      have hv := implEnc_val l 2 o p _ (by omega) hx
      unfold descV desc3 at hd
      by_cases a : dKind l (bits BinOp.or IntKind.u64 (bits BinOp.or IntKind.u64 (IntKind.u64.wrap (IntKind.u64.wrap o * 4096)) (IntKind.u64.wrap (IntKind.u64.wrap p * 4))) 1) = 2
      · by_cases b : dOut l (bits BinOp.or IntKind.u64 (bits BinOp.or IntKind.u64 (IntKind.u64.wrap (IntKind.u64.wrap o * 4096)) (IntKind.u64.wrap (IntKind.u64.wrap p * 4))) 1) = o
        · by_cases c : dPerm l (bits BinOp.or IntKind.u64 (bits BinOp.or IntKind.u64 (IntKind.u64.wrap (IntKind.u64.wrap o * 4096)) (IntKind.u64.wrap (IntKind.u64.wrap p * 4))) 1) = p
          · rw [← hv.1 ⟨a, b, c⟩]
            rw [a, b, c] at hd
            exact implEnc_2yes l o p hd w
          · rw [← hv.2 (fun h => c h.2.2)]
            rw [a, b] at hd
            exact implEnc_2noP l o p _ (by simpa using c) hd w
        · rw [← hv.2 (fun h => b h.2.1)]
          rw [a] at hd
          exact implEnc_2noO l o p _ _ (by simpa using b) hd w
      · rw [← hv.2 (fun h => a h.1)]
        exact implEnc_2noK l o p _ _ _ (by simpa using a) hd w
    · have hx : 0 ≤ o → o < 65536 → 0 ≤ p → p ≤ 7 → (bits BinOp.or IntKind.u64 (bits BinOp.or IntKind.u64 (IntKind.u64.wrap (IntKind.u64.wrap o * 4096)) (IntKind.u64.wrap (IntKind.u64.wrap p * 4))) 3) = encW 3 o p := by
        intro a b c d; rw [inner_eq o p a b c d, or_3 o p a b c d]; simp [encW]
      have hr := or_range (bits BinOp.or IntKind.u64 (IntKind.u64.wrap (IntKind.u64.wrap o * 4096)) (IntKind.u64.wrap (IntKind.u64.wrap p * 4))) 3
      have hd := implDecode_any l (bits BinOp.or IntKind.u64 (bits BinOp.or IntKind.u64 (IntKind.u64.wrap (IntKind.u64.wrap o * 4096)) (IntKind.u64.wrap (IntKind.u64.wrap p * 4))) 3) hr.1 hr.2
      have hv := implEnc_val l 3 o p _ (by omega) hx
      unfold descV desc3 at hd
      by_cases a : dKind l (bits BinOp.or IntKind.u64 (bits BinOp.or IntKind.u64 (IntKind.u64.wrap (IntKind.u64.wrap o * 4096)) (IntKind.u64.wrap (IntKind.u64.wrap p * 4))) 3) = 3
      · by_cases b : dOut l (bits BinOp.or IntKind.u64 (bits BinOp.or IntKind.u64 (IntKind.u64.wrap (IntKind.u64.wrap o * 4096)) (IntKind.u64.wrap (IntKind.u64.wrap p * 4))) 3) = o
        · by_cases c : dPerm l (bits BinOp.or IntKind.u64 (bits BinOp.or IntKind.u64 (IntKind.u64.wrap (IntKind.u64.wrap o * 4096)) (IntKind.u64.wrap (IntKind.u64.wrap p * 4))) 3) = p
          · rw [← hv.1 ⟨a, b, c⟩]
            rw [a, b, c] at hd
            exact implEnc_3yes l o p hd w
          · rw [← hv.2 (fun h => c h.2.2)]
            rw [a, b] at hd
            exact implEnc_3noP l o p _ (by simpa using c) hd w
        · rw [← hv.2 (fun h => b h.2.1)]
          rw [a] at hd
          exact implEnc_3noO l o p _ _ (by simpa using b) hd w
      · rw [← hv.2 (fun h => a h.1)]
        exact implEnc_3noK l o p _ _ _ (by simpa using a) hd w
  · have : encI l k o p = 0 := by unfold encI; rw [if_neg (fun h => hk h.1)]
    rw [this]
    exact implEnc_kind l k o p hk w
end Go.Proofs.Ytnmhkgmmpkjjeaa
