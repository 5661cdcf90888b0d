import Derived.Test.YtnmhkgmmpkjjeabUState
import Derived.Test.YtnmhkgmmpkjjeabMConf
import Derived.Deep.RegionHeld3
namespace Go.Proofs.Ytnmhkgmmpkjjeab
open Go.ChangeShapes Go.WideShapes Go.ChangeAt Go.RowKit
set_option linter.unusedVariables false
attribute [local go_sem ↓] Go.wp_at_zero Go.wp_at_succ

set_option maxHeartbeats 1000000 in
theorem agrees_any (b o : Nat) (x y : TlbE) (w : World) (hb : b < w.heap.size) (c0 : w.cell? ⟨b, o, none⟩ = some (.int .i64 x.page)) (c1 : w.cell? ⟨b, o + 1, none⟩ = some (.int .i64 x.size)) (c2 : w.cell? ⟨b, o + 2, none⟩ = some (.bool x.doom)) (c3 : w.cell? ⟨b, o + 3, none⟩ = some (.int .i64 x.out)) (c4 : w.cell? ⟨b, o + 4, none⟩ = some (.int .i64 x.perm)) :
    Calls Try.prog 151 #[.pointer (some ⟨b, o, none⟩), .agg #[.int .i64 y.page, .int .i64 y.size, .bool y.doom, .int .i64 y.out, .int .i64 y.perm]] w fun r w' => r = .returned (.bool (sameB x y)) ∧ Below w.heap.size w w' := by
  by_cases h0 : x.page = y.page
  · have k0 : (x.page == y.page) = true := by simpa using h0
    by_cases h1 : x.size = y.size
    · have k1 : (x.size == y.size) = true := by simpa using h1
      by_cases h2 : x.out = y.out
      · have k2 : (x.out == y.out) = true := by simpa using h2
        by_cases h3 : x.perm = y.perm
        · have k3 : (x.perm == y.perm) = true := by simpa using h3
          have hs : sameB x y = true := by simp [sameB, h0, h1, h2, h3]
          rw [hs]
          clear hs h0 h1 h2 h3
          go_enter Try.func151, Try.ntmps151
          go_wp2_with fail
          go_quiet (fail)
          go_wp2_with fail
          go_ret
          exact ⟨rfl, bDrewN ((Below.refl _ _).alloc (Nat.le_refl _) _) _⟩
        · have k3 : (x.perm == y.perm) = false := by simpa using h3
          have hs : sameB x y = false := by simp [sameB, h3]
          rw [hs]
          clear hs h0 h1 h2 h3
          go_enter Try.func151, Try.ntmps151
          go_wp2_with fail
          go_quiet (fail)
          go_wp2_with fail
          go_ret
          exact ⟨rfl, bDrewN ((Below.refl _ _).alloc (Nat.le_refl _) _) _⟩
      · have k2 : (x.out == y.out) = false := by simpa using h2
        have hs : sameB x y = false := by simp [sameB, h2]
        rw [hs]
        clear hs h0 h1 h2
        go_enter Try.func151, Try.ntmps151
        go_wp2_with fail
        go_quiet (fail)
        go_wp2_with fail
        go_ret
        exact ⟨rfl, bDrewN ((Below.refl _ _).alloc (Nat.le_refl _) _) _⟩
    · have k1 : (x.size == y.size) = false := by simpa using h1
      have hs : sameB x y = false := by simp [sameB, h1]
      rw [hs]
      clear hs h0 h1
      go_enter Try.func151, Try.ntmps151
      go_wp2_with fail
      go_quiet (fail)
      go_wp2_with fail
      go_ret
      exact ⟨rfl, bDrewN ((Below.refl _ _).alloc (Nat.le_refl _) _) _⟩
  · have k0 : (x.page == y.page) = false := by simpa using h0
    have hs : sameB x y = false := by simp [sameB, h0]
    rw [hs]
    clear hs h0
    go_enter Try.func151, Try.ntmps151
    go_wp2_with fail
    go_quiet (fail)
    go_wp2_with fail
    go_ret
    exact ⟨rfl, bDrewN ((Below.refl _ _).alloc (Nat.le_refl _) _) _⟩
end Go.Proofs.Ytnmhkgmmpkjjeab
