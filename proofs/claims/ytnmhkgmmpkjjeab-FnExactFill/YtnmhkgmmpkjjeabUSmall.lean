import Derived.Test.YtnmhkgmmpkjjeabUBits
namespace Go.Proofs.Ytnmhkgmmpkjjeab
open Go.ChangeShapes Go.WideShapes Go.ChangeAt Go.RowKit
set_option linter.unusedVariables false
attribute [local go_sem ↓] Go.wp_at_zero Go.wp_at_succ

theorem within_any (b o : Nat) (page pages : Int) (doom : Bool) (hp0 : 0 ≤ page) (hp1 : page < 100000) (hs : pages = 1 ∨ pages = 16 ∨ pages = 256) (w : World) (hb : b < w.heap.size) (hc : w.cell? ⟨b, o + 2, none⟩ = some (.bool doom)) :
    Calls Try.prog 127 #[.pointer (some ⟨b, o, none⟩), .int .i64 page, .int .i64 pages] w fun e w' => e = .returned (.agg #[.int .i64 (page - page % pages), .int .i64 pages, .bool doom]) ∧ Below w.heap.size w w' := by
  have HK : Hid (∀ wX, Below w.heap.size w wX → wX.cell? ⟨b, o + 2, none⟩ = some (.bool doom)) := fun wX hX => (hX.cell (by simpa using hb)).trans hc
  have hwp : IntKind.i64.wrap page = page := by rw [IntKind.wrap_i64]; omega
  rcases hs with rfl | rfl | rfl
  · have e1 : page - page % 1 = page := by omega
    rw [e1]
    clear e1
    go_enter Try.func127, Try.ntmps127
    go_wp2_with fail
    go_region_held3 (fun w' => w'.cell? ⟨b, o + 2, none⟩ = some (.bool doom)) ((refine HK.out _ ?_; repeat (first | exact Below.refl _ _ | with_reducible refine Below.drew ?_ | refine Below.alloc ?_ (by first | omega | (simp <;> omega)) _))) (fail)
    go_wp2
    exact bodyPost_ret (v := .agg #[.int .i64 page, .int .i64 1, .bool doom]) (by simp [results, Try.results127, go_sem]) rfl ⟨rfl, ((Below.refl _ _).alloc (Nat.le_refl _) _).drew⟩
  · clear hwp
    go_enter Try.func127, Try.ntmps127
    go_wp2_with fail
    go_region_held3 (fun w' => w'.cell? ⟨b, o + 2, none⟩ = some (.bool doom)) ((refine HK.out _ ?_; repeat (first | exact Below.refl _ _ | with_reducible refine Below.drew ?_ | refine Below.alloc ?_ (by first | omega | (simp <;> omega)) _))) (fail)
    go_wp2
    exact bodyPost_ret (v := .agg #[.int .i64 (page - page % 16), .int .i64 16, .bool doom]) (by simp [results, Try.results127, go_sem, Int.tmod_eq_emod_of_nonneg hp0, show IntKind.i64.wrap (page - page % 16) = page - page % 16 by rw [IntKind.wrap_i64]; omega]) rfl ⟨rfl, ((Below.refl _ _).alloc (Nat.le_refl _) _).drew⟩
  · clear hwp
    go_enter Try.func127, Try.ntmps127
    go_wp2_with fail
    go_region_held3 (fun w' => w'.cell? ⟨b, o + 2, none⟩ = some (.bool doom)) ((refine HK.out _ ?_; repeat (first | exact Below.refl _ _ | with_reducible refine Below.drew ?_ | refine Below.alloc ?_ (by first | omega | (simp <;> omega)) _))) (fail)
    go_wp2
    exact bodyPost_ret (v := .agg #[.int .i64 (page - page % 256), .int .i64 256, .bool doom]) (by simp [results, Try.results127, go_sem, Int.tmod_eq_emod_of_nonneg hp0, show IntKind.i64.wrap (page - page % 256) = page - page % 256 by rw [IntKind.wrap_i64]; omega]) rfl ⟨rfl, ((Below.refl _ _).alloc (Nat.le_refl _) _).drew⟩

theorem addr_any (b : Nat) (page level table : Int) (hp0 : 0 ≤ page) (hp1 : page < 4096) (hl : level = 1 ∨ level = 2 ∨ level = 3) (ht0 : 0 ≤ table) (ht1 : table < 100000) (w : World) (hl3 : w.cell? ⟨b, 3, none⟩ = some (.int .i64 level)) (ht4 : w.cell? ⟨b, 4, none⟩ = some (.int .i64 table)) :
    Calls Try.prog 123 #[.pointer (some ⟨b, 0, none⟩), .int .i64 page] w fun e w' => e = .returned (.int .i64 (table * 16 + idx page level)) ∧ Below w.heap.size w w' := by
  rcases hl with rfl | rfl | rfl
  · have hc : ∀ w, Calls Try.prog 173 #[.int .i64 1] w fun e w' => e = .returned (.int .i64 256) ∧ w' = w := entryPages_any 1
    have e1 : idx page 1 = page / 256 % 16 := by simp [idx]; omega
    rw [e1]
    clear e1
    go_enter Try.func123, Try.ntmps123
    go_wp2_with fail
    go_quiet ((go_at_call 173; exact Calls.quiet_of_same (hc _)))
    go_wp2
    go_ret
    exact ⟨rfl, bDrewN (Below.refl _ _) _⟩
  · have hc : ∀ w, Calls Try.prog 173 #[.int .i64 2] w fun e w' => e = .returned (.int .i64 16) ∧ w' = w := entryPages_any 2
    have e1 : idx page 2 = page / 16 % 16 := by simp [idx]
    rw [e1]
    clear e1
    go_enter Try.func123, Try.ntmps123
    go_wp2_with fail
    go_quiet ((go_at_call 173; exact Calls.quiet_of_same (hc _)))
    go_wp2
    go_ret
    exact ⟨rfl, bDrewN (Below.refl _ _) _⟩
  · have hc : ∀ w, Calls Try.prog 173 #[.int .i64 3] w fun e w' => e = .returned (.int .i64 1) ∧ w' = w := entryPages_any 3
    have e1 : idx page 3 = page % 16 := by simp [idx]
    have hwp : IntKind.i64.wrap page = page := by rw [IntKind.wrap_i64]; omega
    rw [e1]
    clear e1
    go_enter Try.func123, Try.ntmps123
    go_wp2_with fail
    go_quiet ((go_at_call 173; exact Calls.quiet_of_same (hc _)))
    go_wp2
    go_ret
    exact ⟨rfl, bDrewN (Below.refl _ _) _⟩

theorem hit_any (b o : Nat) (page ep pages out perm : Int) (hp0 : 0 ≤ page) (hp1 : page < 100000) (he0 : 0 ≤ ep) (he1 : ep < 100000) (ho0 : 0 ≤ out) (ho1 : out < 100000) (w : World) (hb : b < w.heap.size) (h0 : w.cell? ⟨b, o, none⟩ = some (.int .i64 ep)) (h1 : w.cell? ⟨b, o + 1, none⟩ = some (.int .i64 pages)) (h3 : w.cell? ⟨b, o + 3, none⟩ = some (.int .i64 out)) (h4 : w.cell? ⟨b, o + 4, none⟩ = some (.int .i64 perm)) :
    Calls Try.prog 181 #[.pointer (some ⟨b, o, none⟩), .int .i64 page] w fun e w' => e = .returned (.agg #[.int .i64 1, .int .i64 (out + page - ep), .int .i64 perm, .int .i64 pages]) ∧ Below w.heap.size w w' := by
  have HK : Hid (∀ wX, Below w.heap.size w wX → wX.cell? ⟨b, o, none⟩ = some (.int .i64 ep) ∧ wX.cell? ⟨b, o + 1, none⟩ = some (.int .i64 pages) ∧ wX.cell? ⟨b, o + 3, none⟩ = some (.int .i64 out) ∧ wX.cell? ⟨b, o + 4, none⟩ = some (.int .i64 perm)) := fun wX hX => ⟨(hX.cell (by simpa using hb)).trans h0, (hX.cell (by simpa using hb)).trans h1, (hX.cell (by simpa using hb)).trans h3, (hX.cell (by simpa using hb)).trans h4⟩
  go_enter Try.func181, Try.ntmps181
  go_wp2_with fail
  go_region_held3 (fun wX => wX.cell? ⟨b, o, none⟩ = some (.int .i64 ep) ∧ wX.cell? ⟨b, o + 1, none⟩ = some (.int .i64 pages) ∧ wX.cell? ⟨b, o + 3, none⟩ = some (.int .i64 out) ∧ wX.cell? ⟨b, o + 4, none⟩ = some (.int .i64 perm)) ((refine HK.out _ ?_; repeat (first | exact Below.refl _ _ | with_reducible refine Below.drew ?_ | refine Below.alloc ?_ (by first | omega | (simp <;> omega)) _))) (fail)
  go_wp2
  exact bodyPost_ret (v := .agg #[.int .i64 1, .int .i64 (out + page - ep), .int .i64 perm, .int .i64 pages]) (by simp [results, Try.results181, go_sem, show IntKind.i64.wrap (out + page) = out + page by rw [IntKind.wrap_i64]; omega, show IntKind.i64.wrap (out + page - ep) = out + page - ep by rw [IntKind.wrap_i64]; omega]) rfl ⟨rfl, ((Below.refl _ _).alloc (Nat.le_refl _) _).drew⟩

/-- The machine's block: mem, latest, pend, tlb, wc. -/
theorem readU_any (gu : Nat) (g1 g2 : Nat) (n1 c1 n2 c2 : Nat) (A : Nat) (late : Bool) (x : Int) (w : World)
    (h0 : late = false → w.cell? ⟨gu, 0, none⟩ = some (.slice (some ⟨g1, 0, none⟩) n1 c1) ∧ A < n1 ∧ w.cell? ⟨g1, A, none⟩ = some (.int .u64 x))
    (h1 : late = true → w.cell? ⟨gu, 1, none⟩ = some (.slice (some ⟨g2, 0, none⟩) n2 c2) ∧ A < n2 ∧ w.cell? ⟨g2, A, none⟩ = some (.int .u64 x)) :
    Calls Try.prog 122 #[.pointer (some ⟨gu, 0, none⟩), .int .i64 A, .bool late] w fun e w' => e = .returned (.int .u64 x) ∧ Below w.heap.size w w' := by
  have A1 : (0 : Int) ≤ (A : Int) := by omega
  cases late
  · obtain ⟨a, b, c⟩ := h0 rfl
    have A2 : (A : Int) < (n1 : Int) := by omega
    clear h0 h1 b
    go_enter Try.func122, Try.ntmps122
    go_wp2
    go_ret
    exact ⟨rfl, Below.refl _ _⟩
  · obtain ⟨a, b, c⟩ := h1 rfl
    have A2 : (A : Int) < (n2 : Int) := by omega
    clear h0 h1 b
    go_enter Try.func122, Try.ntmps122
    go_wp2
    go_ret
    exact ⟨rfl, Below.refl _ _⟩

/-- Two stretches of pages meet. -/
def meets (a n b m : Int) : Bool := decide (a < b + m) && decide (b < a + n)
theorem overlaps_any (b o : Nat) (hp hn first pages : Int) (h0 : 0 ≤ hp ∧ hp < 100000) (h1 : 0 ≤ hn ∧ hn < 100000) (h2 : 0 ≤ first ∧ first < 100000) (h3 : 0 ≤ pages ∧ pages < 100000) (w : World) (c0 : w.cell? ⟨b, o, none⟩ = some (.int .i64 hp)) (c1 : w.cell? ⟨b, o + 1, none⟩ = some (.int .i64 hn)) :
    Calls Try.prog 150 #[.pointer (some ⟨b, o, none⟩), .int .i64 first, .int .i64 pages] w fun e w' => e = .returned (.bool (meets hp hn first pages)) ∧ Below w.heap.size w w' := by
  unfold meets
  by_cases a : hp < first + pages
  · have a' : decide (hp < first + pages) = true := by simpa using a
    by_cases d : first < hp + hn
    · have d' : decide (first < hp + hn) = true := by simpa using d
      rw [a', d']
      clear a d
      go_enter Try.func150, Try.ntmps150
      go_wp2_with fail
      go_quiet (fail)
      go_wp2
      go_ret
      exact ⟨rfl, bDrewN (Below.refl _ _) _⟩
    · have d' : decide (first < hp + hn) = false := by simpa using d
      rw [a', d']
      clear a d
      go_enter Try.func150, Try.ntmps150
      go_wp2_with fail
      go_quiet (fail)
      go_wp2
      go_ret
      exact ⟨rfl, bDrewN (Below.refl _ _) _⟩
  · have a' : decide (hp < first + pages) = false := by simpa using a
    rw [a']
    clear a
    go_enter Try.func150, Try.ntmps150
    go_wp2_with fail
    go_quiet (fail)
    go_wp2
    go_ret
    exact ⟨by simp, bDrewN (Below.refl _ _) _⟩
theorem covers_hdr (b o : Nat) (hp hn page : Int) (h0 : 0 ≤ hp ∧ hp < 100000) (h1 : 0 ≤ hn ∧ hn < 100000) (h2 : 0 ≤ page ∧ page < 100000) (w : World) (c0 : w.cell? ⟨b, o, none⟩ = some (.int .i64 hp)) (c1 : w.cell? ⟨b, o + 1, none⟩ = some (.int .i64 hn)) :
    Calls Try.prog 175 #[.pointer (some ⟨b, o, none⟩), .int .i64 page] w fun e w' => e = .returned (.bool (meets hp hn page 1)) ∧ Below w.heap.size w w' := by
  have h := overlaps_any b o hp hn page 1 h0 h1 h2 (by omega) w c0 c1
  go_enter Try.func175, Try.ntmps175
  go_wp2_with fail
  refine h.mono ?_
  rintro e w1 ⟨rfl, hb1⟩
  go_wp2_with fail
  go_ret
  exact ⟨rfl, hb1⟩
end Go.Proofs.Ytnmhkgmmpkjjeab
