import Derived.Test.YtnmhkgmmpkjjeabDec
namespace Go.Proofs.Ytnmhkgmmpkjjeab
open Go.ChangeShapes Go.WideShapes Go.ChangeAt Go.RowKit
set_option linter.unusedVariables false

theorem outOf_any (x : Int) (h0 : 0 ≤ x) (h1 : x < 2 ^ 64) (w : World) :
    Calls Try.prog 178 #[.int .u64 x] w fun e w' => e = .returned (.int .i64 (x / 4096 % 65536)) ∧ w' = w := by
  have e1 := and_out x h0 (by omega)
  have e2 : x / 4096 % 65536 * 4096 / 4096 = x / 4096 % 65536 := by omega
  go_enter Try.func178, Try.ntmps178
  go_wp2
  go_ret
  exact ⟨rfl, rfl⟩
theorem permOf_any (x : Int) (h0 : 0 ≤ x) (h1 : x < 2 ^ 64) (w : World) :
    Calls Try.prog 179 #[.int .u64 x] w fun e w' => e = .returned (.int .i64 (x / 4 % 8)) ∧ w' = w := by
  have e1 := and_28 x h0 (by omega)
  have e2 : x / 4 % 8 * 4 / 4 = x / 4 % 8 := by omega
  go_enter Try.func179, Try.ntmps179
  go_wp2
  go_ret
  exact ⟨rfl, rfl⟩

theorem form_inv (x : Int) (h0 : 0 ≤ x) (h1 : x < 2 ^ 64) (a1 : x % 2 = 0) (w : World) :
    Calls Try.prog 177 #[.int .u64 x] w fun e w' => e = .returned (.int .i64 0) ∧ w' = w := by
  have e1 := and_1 x h0 (by omega)
  go_enter Try.func177, Try.ntmps177
  go_wp2
  go_ret
  exact ⟨rfl, rfl⟩
theorem form_stray (x : Int) (h0 : 0 ≤ x) (h1 : x < 2 ^ 64) (a1 : x % 2 = 1) (a2 : ¬ x / 32 % 128 = 0 ∨ ¬ x / 268435456 = 0) (w : World) :
    Calls Try.prog 177 #[.int .u64 x] w fun e w' => e = .returned (.int .i64 4) ∧ w' = w := by
  have e1 := and_1 x h0 (by omega)
  have e2 : (bits .andNot .u64 x 268431391 == 0) = false := by
    rw [andNot_used x h0 (by omega)]
    simp only [beq_eq_false_iff_ne]
    omega
  have e3 : (bits .andNot .u64 x 268431391 != 0) = true := by simp [bne, e2]
  clear a2 e2
  go_enter Try.func177, Try.ntmps177
  go_wp2
  go_ret
  exact ⟨rfl, rfl⟩
theorem form_table (x : Int) (h0 : 0 ≤ x) (h1 : x < 2 ^ 64) (a1 : x % 2 = 1) (a2 : x / 32 % 128 = 0) (a3 : x / 268435456 = 0) (b : x / 2 % 2 = 1) (c : x / 4 % 8 = 0) (w : World) :
    Calls Try.prog 177 #[.int .u64 x] w fun e w' => e = .returned (.int .i64 1) ∧ w' = w := by
  have e1 := and_1 x h0 (by omega)
  have e2 := and_2 x h0 (by omega)
  have e3 := and_28 x h0 (by omega)
  have e4 := andNot_used x h0 (by omega)
  go_enter Try.func177, Try.ntmps177
  go_wp2
  go_ret
  exact ⟨rfl, rfl⟩
theorem form_page (x : Int) (h0 : 0 ≤ x) (h1 : x < 2 ^ 64) (a1 : x % 2 = 1) (a2 : x / 32 % 128 = 0) (a3 : x / 268435456 = 0) (b : x / 2 % 2 = 1) (c : 0 < x / 4 % 8) (w : World) :
    Calls Try.prog 177 #[.int .u64 x] w fun e w' => e = .returned (.int .i64 3) ∧ w' = w := by
  have e1 := and_1 x h0 (by omega)
  have e2 := and_2 x h0 (by omega)
  have e3 := and_28 x h0 (by omega)
  have e4 := andNot_used x h0 (by omega)
  have c1 : (x / 4 % 8 * 4 != 0) = true := by simp only [bne_iff_ne]; omega
  go_enter Try.func177, Try.ntmps177
  go_wp2
  go_ret
  exact ⟨rfl, rfl⟩
theorem form_block (x : Int) (h0 : 0 ≤ x) (h1 : x < 2 ^ 64) (a1 : x % 2 = 1) (a2 : x / 32 % 128 = 0) (a3 : x / 268435456 = 0) (b : x / 2 % 2 = 0) (c : 0 < x / 4 % 8) (d : x / 4096 % 65536 % 16 = 0) (w : World) :
    Calls Try.prog 177 #[.int .u64 x] w fun e w' => e = .returned (.int .i64 2) ∧ w' = w := by
  have e1 := and_1 x h0 (by omega)
  have e2 := and_2 x h0 (by omega)
  have e3 := and_28 x h0 (by omega)
  have e4 := andNot_used x h0 (by omega)
  have c1 : (x / 4 % 8 * 4 != 0) = true := by simp only [bne_iff_ne]; omega
  have d1 : (x / 4096 % 16 == 0) = true := by simp only [beq_iff_eq]; omega
  go_enter Try.func177, Try.ntmps177
  go_wp2_with (go_at_call 178; refine (outOf_any _ h0 h1 _).mono ?_; rintro e w' ⟨rfl, rfl⟩)
  go_ret
  exact ⟨rfl, rfl⟩
theorem form_odd (x : Int) (h0 : 0 ≤ x) (h1 : x < 2 ^ 64) (a1 : x % 2 = 1) (a2 : x / 32 % 128 = 0) (a3 : x / 268435456 = 0) (b : x / 2 % 2 = 0) (c : 0 < x / 4 % 8) (d : 0 < x / 4096 % 65536 % 16) (w : World) :
    Calls Try.prog 177 #[.int .u64 x] w fun e w' => e = .returned (.int .i64 4) ∧ w' = w := by
  have e1 := and_1 x h0 (by omega)
  have e2 := and_2 x h0 (by omega)
  have e3 := and_28 x h0 (by omega)
  have e4 := andNot_used x h0 (by omega)
  have c1 : (x / 4 % 8 * 4 != 0) = true := by simp only [bne_iff_ne]; omega
  have d1 : (x / 4096 % 16 == 0) = false := by simp only [beq_eq_false_iff_ne]; omega
  go_enter Try.func177, Try.ntmps177
  go_wp2_with (go_at_call 178; refine (outOf_any _ h0 h1 _).mono ?_; rintro e w' ⟨rfl, rfl⟩)
  go_ret
  exact ⟨rfl, rfl⟩
theorem form_none (x : Int) (h0 : 0 ≤ x) (h1 : x < 2 ^ 64) (a1 : x % 2 = 1) (a2 : x / 32 % 128 = 0) (a3 : x / 268435456 = 0) (b : x / 2 % 2 = 0) (c : x / 4 % 8 = 0) (w : World) :
    Calls Try.prog 177 #[.int .u64 x] w fun e w' => e = .returned (.int .i64 4) ∧ w' = w := by
  have e1 := and_1 x h0 (by omega)
  have e2 := and_2 x h0 (by omega)
  have e3 := and_28 x h0 (by omega)
  have e4 := andNot_used x h0 (by omega)
  go_enter Try.func177, Try.ntmps177
  go_wp2
  go_ret
  exact ⟨rfl, rfl⟩

/-! impl.kindAt at the forms that the ways name. -/
theorem kind_out (l f : Int) (h : l < 1 ∨ 3 < l) (w : World) :
    Calls Try.prog 176 #[.int .i64 l, .int .i64 f] w fun e w' => e = .returned (.int .i64 4) ∧ w' = w := by
  rcases h with h | h
  all_goals
    go_enter Try.func176, Try.ntmps176
    go_wp2
    go_ret
    exact ⟨rfl, rfl⟩
def kAt (l f : Int) : Int := if f = 0 then 0 else if f = 1 ∧ l < 3 then 1 else if f = 2 ∧ l = 2 then 2 else if f = 3 ∧ l = 3 then 3 else 4
set_option maxHeartbeats 2000000 in
theorem kind_in (l f : Int) (hl : l = 1 ∨ l = 2 ∨ l = 3) (hf : f = 0 ∨ f = 1 ∨ f = 2 ∨ f = 3 ∨ f = 4) (w : World) :
    Calls Try.prog 176 #[.int .i64 l, .int .i64 f] w fun e w' => e = .returned (.int .i64 (kAt l f)) ∧ w' = w := by
  rcases hl with rfl | rfl | rfl <;> rcases hf with rfl | rfl | rfl | rfl | rfl
  all_goals as_aux_lemma =>
    go_enter Try.func176, Try.ntmps176
    go_wp2
    go_ret
    exact ⟨rfl, rfl⟩

/-! impl.Decode. -/
theorem impl_out (l x : Int) (h : l < 1 ∨ 3 < l) (h0 : 0 ≤ x) (h1 : x < 2 ^ 64) (f : Int) (hf : ∀ w, Calls Try.prog 177 #[.int .u64 x] w fun e w' => e = .returned (.int .i64 f) ∧ w' = w) (w : World) :
    Calls Try.prog 121 #[.int .i64 l, .int .u64 x] w fun e w' => e = .returned (desc3 4 0 0) ∧ Below w.heap.size w w' := by
  go_enter Try.func121, Try.ntmps121
  go_wp2_with (first
    | (go_at_call 177; refine (hf _).mono ?_; rintro e w' ⟨rfl, rfl⟩)
    | (go_at_call 176; refine (kind_out _ _ h _).mono ?_; rintro e w' ⟨rfl, rfl⟩))
  exact bodyPost_ret (v := .agg #[.int .i64 4, .int .i64 0, .int .i64 0]) (by simp [results, Try.results121, go_sem]) rfl ⟨rfl, (Below.refl _ _).alloc (Nat.le_refl _) _⟩
theorem impl_none (l x k : Int) (hl : l = 1 ∨ l = 2 ∨ l = 3) (h0 : 0 ≤ x) (h1 : x < 2 ^ 64) (f : Int) (hf5 : f = 0 ∨ f = 1 ∨ f = 2 ∨ f = 3 ∨ f = 4) (hk : kAt l f = k) (hk4 : k = 0 ∨ k = 4)
    (hf : ∀ w, Calls Try.prog 177 #[.int .u64 x] w fun e w' => e = .returned (.int .i64 f) ∧ w' = w) (w : World) :
    Calls Try.prog 121 #[.int .i64 l, .int .u64 x] w fun e w' => e = .returned (desc3 k 0 0) ∧ Below w.heap.size w w' := by
  have hc : ∀ w, Calls Try.prog 176 #[.int .i64 l, .int .i64 f] w fun e w' => e = .returned (.int .i64 k) ∧ w' = w := by
    intro w; rw [← hk]; exact kind_in l f hl hf5 w
  clear hl hf5 hk
  rcases hk4 with rfl | rfl
  · go_enter Try.func121, Try.ntmps121
    go_wp2_with (first
      | (go_at_call 177; refine (hf _).mono ?_; rintro e w' ⟨rfl, rfl⟩)
      | (go_at_call 176; refine (hc _).mono ?_; rintro e w' ⟨rfl, rfl⟩))
    exact bodyPost_ret (v := .agg #[.int .i64 0, .int .i64 0, .int .i64 0]) (by simp [results, Try.results121, go_sem]) rfl ⟨rfl, (Below.refl _ _).alloc (Nat.le_refl _) _⟩
  · go_enter Try.func121, Try.ntmps121
    go_wp2_with (first
      | (go_at_call 177; refine (hf _).mono ?_; rintro e w' ⟨rfl, rfl⟩)
      | (go_at_call 176; refine (hc _).mono ?_; rintro e w' ⟨rfl, rfl⟩))
    exact bodyPost_ret (v := .agg #[.int .i64 4, .int .i64 0, .int .i64 0]) (by simp [results, Try.results121, go_sem]) rfl ⟨rfl, (Below.refl _ _).alloc (Nat.le_refl _) _⟩
theorem impl_some (l x k : Int) (hl : l = 1 ∨ l = 2 ∨ l = 3) (h0 : 0 ≤ x) (h1 : x < 2 ^ 64) (f : Int) (hf5 : f = 0 ∨ f = 1 ∨ f = 2 ∨ f = 3 ∨ f = 4) (hk : kAt l f = k) (hk4 : k = 1 ∨ k = 2 ∨ k = 3)
    (hf : ∀ w, Calls Try.prog 177 #[.int .u64 x] w fun e w' => e = .returned (.int .i64 f) ∧ w' = w) (w : World) :
    Calls Try.prog 121 #[.int .i64 l, .int .u64 x] w fun e w' => e = .returned (desc3 k (x / 4096 % 65536) (x / 4 % 8)) ∧ Below w.heap.size w w' := by
  have hc : ∀ w, Calls Try.prog 176 #[.int .i64 l, .int .i64 f] w fun e w' => e = .returned (.int .i64 k) ∧ w' = w := by
    intro w; rw [← hk]; exact kind_in l f hl hf5 w
  clear hl hf5 hk
  rcases hk4 with rfl | rfl | rfl
  all_goals
    go_enter Try.func121, Try.ntmps121
    go_wp2_with (first
      | (go_at_call 177; refine (hf _).mono ?_; rintro e w' ⟨rfl, rfl⟩)
      | (go_at_call 176; refine (hc _).mono ?_; rintro e w' ⟨rfl, rfl⟩)
      | (go_at_call 178; refine (outOf_any _ h0 h1 _).mono ?_; rintro e w' ⟨rfl, rfl⟩)
      | (go_at_call 179; refine (permOf_any _ h0 h1 _).mono ?_; rintro e w' ⟨rfl, rfl⟩))
    exact bodyPost_ret (v := .agg #[_, .int .i64 (x / 4096 % 65536), .int .i64 (x / 4 % 8)]) (by simp [results, Try.results121, go_sem]) rfl ⟨rfl, (Below.refl _ _).alloc (Nat.le_refl _) _⟩

theorem implDecode_any (l x : Int) (h0 : 0 ≤ x) (h1 : x < 2 ^ 64) (w : World) :
    Calls Try.prog 121 #[.int .i64 l, .int .u64 x] w fun e w' => e = .returned (descV l x) ∧ Below w.heap.size w w' := by
  rcases desc_cases l x with ⟨a, e⟩ | ⟨a, b, c, e⟩ | ⟨a, b, c, d, f, g, e⟩ | ⟨rfl, b, c, d, f, g, h, e⟩ | ⟨rfl, b, c, d, f, g, e⟩ | ⟨a, b, c, d, e⟩ <;> rw [e]
  · have hx : ∃ f, ∀ w, Calls Try.prog 177 #[.int .u64 x] w fun e w' => e = .returned (.int .i64 f) ∧ w' = w := by
      by_cases a1 : x % 2 = 0
      · exact ⟨0, form_inv x h0 h1 a1⟩
      · by_cases a2 : x / 32 % 128 = 0 ∧ x / 268435456 = 0
        · by_cases c : x / 4 % 8 = 0 <;> by_cases b : x / 2 % 2 = 0
          · exact ⟨4, form_none x h0 h1 (by omega) a2.1 a2.2 b c⟩
          · exact ⟨1, form_table x h0 h1 (by omega) a2.1 a2.2 (by omega) c⟩
          · by_cases d : x / 4096 % 65536 % 16 = 0
            · exact ⟨2, form_block x h0 h1 (by omega) a2.1 a2.2 b (by omega) d⟩
            · exact ⟨4, form_odd x h0 h1 (by omega) a2.1 a2.2 b (by omega) (by omega)⟩
          · exact ⟨3, form_page x h0 h1 (by omega) a2.1 a2.2 (by omega) (by omega)⟩
        · exact ⟨4, form_stray x h0 h1 (by omega) (by omega)⟩
    obtain ⟨f, hf⟩ := hx
    exact impl_out l x a h0 h1 f hf w
  · exact impl_none l x 0 (by omega) h0 h1 0 (by omega) (by simp [kAt]) (by omega) (form_inv x h0 h1 c) w
  · have := impl_some l x 1 (by omega) h0 h1 1 (by omega) (by simp [kAt]; omega) (by omega) (form_table x h0 h1 b c d f g) w
    rw [g] at this
    exact this
  · exact impl_some 2 x 2 (by omega) h0 h1 2 (by omega) (by simp [kAt]) (by omega) (form_block x h0 h1 b c d f g h) w
  · exact impl_some 3 x 3 (by omega) h0 h1 3 (by omega) (by simp [kAt]) (by omega) (form_page x h0 h1 b c d f g) w
  · have hl : l = 1 ∨ l = 2 ∨ l = 3 := by omega
    rcases d with d | ⟨d, d'⟩ | ⟨d, d', hb⟩
    · exact impl_none l x 4 hl h0 h1 4 (by omega) (by simp [kAt]) (by omega) (form_stray x h0 h1 c (.inl d)) w
    · exact impl_none l x 4 hl h0 h1 4 (by omega) (by simp [kAt]) (by omega) (form_stray x h0 h1 c (.inr d')) w
    · rcases hb with ⟨rfl, p, q⟩ | ⟨rfl, p, q, r⟩ | ⟨rfl, p, q, r⟩ | ⟨rfl, p, q⟩ | ⟨rfl, p, q⟩ | ⟨rfl, p, q, r⟩ | ⟨rfl, p, q⟩ | ⟨rfl, p, q⟩ | ⟨rfl, p, q⟩ | ⟨rfl, p, q, r⟩ | ⟨rfl, p, q, r⟩
      · exact impl_none 1 x 4 hl h0 h1 4 (by omega) (by simp [kAt]) (by omega) (form_none x h0 h1 c d d' p q) w
      · exact impl_none 1 x 4 hl h0 h1 2 (by omega) (by simp [kAt]) (by omega) (form_block x h0 h1 c d d' p q r) w
      · exact impl_none 1 x 4 hl h0 h1 4 (by omega) (by simp [kAt]) (by omega) (form_odd x h0 h1 c d d' p q r) w
      · exact impl_none 1 x 4 hl h0 h1 3 (by omega) (by simp [kAt]) (by omega) (form_page x h0 h1 c d d' p q) w
      · exact impl_none 2 x 4 hl h0 h1 4 (by omega) (by simp [kAt]) (by omega) (form_none x h0 h1 c d d' p q) w
      · exact impl_none 2 x 4 hl h0 h1 4 (by omega) (by simp [kAt]) (by omega) (form_odd x h0 h1 c d d' p q r) w
      · exact impl_none 2 x 4 hl h0 h1 3 (by omega) (by simp [kAt]) (by omega) (form_page x h0 h1 c d d' p q) w
      · exact impl_none 3 x 4 hl h0 h1 1 (by omega) (by simp [kAt]) (by omega) (form_table x h0 h1 c d d' p q) w
      · exact impl_none 3 x 4 hl h0 h1 4 (by omega) (by simp [kAt]) (by omega) (form_none x h0 h1 c d d' p q) w
      · exact impl_none 3 x 4 hl h0 h1 2 (by omega) (by simp [kAt]) (by omega) (form_block x h0 h1 c d d' p q r) w
      · exact impl_none 3 x 4 hl h0 h1 4 (by omega) (by simp [kAt]) (by omega) (form_odd x h0 h1 c d d' p q r) w

theorem bcell {W w1 : World} (hb : Below W.heap.size W w1) : (∀ b o, b < W.heap.size → w1.cell? ⟨b, o, none⟩ = W.cell? ⟨b, o, none⟩) ∧ (∀ b o, b < W.heap.size → w1.frozen? ⟨b, o, none⟩ = W.frozen? ⟨b, o, none⟩) :=
  ⟨fun b o h => hb.cell (p := ⟨b, o, none⟩) h, fun b o h => hb.frozen (p := ⟨b, o, none⟩) h⟩
end Go.Proofs.Ytnmhkgmmpkjjeab
