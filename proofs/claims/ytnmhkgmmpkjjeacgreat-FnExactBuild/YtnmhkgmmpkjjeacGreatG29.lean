import Derived.Test.YtnmhkgmmpkjjeacGreatG21
namespace Go.Proofs.YtnmhkgmmpkjjeacGreat
open Go.ChangeShapes Go.WideShapes Go.ChangeAt Go.RowKit
set_option linter.unusedVariables false
set_option maxRecDepth 100000
attribute [local go_sem ↓] Go.wp_at_zero Go.wp_at_succ

/-- Nothing old is turned but blocks of S. -/
structure Tch (S : Nat → Prop) (w w' : World) : Prop where
  os : w'.os = w.os
  tape : w'.tape = w.tape
  output : w'.output = w.output
  size : w.heap.size ≤ w'.heap.size
  block : ∀ k, k < w.heap.size → ¬ S k → w'.heap[k]? = w.heap[k]?
theorem Tch.refl {S : Nat → Prop} (w : World) : Tch S w w := ⟨rfl, rfl, rfl, Nat.le_refl _, fun _ _ _ => rfl⟩
theorem Tch.of_below {S : Nat → Prop} {a b : World} (h : Below a.heap.size a b) : Tch S a b := ⟨h.os, h.tape, h.output, h.size, fun i hi _ => h.block i hi⟩
theorem Tch.of_grown {S : Nat → Prop} {a b : World} {row : Option Nat} (h : a.grownBy b row) (hS : ∀ k, row = some k → S k) : Tch S a b :=
  ⟨h.os, h.tape, h.output, h.size, fun i hi hn => h.block i hi (fun e => hn (hS i e.symm))⟩
theorem Tch.then {S S' : Nat → Prop} {a b c : World} (h : Tch S a b) (k : Tch S' b c) (hS : ∀ k, k < a.heap.size → S' k → S k) : Tch S a c :=
  ⟨k.os.trans h.os, k.tape.trans h.tape, k.output.trans h.output, Nat.le_trans h.size k.size, fun i hi hn => (k.block i (Nat.lt_of_lt_of_le hi h.size) (fun e => hn (hS i hi e))).trans (h.block i hi hn)⟩
theorem Tch.set {S : Nat → Prop} {a b : World} (h : Tch S a b) (p : Addr) (v : Value) (hp : S p.block) : Tch S a (b.setCell p v) :=
  ⟨h.os, h.tape, h.output, by simpa using h.size, fun k hk hn => (Below.heap_setCell _ _ _ _ (fun e => hn (by rw [e]; exact hp))).trans (h.block k hk hn)⟩
theorem Tch.below {S : Nat → Prop} {a b : World} (h : Tch S a b) (hS : ∀ k, k < a.heap.size → ¬ S k) : Below a.heap.size a b :=
  ⟨h.os, h.tape, h.output, h.size, fun k hk => h.block k hk (hS k hk)⟩
theorem Tch.imp {S S' : Nat → Prop} {a b : World} (h : Tch S a b) (hS : ∀ k, k < a.heap.size → S k → S' k) : Tch S' a b :=
  ⟨h.os, h.tape, h.output, h.size, fun k hk hn => h.block k hk (fun e => hn (hS k hk e))⟩
theorem Tch.cell {S : Nat → Prop} {a b : World} (h : Tch S a b) {p : Addr} (hp : p.block < a.heap.size) (hn : ¬ S p.block) : b.cell? p = a.cell? p := by
  unfold World.cell?
  rw [h.block _ hp hn]
theorem Tch.frozen {S : Nat → Prop} {a b : World} (h : Tch S a b) {p : Addr} (hp : p.block < a.heap.size) (hn : ¬ S p.block) : b.frozen? p = a.frozen? p := by
  unfold World.frozen?
  rw [h.block _ hp hn]
theorem ERow.tch {α : Type} {E : Elt α} {w w' : World} {base : Nat} {a : Option Addr} {n c : Nat} {xs : List α} {S : Nat → Prop} (h : ERow E w base (.slice a n c) xs) (hg : Tch S w w') (hne : ∀ k, oB a = some k → ¬ S k) : ERow E w' base (.slice a n c) xs := by
  have hk := h.own
  refine ⟨h.1, ?_⟩
  rcases h.2 with hh | ⟨g, cap, cur, e, hb, hg', r⟩
  · exact .inl hh
  · refine .inr ⟨g, cap, cur, e, hb, ?_, r⟩
    have ho : (Value.slice a n c).ownBlock = some g := by rw [e]; rfl
    rw [hg.block g (hk g ho).2 (hne g (by rw [← own_sl a n c]; exact ho))]
    exact hg'
/-- A set in a field of a struct. -/
structure SetAt (w : World) (P k B : Nat) (a : Option Addr) (c : Nat) (xs : List Int) : Prop where
  lt : P < w.heap.size
  cell : w.cell? ⟨P, k, none⟩ = some (.slice a xs.length c)
  fz : w.frozen? ⟨P, k, none⟩ = false
  row : ERow eInt w B (.slice a xs.length c) xs
  off : oB a ≠ some P
  base : B ≤ w.heap.size
theorem SetAt.tch {w w' : World} {P k B c : Nat} {a : Option Addr} {xs : List Int} {S : Nat → Prop} (h : SetAt w P k B a c xs) (hg : Tch S w w') (hP : ¬ S P) (hne : ∀ k, oB a = some k → ¬ S k) : SetAt w' P k B a c xs :=
  ⟨Nat.lt_of_lt_of_le h.lt hg.size, (hg.cell (p := ⟨P, k, none⟩) h.lt hP).trans h.cell, (hg.frozen (p := ⟨P, k, none⟩) h.lt hP).trans h.fz, h.row.tch hg hne, h.off, Nat.le_trans h.base hg.size⟩
/-- One step of a set. -/
structure SetStep (w w' : World) (P k B : Nat) (a a' : Option Addr) (c' : Nat) (ys : List Int) : Prop where
  set : SetAt w' P k B a' c' ys
  tch : Tch (fun j => j = P ∨ oB a = some j) w w'
  oth : ∀ i, i ≠ k → w'.cell? ⟨P, i, none⟩ = w.cell? ⟨P, i, none⟩
  ofz : ∀ i, w'.frozen? ⟨P, i, none⟩ = w.frozen? ⟨P, i, none⟩
  own : oB a' = oB a ∨ ∃ j, oB a' = some j ∧ w.heap.size ≤ j
theorem SetStep.same {w w' : World} {P k B c : Nat} {a : Option Addr} {xs : List Int} (h : SetAt w P k B a c xs) (hb : Below w.heap.size w w') : SetStep w w' P k B a a c xs :=
  ⟨h.tch (Tch.of_below (S := fun _ => False) hb) (fun f => f) (fun _ _ f => f), Tch.of_below hb, fun i _ => hb.cell (p := ⟨P, i, none⟩) h.lt, fun i => by unfold World.frozen?; rw [hb.block P h.lt], .inl rfl⟩
/-- .. a store of the new slice behind a change of its row. -/
theorem SetStep.put {w wa w1 : World} {P k B c c' : Nat} {a a' : Option Addr} {xs ys : List Int} (h : SetAt w P k B a c xs) (hb : Below w.heap.size w wa) (hr : ERow eInt w1 B (.slice a' ys.length c') ys) (hg : wa.grownBy w1 (oB a)) (ho : oB a' = oB a ∨ ∃ j, oB a' = some j ∧ w.heap.size ≤ j) : SetStep w (w1.setCell ⟨P, k, none⟩ (.slice a' ys.length c')) P k B a a' c' ys := by
  have hP : oB a ≠ some P := h.off
  have hPa : P < wa.heap.size := Nat.lt_of_lt_of_le h.lt hb.size
  have hblk : w1.heap[P]? = w.heap[P]? := (hg.block P hPa (fun e => hP e.symm)).trans (hb.block P h.lt)
  have hP1 : P < w1.heap.size := Nat.lt_of_lt_of_le hPa hg.size
  have hc1 : ∀ i, w1.cell? ⟨P, i, none⟩ = w.cell? ⟨P, i, none⟩ := fun i => by unfold World.cell?; rw [hblk]
  have hf1 : ∀ i, w1.frozen? ⟨P, i, none⟩ = w.frozen? ⟨P, i, none⟩ := fun i => by unfold World.frozen?; rw [hblk]
  have hT : Tch (fun j => j = P ∨ oB a = some j) w w1 := ⟨hg.os.trans hb.os, hg.tape.trans hb.tape, hg.output.trans hb.output, Nat.le_trans hb.size hg.size, fun i hi hn => (hg.block i (Nat.lt_of_lt_of_le hi hb.size) (fun e => hn (.inr e.symm))).trans (hb.block i hi)⟩
  have hoP : oB a' ≠ some P := by
    rcases ho with e | ⟨j, e, hj⟩
    · rw [e]; exact hP
    · rw [e]
      intro e2
      simp only [Option.some.injEq] at e2
      have := h.lt
      omega
  refine ⟨⟨by simpa using hP1, ?_, by simp [hf1, h.fz], hr.tch (S := fun j => j = P) ⟨rfl, rfl, rfl, by simp, fun i hi hn => Below.heap_setCell _ _ _ _ (fun e => hn e)⟩ (fun j e e2 => hoP (by rw [e, e2])), hoP, by have := h.base; have := hb.size; have := hg.size; simp; omega⟩, hT.set _ _ (.inl rfl), fun i hi => ?_, fun i => by simp [hf1], ho⟩
  · exact World.cell?_setCell_same _ _ _ (by rw [hc1, h.cell])
  · rw [← hc1]
    exact World.cell?_setCell_other _ _ _ _ (fun e => hi (by simp only [Addr.mk.injEq, true_and, and_true] at e; exact e.symm))
set_option maxHeartbeats 1000000 in
theorem add_any (P k B c : Nat) (a : Option Addr) (xs : List Int) (e0 : Int) (w : World) (hs : Rising xs) (hn : xs.length ≤ 100000) (h : SetAt w P k B a c xs) :
    Calls Tryz.prog 71 #[.pointer (some ⟨P, k, none⟩), .int .i64 e0] w fun r w' => r = .returned (.tuple #[]) ∧ ∃ a' c', SetStep w w' P k B a a' c' (addL xs e0) := by
  have hb := bsearch_any a c B xs e0 w hn hs h.row
  have c0 := h.cell
  have hlt := h.lt
  have f0 := h.fz
  have HS : Hid (SetAt w P k B a c xs) := h
  cases hf : foundB xs e0 <;> rw [hf] at hb
  · have HL : Hid (addL xs e0 = insL xs (posOf xs e0) e0) := hidOf <| by unfold addL; rw [hf]; rfl
    clear hs h hf
    go_enter Tryz.func71, Tryz.ntmps71
    go_wp2_with fail
    refine hb.mono ?_
    rintro e w1 ⟨rfl, hb1, hp⟩
    have hins : ∀ w2, Below w.heap.size w w2 → Calls Tryz.prog 93 #[.slice a xs.length c, .int .i64 (posOf xs e0 : Nat), .slice (some ⟨w2.heap.size, 0, none⟩) 1 1] (w2.alloc (.cells #[.int .i64 e0] 3)) fun r w' => ∃ a' c', r = .returned (.slice a' (insL xs (posOf xs e0) e0).length c') ∧ ERow eInt w' B (.slice a' (insL xs (posOf xs e0) e0).length c') (insL xs (posOf xs e0) e0) ∧ (w2.alloc (.cells #[.int .i64 e0] 3)).grownBy w' (oB a) ∧ (oB a' = oB a ∨ oB a' = some (w2.heap.size + 1)) := fun w2 hb2 => by
      have hr := HS.out.row.below (hb2.trans (bal (w := w2) (o := .cells #[.int .i64 e0] 3) |>.mono hb2.size))
      have ho : oB a ≠ some w2.heap.size := fun ee => by
        have := (HS.out.row.own _ (by rw [own_sl]; exact ee)).2
        have := hb2.size
        omega
      have h1 := ins_any a c B (posOf xs e0) w2.heap.size xs e0 (w2.alloc (.cells #[.int .i64 e0] 3)) hp (by have := HS.out.base; have := hb2.size; simp; omega) hn ho (heap_alloc_new w2 _) hr
      refine h1.mono ?_
      rintro r w' ⟨a', c', e1, e2, e3, e4⟩
      exact ⟨a', c', e1, e2, e3, by simpa using e4⟩
    have hi := hins w1 hb1
    have c1 := (hb1.cell (p := ⟨P, k, none⟩) hlt).trans c0
    have lt1 : P < w1.heap.size := Nat.lt_of_lt_of_le hlt hb1.size
    have HB : Hid (Below w.heap.size w w1) := hb1
    have HF : Hid (w1.frozen? ⟨P, k, none⟩ = false) := hidOf <| by unfold World.frozen? at f0 ⊢; rw [hb1.block P hlt]; exact f0
    generalize insL xs (posOf xs e0) e0 = YS at hi HL
    clear hins hb1 hb c0 f0
    go_wp2_with fail
    refine hi.mono ?_
    rintro e w2 ⟨a', c', rfl, hr2, hg2, ho2⟩
    have hba : Below w.heap.size w (w1.alloc (.cells #[.int .i64 e0] 3)) := HB.out.trans (bal.mono HB.out.size)
    have hblk : w2.heap[P]? = w1.heap[P]? := (hg2.block P (by simp; omega) (fun ee => HS.out.off ee.symm)).trans (Below.heap_alloc w1 _ _ lt1)
    have c2 : w2.cell? ⟨P, k, none⟩ = some (.slice a xs.length c) := by unfold World.cell? at c1 ⊢; rw [hblk]; exact c1
    have f2 : w2.frozen? ⟨P, k, none⟩ = false := by have := HF.out; unfold World.frozen? at this ⊢; rw [hblk]; exact this
    have lt2 : P < w2.heap.size := Nat.lt_of_lt_of_le (by simp; omega) hg2.size
    have HST : Hid (SetStep w (w2.setCell ⟨P, k, none⟩ (.slice a' YS.length c')) P k B a a' c' YS) := SetStep.put HS.out hba hr2 hg2 (ho2.imp id (fun ee => ⟨_, ee, by have := HB.out.size; omega⟩))
    clear hba hblk hi hr2 hg2 ho2 c1
    go_wp2_with fail
    refine bodyPost_end (v := .tuple #[]) (by simp [results, Tryz.results71, go_sem]) rfl ?_
    exact ⟨rfl, a', c', by rw [HL.out]; exact HST.out⟩
  · have HL : Hid (addL xs e0 = xs) := hidOf <| by unfold addL; rw [hf]; rfl
    clear hs h hf
    go_enter Tryz.func71, Tryz.ntmps71
    go_wp2_with fail
    refine hb.mono ?_
    rintro e w1 ⟨rfl, hb1, hp⟩
    clear hb
    go_wp2_with fail
    refine bodyPost_end (v := .tuple #[]) (by simp [results, Tryz.results71, go_sem]) rfl ?_
    exact ⟨rfl, a, c, by rw [HL.out]; exact SetStep.same HS.out hb1⟩
set_option maxHeartbeats 1000000 in
theorem remove_any (P k B c : Nat) (a : Option Addr) (xs : List Int) (e0 : Int) (w : World) (hs : Rising xs) (hn : xs.length ≤ 100000) (h : SetAt w P k B a c xs) :
    Calls Tryz.prog 73 #[.pointer (some ⟨P, k, none⟩), .int .i64 e0] w fun r w' => r = .returned (.tuple #[]) ∧ ∃ a' c', SetStep w w' P k B a a' c' (remL xs e0) := by
  have hb := bsearch_any a c B xs e0 w hn hs h.row
  have c0 := h.cell
  have hlt := h.lt
  have f0 := h.fz
  have HS : Hid (SetAt w P k B a c xs) := h
  cases hf : foundB xs e0 <;> rw [hf] at hb
  · have HL : Hid (remL xs e0 = xs) := hidOf <| by unfold remL; rw [hf]; rfl
    clear hs h hf
    go_enter Tryz.func73, Tryz.ntmps73
    go_wp2_with fail
    refine hb.mono ?_
    rintro e w1 ⟨rfl, hb1, hp⟩
    clear hb
    go_wp2_with fail
    refine bodyPost_end (v := .tuple #[]) (by simp [results, Tryz.results73, go_sem]) rfl ?_
    exact ⟨rfl, a, c, by rw [HL.out]; exact SetStep.same HS.out hb1⟩
  · have HL : Hid (remL xs e0 = cutL xs (posOf xs e0)) := hidOf <| by unfold remL; rw [hf]; rfl
    have hp0 : posOf xs e0 < xs.length := by
      unfold foundB at hf
      exact (of_decide_eq_true hf).1
    clear hs h hf
    go_enter Tryz.func73, Tryz.ntmps73
    go_wp2_with fail
    refine hb.mono ?_
    rintro e w1 ⟨rfl, hb1, hp⟩
    have hi := del_any a c B (posOf xs e0) xs w1 hp0 (HS.out.row.below hb1)
    have c1 := (hb1.cell (p := ⟨P, k, none⟩) hlt).trans c0
    have lt1 : P < w1.heap.size := Nat.lt_of_lt_of_le hlt hb1.size
    have HB : Hid (Below w.heap.size w w1) := hb1
    have HF : Hid (w1.frozen? ⟨P, k, none⟩ = false) := hidOf <| by unfold World.frozen? at f0 ⊢; rw [hb1.block P hlt]; exact f0
    generalize cutL xs (posOf xs e0) = YS at hi HL
    clear hb1 hb c0 f0
    go_wp2_with fail
    refine hi.mono ?_
    rintro e w2 ⟨rfl, hr2, hg2⟩
    have hblk : w2.heap[P]? = w1.heap[P]? := hg2.block P lt1 (fun ee => HS.out.off ee.symm)
    have c2 : w2.cell? ⟨P, k, none⟩ = some (.slice a xs.length c) := by unfold World.cell? at c1 ⊢; rw [hblk]; exact c1
    have f2 : w2.frozen? ⟨P, k, none⟩ = false := by have := HF.out; unfold World.frozen? at this ⊢; rw [hblk]; exact this
    have lt2 : P < w2.heap.size := Nat.lt_of_lt_of_le lt1 hg2.size
    have HST : Hid (SetStep w (w2.setCell ⟨P, k, none⟩ (.slice a YS.length c)) P k B a a c YS) := SetStep.put HS.out HB.out hr2 hg2 (.inl rfl)
    clear hblk hi hr2 hg2 c1
    go_wp2_with fail
    refine bodyPost_end (v := .tuple #[]) (by simp [results, Tryz.results73, go_sem]) rfl ?_
    exact ⟨rfl, a, c, by rw [HL.out]; exact HST.out⟩
set_option maxHeartbeats 1000000 in
theorem take_any (P k g o c n : Nat) (x : Int) (w : World) (hlt : P < w.heap.size) (hg : g < w.heap.size) (c0 : w.cell? ⟨P, k, none⟩ = some (.slice (some ⟨g, o, none⟩) (n + 1) c)) (f0 : w.frozen? ⟨P, k, none⟩ = false) (x0 : w.cell? ⟨g, o, none⟩ = some (.int .i64 x)) (hc : n + 1 ≤ c) :
    Calls Tryz.prog 74 #[.pointer (some ⟨P, k, none⟩)] w fun r w' => r = .returned (.int .i64 x) ∧ ∃ A, (0 < n → A = some ⟨g, o + 1, none⟩) ∧ w' = w.setCell ⟨P, k, none⟩ (.slice A n (c - 1)) := by
  obtain ⟨AD, hAD⟩ : ∃ AD : Addr, (if c = 1 then some (⟨g, o, none⟩ : Addr) else some ⟨g, o + 1, none⟩) = some AD := by
    by_cases h : c = 1
    · exact ⟨_, if_pos h⟩
    · exact ⟨_, if_neg h⟩
  have HD : Hid (0 < n → some AD = some (⟨g, o + 1, none⟩ : Addr)) := fun hn => by rw [← hAD, if_neg (by omega)]
  have L1 : (0 : Int) < (n : Int) + 1 := by omega
  have L2 : (1 : Int) ≤ (n : Int) + 1 := by omega
  go_enter Tryz.func74, Tryz.ntmps74
  go_wp2_with fail
  go_ret
  exact ⟨rfl, some AD, HD.out, rfl⟩
end Go.Proofs.YtnmhkgmmpkjjeacGreat
