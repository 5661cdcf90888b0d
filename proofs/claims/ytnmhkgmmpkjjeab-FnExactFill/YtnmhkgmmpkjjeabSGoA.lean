import Derived.Test.YtnmhkgmmpkjjeabSGo
import Derived.Test.YtnmhkgmmpkjjeabUWalkA
namespace Go.Proofs.Ytnmhkgmmpkjjeab
open Go.ChangeShapes Go.WideShapes Go.ChangeAt Go.RowKit
set_option linter.unusedVariables false

theorem go_any (page choice : Int) (hp0 : 0 ≤ page) (hp1 : page < 4096) (hc0 : 0 ≤ choice) (hc1 : choice ≤ 65535) : ∀ (d : Nat) (s : SV) (M : Mach) (b : Nat) (level frame : Int) (doom : Bool) (w : World), (3 - level).toNat = d → WOk M → 1 ≤ level → level ≤ 3 → 0 ≤ frame → frame < nfr M.mem.length → b ≤ w.heap.size → MRow w b (s.mv M) M →
    Calls Try.prog 135 #[.agg #[.slice s.a1 M.mem.length s.c1, .slice s.a2 M.pend.length s.c2, .slice s.a3 M.tlb.length s.c3, .slice s.a4 M.wc.length s.c4], .int .i64 page, .int .i64 choice, .int .i64 level, .int .i64 frame, .bool doom] w fun r w' => ∃ s' : SV, r = .returned (.tuple #[.agg #[.slice s'.a1 ((goM page choice (3 - level).toNat M level frame doom)).1.mem.length s'.c1, .slice s'.a2 ((goM page choice (3 - level).toNat M level frame doom)).1.pend.length s'.c2, .slice s'.a3 ((goM page choice (3 - level).toNat M level frame doom)).1.tlb.length s'.c3, .slice s'.a4 ((goM page choice (3 - level).toNat M level frame doom)).1.wc.length s'.c4], hitV ((goM page choice (3 - level).toNat M level frame doom)).2]) ∧ MRow w' b (s'.mv ((goM page choice (3 - level).toNat M level frame doom)).1) ((goM page choice (3 - level).toNat M level frame doom)).1 ∧ (∀ k, (s'.mv ((goM page choice (3 - level).toNat M level frame doom)).1).owns k → (s.mv M).owns k ∨ w.heap.size ≤ k) ∧ Below w.heap.size w w' := by
  intro d
  induction d with
  | zero =>
    intro s M b level frame doom w hd hok hl1 hl3 hf0 hf1 hb0 h
    refine go_any1 s M b page choice level frame doom w hok hp0 hp1 hc0 hc1 hl1 hl3 hf0 hf1 hb0 h (goM page choice (3 - level).toNat M level frame doom) (fun hn => go_end page choice M level frame _ doom hl1 hl3 rfl hn) (fun hK hO s1 b1 wX hb1 h1 => ?_)
    have := (go_step page choice M level frame _ doom hl1 hl3 rfl hK hO).1
    omega
  | succ d ih =>
    intro s M b level frame doom w hd hok hl1 hl3 hf0 hf1 hb0 h
    refine go_any1 s M b page choice level frame doom w hok hp0 hp1 hc0 hc1 hl1 hl3 hf0 hf1 hb0 h (goM page choice (3 - level).toNat M level frame doom) (fun hn => go_end page choice M level frame _ doom hl1 hl3 rfl hn) (fun hK hO s1 b1 wX hb1 h1 => ?_)
    obtain ⟨hlt, e⟩ := go_step page choice M level frame _ doom hl1 hl3 rfl hK hO
    rw [e]
    have hm := (stepM_mem page choice M level (wordM M page choice level frame) doom).1
    exact ih s1 _ b1 (level + 1) _ doom wX (by omega) (stepM_ok hok page choice level _ doom) (by omega) (by omega) (dOut_lo _ _).1 (by rw [hm]; exact hO) hb1 h1
theorem wcCov_any (e : WcE) (p : Int) (hp0 : 0 ≤ p) (hp1 : p < 100000) (hl : e.level = 2 ∨ e.level = 3) (w : World) :
    Calls Try.prog 134 #[.agg #[.int .i64 e.level, .int .i64 e.page, .int .i64 e.table, .bool e.doom], .int .i64 p] w fun r w' => r = .returned (.bool (wcCov e p)) ∧ Below w.heap.size w w' := by
  obtain ⟨a1, a2, a3, a4⟩ := e
  rcases hl with hl | hl
  · have hl : a1 = 2 := hl
    subst hl
    exact wcCov_2 a2 a3 p a4 hp0 hp1 w
  · have hl : a1 = 3 := hl
    subst hl
    exact wcCov_3 a2 a3 p a4 hp0 hp1 w
end Go.Proofs.Ytnmhkgmmpkjjeab
