import Derived.Test.YtnmhkgmmpkjjeabUAgree
namespace Go.Proofs.Ytnmhkgmmpkjjeab
open Go.ChangeShapes Go.WideShapes Go.ChangeAt Go.RowKit
set_option linter.unusedVariables false
attribute [local go_sem ↓] Go.wp_at_zero Go.wp_at_succ

set_option maxRecDepth 100000 in
set_option maxHeartbeats 4000000 in
theorem conflict_any (gu b0 B : Nat) (L : Bool) (u : UV) (M : Mach) (w : World) (hn : M.tlb.length ≤ 256) (hv : ∀ i, i < M.tlb.length → TRng (eAt eTlb M.tlb i)) (h : UM w gu b0 B L u M) :
    Calls Try.prog 92 #[.pointer (some ⟨gu, 0, none⟩)] w fun r w' => r = .returned (.bool (confT M)) ∧ Below w.heap.size w w' := by
  have hlt := h.lt
  have q3 := h.q3
  have hcap : M.tlb.length ≤ u.c4 ∨ M.tlb.length = 0 := by
    rcases h.t.2 with ⟨e, h0⟩ | ⟨g', cap', cur, e, hb, hg, h1, _⟩
    · exact .inr h0
    · simp only [Value.slice.injEq] at e
      exact .inl (by rw [e.2.2]; exact h1)
  have HQ : Hid (∀ wX, Below w.heap.size w wX → wX.cell? ⟨gu, 3, none⟩ = some (.slice u.a4 M.tlb.length u.c4)) := fun wX hX => (hX.cell hlt).trans q3
  have HT : Hid (ERow eTE w B (.slice u.a4 M.tlb.length u.c4) M.tlb) := h.t
  have HV : Hid _ := hv
  have HCAP : Hid _ := hcap
  clear h hv hcap
  go_enter Try.func92, Try.ntmps92
  go_wp2_with fail
  go_loopw [12] (fun iv wr => ∃ k : Nat, k ≤ M.tlb.length ∧ iv = .int .i64 k ∧ (∀ i, i < k → ∀ j, i < j → j < M.tlb.length → pairB M i j = false) ∧ Below w.heap.size w wr) (fun iv _ => M.tlb.length - (intOf iv).toNat)
  case atStart => exact ⟨0, Nat.zero_le _, rfl, fun i hi => by omega, Below.refl _ _⟩
  case round =>
    obtain ⟨k, hk, rfl, hno, hb⟩ := hrel
    obtain ⟨wo, rfl⟩ : ∃ wo : World, wo = wr := ⟨_, rfl⟩
    have q3r := HQ.out wo hb
    have hsz := hb.size
    by_cases hkl : k < M.tlb.length
    · have hc4 : M.tlb.length ≤ u.c4 := HCAP.out.elim id (fun e => by omega)
      obtain ⟨ga, ca, hae, haf⟩ := HT.out.form
      obtain ⟨g, N, f, hag, _, hr, hN, hf⟩ := haf (by omega)
      have hga : u.a4 = some ⟨g, 0, none⟩ := by
        simp only [Value.slice.injEq] at hae
        exact hae.1.trans hag
      have hN' : M.tlb.length * 5 ≤ N := hN
      have hrow : ∀ wX, Below w.heap.size w wX → wX.rowIs g 193 N f := fun wX hX => hr.of_block (hX.block g hr.lt)
      have hgw := hr.lt
      have HCELL : Hid (∀ wX, Below w.heap.size w wX → ∀ i, i < M.tlb.length → wX.cell? ⟨g, i * 5 + 0, none⟩ = some (.int .i64 (eAt eTlb M.tlb i).page) ∧ wX.cell? ⟨g, i * 5 + 1, none⟩ = some (.int .i64 (eAt eTlb M.tlb i).size) ∧ wX.cell? ⟨g, i * 5 + 2, none⟩ = some (.bool (eAt eTlb M.tlb i).doom) ∧ wX.cell? ⟨g, i * 5 + 3, none⟩ = some (.int .i64 (eAt eTlb M.tlb i).out) ∧ wX.cell? ⟨g, i * 5 + 4, none⟩ = some (.int .i64 (eAt eTlb M.tlb i).perm)) := fun wX hX i hi => by
        refine ⟨?_, ?_, ?_, ?_, ?_⟩
        · rw [(hrow wX hX).cell (i := i * 5 + 0) (by omega)]; exact congrArg some (hf i hi 0 (by decide))
        · rw [(hrow wX hX).cell (i := i * 5 + 1) (by omega)]; exact congrArg some (hf i hi 1 (by decide))
        · rw [(hrow wX hX).cell (i := i * 5 + 2) (by omega)]; exact congrArg some (hf i hi 2 (by decide))
        · rw [(hrow wX hX).cell (i := i * 5 + 3) (by omega)]; exact congrArg some (hf i hi 3 (by decide))
        · rw [(hrow wX hX).cell (i := i * 5 + 4) (by omega)]; exact congrArg some (hf i hi 4 (by decide))
      have HQG : Hid (∀ wX, Below w.heap.size w wX → wX.cell? ⟨gu, 3, none⟩ = some (.slice (some ⟨g, 0, none⟩) M.tlb.length u.c4)) := fun wX hX => by rw [HQ.out wX hX, hga]
      rw [hga]
      have q3g := HQG.out wo hb
      obtain ⟨e0, e1, e2, e3, e4⟩ := HCELL.out wo hb k hkl
      rw [Nat.add_zero] at e0
      obtain ⟨AD, hAD⟩ : ∃ AD : Addr, (if u.c4 = k + 1 then some (⟨g, 0, none⟩ : Addr) else some ⟨g, (k + 1) * 5, none⟩) = some AD := by
        by_cases h : u.c4 = k + 1
        · exact ⟨_, if_pos h⟩
        · exact ⟨_, if_neg h⟩
      have HADF : Hid (0 < M.tlb.length - (k + 1) → AD = ⟨g, (k + 1) * 5, none⟩) := fun h => by
        rw [if_neg (by omega)] at hAD
        simpa using hAD.symm
      have L1 : (0 : Int) ≤ (k : Int) := by omega
      have L2 : (k : Int) < (M.tlb.length : Int) := by omega
      have L3 : (0 : Int) ≤ (k : Int) + 1 := by omega
      have L4 : k + 1 ≤ M.tlb.length := by omega
      have L5 : M.tlb.length ≤ u.c4 := hc4
      have L6 : (k : Int) + 1 ≤ (M.tlb.length : Int) := by omega
      have L7 : (M.tlb.length : Int) ≤ (u.c4 : Int) := by omega
      have W1 : IntKind.i64.wrap ((k : Int) + 1) = (k : Int) + 1 := by rw [IntKind.wrap_i64]; omega
      have hx := HV.out k hkl
      have HX : Hid (TRng (eAt eTlb M.tlb k)) := hx
      have HPB : Hid (∀ j, pairB M k j = (meets (eAt eTlb M.tlb k).page (eAt eTlb M.tlb k).size (eAt eTlb M.tlb j).page (eAt eTlb M.tlb j).size && !sameB (eAt eTlb M.tlb k) (eAt eTlb M.tlb j))) := fun j => rfl
      have HNO : Hid _ := hno
      have HB : Hid (Below w.heap.size w wo) := hb
      clear q3r hae haf hr hf hN hag hrow hno hb hx hga
      obtain ⟨x, hxe⟩ : ∃ x, x = eAt eTlb M.tlb k := ⟨_, rfl⟩
      rw [← hxe] at HX HPB e0 e1 e2 e3 e4
      obtain ⟨wx, hwx⟩ : ∃ wx, wx = wo.alloc (.cells #[.int .i64 x.page, .int .i64 x.size, .bool x.doom, .int .i64 x.out, .int .i64 x.perm] 193) := ⟨_, rfl⟩
      have hzx : wx.heap.size = wo.heap.size + 1 := by rw [hwx]; simp
      have bx : Below w.heap.size w wx := by rw [hwx]; exact HB.out.alloc hsz _
      have HE : Hid (∀ wX, Below wx.heap.size wx wX → wX.cell? ⟨wo.heap.size, 0, none⟩ = some (.int .i64 x.page) ∧ wX.cell? ⟨wo.heap.size, 1, none⟩ = some (.int .i64 x.size) ∧ wX.cell? ⟨wo.heap.size, 2, none⟩ = some (.bool x.doom) ∧ wX.cell? ⟨wo.heap.size, 3, none⟩ = some (.int .i64 x.out) ∧ wX.cell? ⟨wo.heap.size, 4, none⟩ = some (.int .i64 x.perm)) := fun wX hX => by
        refine ⟨?_, ?_, ?_, ?_, ?_⟩
        iterate 5 (exact (hX.cell (by simp; omega)).trans (by rw [hwx]; simp [go_sem]))
      have HBX : Hid (Below w.heap.size w wx) := bx
      have HZX : Hid (wx.heap.size = wo.heap.size + 1) := hzx
      have HWX : Hid (wx = _) := hwx
      have q3x := HQG.out wx bx
      rw [hwx] at q3x
      have hguw : gu < wo.heap.size := by omega
      have HXE : Hid (x = _) := hxe
      clear hwx hzx bx hxe
      go_wp2_with fail
      go_loopw [25] (fun iv ws => ∃ t : Nat, t ≤ M.tlb.length - (k + 1) ∧ iv = .int .i64 t ∧ (∀ j, k < j → j < k + 1 + t → pairB M k j = false) ∧ Below wx.heap.size wx ws) (fun iv _ => M.tlb.length - (k + 1) - (intOf iv).toNat)
      case atStart => exact ⟨0, Nat.zero_le _, rfl, fun j h1 h2 => by omega, by rw [HWX.out]; exact Below.refl _ _⟩
      case round =>
        obtain ⟨t, ht, rfl, hnt, hbs⟩ := hrel
        have bW : Below w.heap.size w wr := HBX.out.trans (hbs.mono HBX.out.size)
        have hsz2 := hbs.size
        have hZ := HZX.out
        clear hAD e0 e1 e2 e3 e4 q3x q3g
        by_cases htl : t < M.tlb.length - (k + 1)
        · obtain rfl := HADF.out (by omega)
          obtain ⟨y0, y1, y2, y3, y4⟩ := HCELL.out wr bW (k + 1 + t) (by omega)
          rw [show (k + 1 + t) * 5 + 0 = (k + 1) * 5 + t * 5 by omega] at y0
          rw [show (k + 1 + t) * 5 + 1 = (k + 1) * 5 + t * 5 + 1 by omega] at y1
          rw [show (k + 1 + t) * 5 + 2 = (k + 1) * 5 + t * 5 + 2 by omega] at y2
          rw [show (k + 1 + t) * 5 + 3 = (k + 1) * 5 + t * 5 + 3 by omega] at y3
          rw [show (k + 1 + t) * 5 + 4 = (k + 1) * 5 + t * 5 + 4 by omega] at y4
          obtain ⟨e0, e1, e2, e3, e4⟩ := HE.out wr hbs
          have hyr := HV.out (k + 1 + t) (by omega)
          have hp := HPB.out (k + 1 + t)
          have HPK : Hid (pairB M k (k + 1 + t) = _) := hp
          have hyes : pairB M k (k + 1 + t) = true → confT M = true := confT_yes k (k + 1 + t) (by omega) (by omega)
          have HYES : Hid _ := hyes
          have HYR : Hid (TRng (eAt eTlb M.tlb (k + 1 + t))) := hyr
          clear hp hyes hyr
          generalize eAt eTlb M.tlb (k + 1 + t) = y at *
          have M1 : (0 : Int) ≤ (t : Int) := by omega
          have M2 : (t : Int) < ((M.tlb.length - (k + 1) : Nat) : Int) := by omega
          obtain ⟨wy, hwy⟩ : ∃ wy, wy = wr.alloc (.cells #[.int .i64 y.page, .int .i64 y.size, .bool y.doom, .int .i64 y.out, .int .i64 y.perm] 193) := ⟨_, rfl⟩
          have hzy : wy.heap.size = wr.heap.size + 1 := by rw [hwy]; simp
          have by' : Below wx.heap.size wx wy := by rw [hwy]; exact hbs.alloc hsz2 _
          have HYC : Hid (∀ wX, Below wy.heap.size wy wX → wX.cell? ⟨wr.heap.size, 0, none⟩ = some (.int .i64 y.page) ∧ wX.cell? ⟨wr.heap.size, 1, none⟩ = some (.int .i64 y.size) ∧ wX.cell? ⟨wr.heap.size, 2, none⟩ = some (.bool y.doom) ∧ wX.cell? ⟨wr.heap.size, 3, none⟩ = some (.int .i64 y.out) ∧ wX.cell? ⟨wr.heap.size, 4, none⟩ = some (.int .i64 y.perm)) := fun wX hX => by
            refine ⟨?_, ?_, ?_, ?_, ?_⟩
            iterate 5 (exact (hX.cell (by simp; omega)).trans (by rw [hwy]; simp [go_sem]))
          have xr := HX.out
          have yr := HYR.out
          have sx := xr.s
          have sy := yr.s
          obtain ⟨d0, d1, d2, d3, d4⟩ := HE.out wy by'
          have hov := overlaps_any wo.heap.size 0 x.page x.size y.page y.size ⟨xr.p0, by have := xr.p1; omega⟩ ⟨by omega, by omega⟩ ⟨yr.p0, by have := yr.p1; omega⟩ ⟨by omega, by omega⟩ wy d0 d1
          have HAG : Hid (∀ wX, Below wy.heap.size wy wX → Calls Try.prog 151 #[.pointer (some ⟨wo.heap.size, 0, none⟩), .agg #[.int .i64 y.page, .int .i64 y.size, .bool y.doom, .int .i64 y.out, .int .i64 y.perm]] wX fun r w' => r = .returned (.bool (sameB x y)) ∧ Below wX.heap.size wX w') := fun wX hX => by
            obtain ⟨f0, f1, f2, f3, f4⟩ := HE.out wX (by'.trans (hX.mono by'.size))
            exact agrees_any wo.heap.size 0 x y wX (by have := hX.size; have := by'.size; omega) f0 f1 f2 f3 f4
          rw [hwy] at hov
          have HWY : Hid (wy = _) := hwy
          have HBY : Hid (Below wx.heap.size wx wy) := by'
          have HZY : Hid (wy.heap.size = wr.heap.size + 1) := hzy
          have HNT : Hid _ := hnt
          have N1 : wo.heap.size < wr.heap.size := by omega
          clear hwy hzy by' hnt hbs bW d0 d1 d2 d3 d4 xr yr sx sy hZ
          cases hm : meets x.page x.size y.page y.size
          · rw [hm] at hov
            have hpf : pairB M k (k + 1 + t) = false := by rw [HPK.out, hm]; rfl
            have HPF : Hid _ := hpf
            clear hm hpf
            go_wp2_with fail
            refine hov.mono ?_
            rintro e w1 ⟨rfl, hb1'⟩
            have hb1 : Below wy.heap.size wy w1 := by rw [HWY.out]; exact hb1'
            have HB1 : Hid (Below wx.heap.size wx w1) := HBY.out.trans (hb1.mono HBY.out.size)
            clear hb1' hb1 hov
            go_wp2_with fail
            go_roundw
            case rel => exact ⟨t + 1, by omega, by go_num, fun j h1 h2 => if h : j = k + 1 + t then h ▸ HPF.out else HNT.out j h1 (by omega), HB1.out⟩
            case measure => simp [intOf]; omega
          · rw [hm] at hov
            cases hsm : sameB x y
            · have hag0 := HAG.out
              rw [hsm] at hag0
              have hpt : confT M = true := HYES.out (by rw [HPK.out, hm, hsm]; rfl)
              have HPT : Hid _ := hpt
              clear hm hsm hpt
              go_wp2_with fail
              refine hov.mono ?_
              rintro e w1 ⟨rfl, hb1'⟩
              have hb1 : Below wy.heap.size wy w1 := by rw [HWY.out]; exact hb1'
              obtain ⟨v0, v1, v2, v3, v4⟩ := HYC.out w1 hb1
              have hag1 := hag0 w1 hb1
              have HB1 : Hid (Below wx.heap.size wx w1) := HBY.out.trans (hb1.mono HBY.out.size)
              clear hb1' hb1 hov hag0
              go_wp2_with fail
              refine hag1.mono ?_
              rintro e w2 ⟨rfl, hb2⟩
              have HB2 : Hid (Below w.heap.size w w2) := HBX.out.trans ((HB1.out.trans (hb2.mono HB1.out.size)).mono HBX.out.size)
              clear hb2 hag1 v0 v1 v2 v3 v4
              go_wp2_with fail
              go_ret
              exact ⟨by rw [HPT.out]; rfl, HB2.out⟩
            · have hag0 := HAG.out
              rw [hsm] at hag0
              have hpf : pairB M k (k + 1 + t) = false := by rw [HPK.out, hm, hsm]; rfl
              have HPF : Hid _ := hpf
              clear hm hsm hpf
              go_wp2_with fail
              refine hov.mono ?_
              rintro e w1 ⟨rfl, hb1'⟩
              have hb1 : Below wy.heap.size wy w1 := by rw [HWY.out]; exact hb1'
              obtain ⟨v0, v1, v2, v3, v4⟩ := HYC.out w1 hb1
              have hag1 := hag0 w1 hb1
              have HB1 : Hid (Below wx.heap.size wx w1) := HBY.out.trans (hb1.mono HBY.out.size)
              clear hb1' hb1 hov hag0
              go_wp2_with fail
              refine hag1.mono ?_
              rintro e w2 ⟨rfl, hb2⟩
              have HB2 : Hid (Below wx.heap.size wx w2) := HB1.out.trans (hb2.mono HB1.out.size)
              clear hb2 hag1 v0 v1 v2 v3 v4
              go_wp2_with fail
              go_roundw
              case rel => exact ⟨t + 1, by omega, by go_num, fun j h1 h2 => if h : j = k + 1 + t then h ▸ HPF.out else HNT.out j h1 (by omega), HB2.out⟩
              case measure => simp [intOf]; omega
        · have HNT : Hid _ := hnt
          have HBW : Hid (Below w.heap.size w wr) := bW
          have ML : ¬ (t : Int) < ((M.tlb.length - (k + 1) : Nat) : Int) := by omega
          have HTE : Hid (M.tlb.length ≤ k + 1 + t) := by show M.tlb.length ≤ k + 1 + t; omega
          clear hnt bW hbs htl hZ
          go_wp2_with fail
          go_roundw
          case rel => exact ⟨k + 1, by omega, by go_num, fun i hi j h1 h2 => if h : i = k then by subst h; exact HNT.out j h1 (by have := HTE.out; omega) else HNO.out i (by omega) j h1 h2, HBW.out⟩
          case measure => simp [intOf]; omega
    · have e : k = M.tlb.length := by omega
      subst e
      have hcf : confT M = false := confT_no (fun i j h1 h2 => hno i (by omega) j h1 h2)
      have HCF : Hid _ := hcf
      have HB : Hid (Below w.heap.size w wo) := hb
      have LF : ¬ (M.tlb.length : Int) < (M.tlb.length : Int) := by omega
      clear hno hb hcf
      go_wp2_with fail
      go_ret
      exact ⟨by rw [HCF.out]; rfl, HB.out⟩
end Go.Proofs.Ytnmhkgmmpkjjeab
