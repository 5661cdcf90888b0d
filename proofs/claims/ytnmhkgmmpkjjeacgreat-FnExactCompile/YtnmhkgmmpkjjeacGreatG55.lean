import Derived.Test.YtnmhkgmmpkjjeacGreatG54
import Derived.Test.YtnmhkgmmpkjjeacGreatRows
import Derived.ChangeOld
namespace Go.Proofs.YtnmhkgmmpkjjeacGreat
open Go.ChangeShapes Go.WideShapes Go.ChangeAt Go.RowKit
set_option linter.unusedVariables false
set_option linter.unusedSimpArgs false
set_option maxRecDepth 100000
attribute [local go_sem ↓] Go.wp_at_zero Go.wp_at_succ
attribute [local go_sem] bs_size bs_cAt bs_app bs_mk bs_cut bs_list
theorem eqDiagC (c d:Int) (w:World) :
  Calls Tryz.prog 24 #[.agg #[.int .i64 c,.int .i64 d],.agg #[.int .i64 c,.int .i64 d]] w fun e w'=>e=.returned (.bool true)/\Below w.heap.size w w':=by
 go_enter Tryz.func24,Tryz.ntmps24
 go_wp2
 go_ret
 exact ⟨rfl,((Below.refl _ _).alloc (Nat.le_refl _) _).alloc (by simp) _⟩
set_option maxHeartbeats 2000000 in
theorem col_walk (ta tb:Txt) (fr:Int) (xs:List OpE) (C D:Int) (w:World) (ha:ta.length<=1048576) (hb:tb.length<=1048576) (hfew:xs.length<=200000)
  (hS:∀ wX,Calls Tryz.prog 22 #[.string (bs ta),.string (bs tb),.int .i64 fr] wX fun e w'=>CompPost wX (xs,C,D) e w')
  (hI:∀ wX,Calls Tryz.prog 23 #[.string (bs ta),.string (bs tb),.int .i64 fr] wX fun e w'=>CompPost wX (xs,C,D) e w') :
  Calls Tryz.prog 5 #[.string (bs ta),.string (bs tb),.int .i64 fr] w fun e w'=>e=.returned (.bool true)/\Below w.heap.size w w':=by
 have t1:=hidP (hS w)
 have t2:=hidP hI
 have tD:=hidP (fun wX=>eqDiagC C D wX)
 dsimp only [CompPost] at t1 t2
 clear hS hI
 have L2:¬ (1048576:Int) < (tb.length:Int):=by omega
 have L1:¬ (1048576:Int) < (ta.length:Int):=by omega
 go_enter Tryz.func5,Tryz.ntmps5
 go_wp2_with fail
 refine t1.out.mono ?_
 rintro e w1 ⟨a1,c1,rfl,hr1,hb1⟩
 obtain ⟨w2,hw2⟩:∃ w2,w2=w1.alloc (.cells #[.int .i64 C,.int .i64 D] 46):=⟨_,rfl⟩
 have hb12:Below w1.heap.size w1 w2:=by rw [hw2]; exact bal
 have hz2:w1.heap.size < w2.heap.size:=by rw [hw2]; simp
 have HX2:Hid (∀ wX,Below w2.heap.size w2 wX->wX.cell? ⟨w1.heap.size,0,none⟩=some (.int .i64 C)/\wX.cell? ⟨w1.heap.size,1,none⟩=some (.int .i64 D)):=hidP (fun wX hX=>by
  refine ⟨(hX.cell (p:=⟨w1.heap.size,0,none⟩) hz2).trans ?_,(hX.cell (p:=⟨w1.heap.size,1,none⟩) hz2).trans ?_⟩ <;> (rw [hw2]; simp [go_sem]))
 have HW2:Hid (w2=_):=hw2
 have HR1:Hid (ERow eOp w2 w.heap.size (.slice a1 xs.length c1) xs):=hidP (hr1.below hb12)
 have HB2:Hid (Below w.heap.size w w2):=hidP (hb1.trans (hb12.mono hb1.size))
 have HO1:Hid (∀ k,(Value.slice a1 xs.length c1).ownBlock=some k->k < w1.heap.size):=hidP fun k hk=>(hr1.own k hk).2
 clear hr1 hb1 hb12 hw2 t1
 go_wp2_with fail
 rw [<- HW2.out]
 refine (t2.out w2).mono ?_
 rintro e w3 ⟨a,c2,rfl,hr3,hb3⟩
 obtain ⟨w4,hw4⟩:∃ w4,w4=w3.alloc (.cells #[.int .i64 C,.int .i64 D] 46):=⟨_,rfl⟩
 have hb34:Below w3.heap.size w3 w4:=by rw [hw4]; exact bal
 have hz4:w3.heap.size < w4.heap.size:=by rw [hw4]; simp
 have HX4:Hid (∀ wX,Below w4.heap.size w4 wX->wX.cell? ⟨w3.heap.size,0,none⟩=some (.int .i64 C)/\wX.cell? ⟨w3.heap.size,1,none⟩=some (.int .i64 D)):=hidP (fun wX hX=>by
  refine ⟨(hX.cell (p:=⟨w3.heap.size,0,none⟩) hz4).trans ?_,(hX.cell (p:=⟨w3.heap.size,1,none⟩) hz4).trans ?_⟩ <;> (rw [hw4]; simp [go_sem]))
 have HW4:Hid (w4=_):=hw4
 have HR3:Hid (ERow eOp w4 w2.heap.size (.slice a xs.length c2) xs):=hidP (hr3.below hb34)
 have hb24:Below w2.heap.size w2 w4:=hb3.trans (hb34.mono hb3.size)
 have HB24:Hid (Below w2.heap.size w2 w4):=hb24
 have HB4:Hid (Below w.heap.size w w4):=hidP (HB2.out.trans (hb24.mono HB2.out.size))
 have HR14:Hid (ERow eOp w4 w.heap.size (.slice a1 xs.length c1) xs):=hidP (HR1.out.below hb24)
 have h24:=hb24.size
 clear hr3 hb3 hb34 hw4 hb24
 have t5:=hidP (eqOpS_same (.slice a xs.length c2) (.slice a1 xs.length c1) _ _ xs w4 (by omega) HR3.out HR14.out)
 go_upto_region 7 with fail
 rw [<- HW4.out]
 go_wp2_with fail
 refine t5.out.mono ?_
 rintro e w5 ⟨rfl,hb5⟩
 have HB45:Hid (Below w4.heap.size w4 w5):=hb5
 obtain ⟨x0,x1⟩:=HX4.out w5 hb5
 obtain ⟨y0,y1⟩:=HX2.out w5 (HB24.out.trans (hb5.mono h24))
 clear hb5 t5
 go_wp2_with fail
 refine (tD.out w5).mono ?_
 rintro e w6 ⟨rfl,hb6⟩
 have HB46:Hid (Below w4.heap.size w4 w6):=hidP (HB45.out.trans (hb6.mono HB45.out.size))
 have h46:w4.heap.size<=w6.heap.size:=HB46.out.size
 clear hb6 x0 x1 y0 y1
 have t7:=hidP (markOpS_any (.slice a xs.length c2) w2.heap.size xs 1 w6 (by omega) (by omega) (by omega) (HR3.out.below HB46.out))
 go_wp2_with fail
 refine t7.out.mono ?_
 rintro e w7 ⟨rfl,hh7,hg7⟩
 have HO:Hid (∀ k,oP a=some k->w2.heap.size<=k/\k < w4.heap.size):=hidP (fun k hk=>by
  have:=HR3.out.own k (by rw [oP_slice]; exact hk)
  exact this)
 rw [oP_slice] at hg7
 have HT7:Hid (Touch (fun k=>oP a=some k) w6 w7):=hidP (Touch.of_grown hg7 (fun k e=>e))
 have HR17:Hid (ERow eOp w7 w.heap.size (.slice a1 xs.length c1) xs):=hidP ((HR14.out.below HB46.out).touch HT7.out (fun k hk e=>by
  have:=(HO.out k e).1
  have:=HO1.out k hk
  omega))
 have HB7:Hid (Below w.heap.size w w7):=hidP (by
  refine ((HB4.out.trans (HB46.out.mono HB4.out.size))).grown hg7 (Nat.le_trans HB4.out.size h46) (fun k hk=>?_)
  have:=(HO.out k hk).1
  have:=HB2.out.size
  omega)
 have HX7:Hid (∀ wX,Below w7.heap.size w7 wX->wX.cell? ⟨w1.heap.size,0,none⟩=some (.int .i64 C)/\wX.cell? ⟨w1.heap.size,1,none⟩=some (.int .i64 D)):=hidP (fun wX hX=>by
  have e7:w7.heap[w1.heap.size]?=w6.heap[w1.heap.size]?:=HT7.out.block _ (by omega) (fun e=>by have:=(HO.out _ e).1; omega)
  have h0:=HX2.out w6 (HB24.out.trans (HB46.out.mono h24))
  have hs:=HT7.out.size
  exact ⟨(hX.cell (p:=⟨w1.heap.size,0,none⟩) (by show w1.heap.size < _; omega)).trans ((World.cell?_of_block e7).trans h0.1),(hX.cell (p:=⟨w1.heap.size,1,none⟩) (by show w1.heap.size < _; omega)).trans ((World.cell?_of_block e7).trans h0.2)⟩)
 have t8:=hidP (heldOpS_any (.slice a xs.length c2) xs.length 1 w7 (by omega) (by omega) (by omega) hh7)
 clear hh7 hg7 t7
 go_wp2_with fail
 refine t8.out.mono ?_
 rintro e w8 ⟨rfl,hb8⟩
 have HB8:Hid (Below w.heap.size w w8):=hidP (HB7.out.trans (hb8.mono HB7.out.size))
 have HB78:Hid (Below w7.heap.size w7 w8):=hb8
 have L8:¬ ((1:Int)+(xs.length:Int) * 4 < 0):=by omega
 clear hb8 t8
 go_wp2_with fail
 refine (t2.out w8).mono ?_
 rintro e w9 ⟨a9,c9,rfl,hr9,hb9⟩
 obtain ⟨w10,hw10⟩:∃ w10,w10=w9.alloc (.cells #[.int .i64 C,.int .i64 D] 46):=⟨_,rfl⟩
 have hb910:Below w9.heap.size w9 w10:=by rw [hw10]; exact bal
 have hz10:w9.heap.size < w10.heap.size:=by rw [hw10]; simp
 have HXa:Hid (∀ wX,Below w10.heap.size w10 wX->wX.cell? ⟨w9.heap.size,0,none⟩=some (.int .i64 C)/\wX.cell? ⟨w9.heap.size,1,none⟩=some (.int .i64 D)):=hidP (fun wX hX=>by
  refine ⟨(hX.cell (p:=⟨w9.heap.size,0,none⟩) hz10).trans ?_,(hX.cell (p:=⟨w9.heap.size,1,none⟩) hz10).trans ?_⟩ <;> (rw [hw10]; simp [go_sem]))
 have HWa:Hid (w10=_):=hw10
 have HB8a:Hid (Below w8.heap.size w8 w10):=hidP (hb9.trans (hb910.mono hb9.size))
 have HB7a:Hid (Below w7.heap.size w7 w10):=hidP (HB78.out.trans (HB8a.out.mono HB78.out.size))
 have t11:=hidP (eqOpS_same (.slice a9 xs.length c9) (.slice a1 xs.length c1) _ _ xs w10 (by omega) (hr9.below hb910) (HR17.out.below HB7a.out))
 clear hr9 hb9 hb910 hw10
 go_upto_region 18 with fail
 rw [<- HWa.out]
 go_wp2_with fail
 refine t11.out.mono ?_
 rintro e w11 ⟨rfl,hb11⟩
 obtain ⟨x0,x1⟩:=HXa.out w11 hb11
 obtain ⟨y0,y1⟩:=HX7.out w11 (HB7a.out.trans (hb11.mono HB7a.out.size))
 have HBb:Hid (Below w10.heap.size w10 w11):=hb11
 clear hb11 t11
 go_wp2_with fail
 refine (tD.out w11).mono ?_
 rintro e w12 ⟨rfl,hb12⟩
 have HBc:Hid (Below w.heap.size w w12):=hidP (((HB8.out.trans (HB8a.out.mono HB8.out.size)).trans (HBb.out.mono (Nat.le_trans HB8.out.size HB8a.out.size))).trans (hb12.mono (Nat.le_trans (Nat.le_trans HB8.out.size HB8a.out.size) HBb.out.size)))
 clear hb12
 go_wp2_with fail
 go_ret
 exact ⟨rfl,HBc.out⟩
theorem col_big1 (ta tb:Txt) (fr:Int) (w:World) (hm:ta.length<=9223372036854775807) (hb:¬ ta.length<=1048576) :
  Calls Tryz.prog 5 #[.string (bs ta),.string (bs tb),.int .i64 fr] w fun e w'=>e=.returned (.bool true)/\Below w.heap.size w w':=by
 have L1:(1048576:Int) < (ta.length:Int):=by omega
 go_enter Tryz.func5,Tryz.ntmps5
 go_wp2_with fail
 go_ret
 exact ⟨rfl,Below.refl _ _⟩
theorem col_big2 (ta tb:Txt) (fr:Int) (w:World) (hm:ta.length<=1048576) (hm2:tb.length<=9223372036854775807) (hb:¬ tb.length<=1048576) :
  Calls Tryz.prog 5 #[.string (bs ta),.string (bs tb),.int .i64 fr] w fun e w'=>e=.returned (.bool true)/\Below w.heap.size w w':=by
 have L1:¬ (1048576:Int) < (ta.length:Int):=by omega
 have L2:(1048576:Int) < (tb.length:Int):=by omega
 go_enter Tryz.func5,Tryz.ntmps5
 go_wp2_with fail
 go_ret
 exact ⟨rfl,Below.refl _ _⟩
theorem col_any (ta tb:Txt) (fr:Int) (w:World) (hm:ta.length<=9223372036854775807) (hm2:tb.length<=9223372036854775807) (hf0:-9223372036854775808<=fr) (hf1:fr<=9223372036854775807) :
  Calls Tryz.prog 5 #[.string (bs ta),.string (bs tb),.int .i64 fr] w fun e w'=>e=.returned (.bool true)/\Below w.heap.size w w':=by
 by_cases h1:ta.length<=1048576
 ·by_cases h2:tb.length<=1048576
  ·exact col_walk ta tb fr (compF ta tb fr).1 (compF ta tb fr).2.1 (compF ta tb fr).2.2 w h1 h2 (compF_len ta tb fr) (fun wX=>specComp_any ta tb fr wX h1 h2 hf0 hf1) (fun wX=>implCompile_of _ _ _ _ _ wX (fun wY=>implCompI_any ta tb fr wY h1 h2 hf0 hf1))
  ·exact col_big2 ta tb fr w h1 hm2 h2
 ·exact col_big1 ta tb fr w hm h1
theorem col_own:ownKnob Tryz.prog.godebug=none:=by kernel_rfl
theorem col_laidOut:laidOutB Tryz.prog=true:=by kernel_rfl
set_option maxRecDepth 100000 in
theorem col_lifted (os:Os) (started:os.Started) (H:Type) (enc:TypeId × Value->H) :
  ReturnsInHanded {} Tryz.checked os 5 .any (Rows.fnExactCompileSpec.pre6 enc Tryz.prog Tryz.f5 Rows.fnExactCompileRow.domain false) (Rows.fnExactCompileSpec.post enc Tryz.prog Tryz.f5 false true false false):=by
 refine returnsInHanded_of_change (C:=Tryz.checked) col_own started (by kernel_rfl) Tryz.func5
  (ChangeSpec.witness6 (enc:=enc) (C:=Tryz.checked) false ⟨#[],#[.string (bs []),.string (bs []),.int .i64 0],[]⟩ 8 (by kernel_rfl) (by kernel_rfl) (by kernel_rfl) (by kernel_rfl)) ?_
 intro W base args ds gs before hval0 hW hcnd _
 have hval:∀ (j:Nat) t v,Tryz.f5.params[j]?=some t->args[j]?=some v->Value.okWide Tryz.prog W .any base t v:=hval0
 have hW':=hW
 obtain ⟨p,q,hA0,hV,rfl,hfz,hnd⟩:=hW
 have hA:DataW.TrodAll enc Tryz.prog W 0 (fun _=>true) true Tryz.f5.params.toList args.toList ds p:=hA0
 rw [Tryz.params5] at hA hval
 obtain ⟨v0,vs0,d0,ds0,p0,q0,hargs,rfl,rfl,h0,r0⟩:=trodAll_cons hA
 obtain ⟨v1,vs1,d1,ds1,p1,q1,rfl,rfl,rfl,h1,r1⟩:=trodAll_cons r0
 obtain ⟨v2,vs2,d2,ds2,p2,q2,rfl,rfl,rfl,h2,r2⟩:=trodAll_cons r1
 obtain ⟨rfl,rfl,rfl⟩:=trodAll_nil r2
 obtain rfl:args=#[v0,v1,v2]:=by cases args; simp_all
 obtain ⟨rfl,rfl⟩:=trodVars_none hV
 have k0:=h0
 have k1:=h1
 have lt0:∀ x ∈ p0,x.block < W.heap.size:=by obtain ⟨m,hm⟩:=k0; exact DataW.trod_lt m _ _ _ hm
 have lt1:∀ x ∈ p1,x.block < W.heap.size:=by obtain ⟨m,hm⟩:=k1; exact DataW.trod_lt m _ _ _ hm
 have hlen:∀ (l:Txt),Value.okWide Tryz.prog W .any base 9 (.string (bs l))->l.length<=9223372036854775807:=fun l hv=>by
  have h2:IntKind.i64.max=9223372036854775807:=rfl
  have h3:((bs l).size:Int)<=IntKind.i64.max:=by simpa [Value.okWide,Cell.okWide,Cell.ok,Tryz.underlying9] using hv
  rw [bs_size] at h3
  omega
 have hv0:=hval 0 9 v0 rfl rfl
 obtain ⟨s0,rfl⟩:=okWide_string Tryz.underlying9 hv0
 obtain ⟨ta,rfl⟩:=bs_of s0
 have hv1:=hval 1 9 v1 rfl rfl
 obtain ⟨s1,rfl⟩:=okWide_string Tryz.underlying9 hv1
 obtain ⟨tb,rfl⟩:=bs_of s1
 obtain ⟨fr,rfl,rfl,rfl,w2⟩:=open_int Tryz.underlying3 (hval 2 3 v2 rfl rfl) h2
 have hfr:=bounds_i64 w2
 have hm0:=hlen ta hv0
 have hm1:=hlen tb hv1
 clear hA0 hval0
 refine (col_any ta tb fr W hm0 hm1 hfr.1 hfr.2).mono fun e W' ⟨he,bel⟩=>?_
 subst he
 exact ⟨_,rfl,_,_,_,[],_,[],hW',trodAll_mk1 (shut_bool Tryz.underlying4 _),(trodAll_cons_mk (Below.trod col_laidOut (by kernel_rfl) (of_decide_eq_true (by kernel_rfl)) k0 bel lt0) (trodAll_cons_mk (Below.trod col_laidOut (by kernel_rfl) (of_decide_eq_true (by kernel_rfl)) k1 bel lt1) (trodAll_cons_mk (shut_int Tryz.underlying3 w2) trodAll_mk0))),rfl,bel.frame _,fun h=>by cases h⟩
theorem col_proved:Rows.FnExactCompileSaid :=
 OpenClaim.holds_of_wide 5 Tryz.f5 rfl rfl rfl rfl rfl rfl rfl ⟨rfl,rfl,rfl,rfl,rfl⟩ rfl rfl rfl rfl rfl (by kernel_rfl) Tryz.func5 (by kernel_rfl)
  (of_decide_eq_true (by kernel_rfl)) (by unfold Func.isWrapper; first | (rw [if_pos (by decide +kernel)]; kernel_rfl) | (rw [if_neg (by decide +kernel)]; exact ⟨rfl,rfl⟩))
  (fun os started H enc _=>col_lifted os started H enc)
#print axioms col_proved
end Go.Proofs.YtnmhkgmmpkjjeacGreat
