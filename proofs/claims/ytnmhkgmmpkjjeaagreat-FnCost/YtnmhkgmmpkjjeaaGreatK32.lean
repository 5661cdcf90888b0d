import Derived.Test.YtnmhkgmmpkjjeaaGreatK19
import Derived.Lib.SmallJoins
import Derived.Test.YtnmhkgmmpkjjeaaGreatK31
namespace Go.Proofs.YtnmhkgmmpkjjeaaGreat
open Go.ChangeShapes Go.WideShapes Go.ChangeAt Go.RowKit
set_option linter.unusedVariables false
set_option linter.unusedSimpArgs false
set_option maxRecDepth 100000
attribute [local go_sem ↓] Go.wp_at_zero Go.wp_at_succ
def Im (w:World) (zs:List Int) (e:Ending) (w':World):Prop :=
 ∃(g c:Nat) (v1 v2 v3:Value),e=.returned (.tuple #[.agg #[.slice (some ⟨g,0,none⟩) zs.length c],v1,v2,v3])/\A6 Ag w' w.heap.size (.slice (some ⟨g,0,none⟩) zs.length c) zs/\Below w.heap.size w w'
theorem QJ {w:World} {g:Nat} {u:Value} (v:Value) (q:w.cell? ⟨g,0,none⟩=some u):(w.setCell ⟨g,0,none⟩ v).cell? ⟨g,0,none⟩=some v:=by simp[go_sem,q]
set_option maxHeartbeats 8000000 in
theorem JT (A:Value) (p q q':Nat) (xa xb:List A9) (ta tb:Int) (zs:List Int) (l:List BP) (cd:Int) (w:World) (hq:q<=1000000) (bta:0<=ta/\ta<=1000) (btb:0<=tb/\tb<=1000) (hzs:0<zs.length) (hA:∀wX,Below w.heap.size w wX->Calls Tryz.prog 66 #[A,.int .i64 (p:Int),.int .i64 0] wX fun e w'=>∃g c:Nat,e=.returned (.tuple #[.slice (some ⟨g,0,none⟩) xa.length c,.int .i64 (q:Int)])/\A6 A7 w' wX.heap.size (.slice (some ⟨g,0,none⟩) xa.length c) xa/\Below wX.heap.size wX w') (hB:∀wX,Below w.heap.size w wX->Calls Tryz.prog 66 #[A,.int .i64 (p:Int),.int .i64 1] wX fun e w'=>∃g c:Nat,e=.returned (.tuple #[.slice (some ⟨g,0,none⟩) xb.length c,.int .i64 (q':Int)])/\A6 A7 w' wX.heap.size (.slice (some ⟨g,0,none⟩) xb.length c) xb/\Below wX.heap.size wX w') (hTa:∀(g c b:Nat) wX,A6 A7 wX b (.slice (some ⟨g,0,none⟩) xa.length c) xa->Calls Tryz.prog 69 #[.slice (some ⟨g,0,none⟩) xa.length c] wX fun e w'=>e=.returned (.int .i64 ta)/\Below wX.heap.size wX w') (hTb:∀(g c b:Nat) wX,A6 A7 wX b (.slice (some ⟨g,0,none⟩) xb.length c) xb->Calls Tryz.prog 69 #[.slice (some ⟨g,0,none⟩) xb.length c] wX fun e w'=>e=.returned (.int .i64 tb)/\Below wX.heap.size wX w') (hC:∀(g c b:Nat) wX,A6 A7 wX b (.slice (some ⟨g,0,none⟩) xa.length c) xa->Calls Tryz.prog 15 #[.slice (some ⟨g,0,none⟩) xa.length c,.int .i64 ((if ta<tb then tb else ta)+(q:Int)%3)] wX fun e w'=>∃a c,e=.returned (.tuple #[.agg #[.slice a zs.length c],.int .i64 0])/\A6 Ag w' wX.heap.size (.slice a zs.length c) zs/\Below wX.heap.size wX w') (hD:∀(g cz g2 c b:Nat) wX,Ar wX g zs->zs.length<=cz->A6 A7 wX b (.slice (some ⟨g2,0,none⟩) xb.length c) xb->Calls Tryz.prog 24 #[.agg #[.slice (some ⟨g,0,none⟩) zs.length cz],.slice (some ⟨g2,0,none⟩) xb.length c] wX fun e w'=>∃a c,e=.returned (.tuple #[.slice a l.length c,.int .i64 cd])/\A6 Ba w' wX.heap.size (.slice a l.length c) l/\Below wX.heap.size wX w') (hS:∀(g1 c1 b1 g2 c2 b2:Nat) wX,Below w.heap.size w wX->A6 A7 wX b1 (.slice (some ⟨g1,0,none⟩) xa.length c1) xa->A6 A7 wX b2 (.slice (some ⟨g2,0,none⟩) xb.length c2) xb->Calls Tryz.prog 136 #[A,.int .i64 (q:Int),.slice (some ⟨g1,0,none⟩) xa.length c1,.slice (some ⟨g2,0,none⟩) xb.length c2] wX fun e w'=>∃v,e=.returned v/\Below wX.heap.size wX w') : Calls Tryz.prog 65 #[A,.int .i64 (p:Int)] w fun e w'=>Im w zs e w':=by
 obtain⟨wb,hwb⟩:∃wb,wb=w.alloc (.cells #[.slice none 0 0] 35):=⟨_,rfl⟩
 have hbb:Below w.heap.size w wb:=by rw[hwb];exact Ax
 have hzb:w.heap.size<wb.heap.size:=by rw[hwb];simp
 have HQ:Hid (∀wX,Below wb.heap.size wb wX->wX.cell? ⟨w.heap.size,0,none⟩=some (.slice none 0 0)/\wX.frozen? ⟨w.heap.size,0,none⟩=false):=A0 fun wX hX =>
  ⟨(hX.cell (by simpa using hzb)).trans (by rw[hwb];simp[go_sem]),(hX.frozen (by simpa using hzb)).trans (by rw[hwb];simp[go_sem])⟩
 have HBB:Hid (Below w.heap.size w wb):=hbb;have HWB:Hid (wb=_):=hwb;have t1:=A0 (hA wb hbb);have HB:Hid _:=hB;have HTA:Hid _:=hTa;have HTB:Hid _:=hTb;have HC:Hid _:=hC;have HD:Hid _:=hD;have HS:Hid _:=hS;obtain⟨ta0,ta1⟩:=bta;obtain⟨tb0,tb1⟩:=btb;clear hA hB hTa hTb hC hD hS hwb hbb;obtain⟨q3,hq3⟩:∃q3:Int,(q:Int)%3=q3:=⟨_,rfl⟩
 have eq3:(q:Int).tmod 3=q3:=by rw[Int.tmod_eq_emod_of_nonneg (by omega)];exact hq3
 have q30:0<=q3/\q3<3:=by omega
 rw[hq3] at HC;clear hq3;have W8:IntKind.i64.wrap ((q:Int)+8)=(q:Int)+8:=by rw[IntKind.wrap_i64];omega
 go_enter Tryz.func65,Tryz.ntmps65
 go_wp2_with fail
 rw[<- HWB.out];refine t1.out.mono ?_;rintro e w1 ⟨ga,ca,rfl,hr1,hb1⟩;have HB1:Hid (Below wb.heap.size wb w1):=hb1;have HRA:Hid (∀wX,Below w1.heap.size w1 wX->A6 A7 wX wb.heap.size (.slice (some ⟨ga,0,none⟩) xa.length ca) xa):=A0 fun wX hX=>hr1.below hX
 have t2:=A0 (HB.out w1 (HBB.out.trans (hb1.mono (Nat.le_of_lt hzb))));clear t1 hr1 hb1 HB;go_wp2_with fail
 refine t2.out.mono ?_;rintro e w2 ⟨gb,cb,rfl,hr2,hb2⟩;have HB12:Hid (Below w1.heap.size w1 w2):=hb2;have HB2:Hid (Below wb.heap.size wb w2):=A0 (HB1.out.trans (hb2.mono HB1.out.size));have HRB:Hid (∀wX,Below w2.heap.size w2 wX->A6 A7 wX w1.heap.size (.slice (some ⟨gb,0,none⟩) xb.length cb) xb):=A0 fun wX hX=>hr2.below hX
 have HRA2:Hid (∀wX,Below w2.heap.size w2 wX->A6 A7 wX wb.heap.size (.slice (some ⟨ga,0,none⟩) xa.length ca) xa):=A0 fun wX hX=>HRA.out wX (HB12.out.trans (hX.mono HB12.out.size))
 have t3:=A0 (HTA.out ga ca _ w2 (HRA2.out w2 (Below.refl _ _)));clear t2 hr2 hb2 HRA;go_wp2_with fail
 refine t3.out.mono ?_;rintro e w3 ⟨rfl,hb3⟩;have HB23:Hid (Below w2.heap.size w2 w3):=hb3;have t4:=A0 (HTB.out gb cb _ w3 (HRB.out w3 hb3));clear t3 hb3;go_wp2_with fail
 refine t4.out.mono ?_;rintro e w4 ⟨rfl,hb4⟩;have HB24:Hid (Below w2.heap.size w2 w4):=A0 (HB23.out.trans (hb4.mono HB23.out.size));clear t4 hb4 HB23;by_cases hgt:ta<tb
 ·have hgb:decide (ta<tb)=true:=by simpa using hgt
  rw[if_pos hgt] at HC;have t5:=A0 (HTB.out gb cb _ w4 (HRB.out w4 HB24.out));have W1:IntKind.i64.wrap (tb+q3)=tb+q3:=by rw[IntKind.wrap_i64];omega
  clear hgt;go_wp2_with fail
  refine t5.out.mono ?_;rintro e w5 ⟨rfl,hb5⟩;have HBZ:Hid (Below w2.heap.size w2 w5):=A0 (HB24.out.trans (hb5.mono HB24.out.size));clear t5 hb5 HB24;have t6:=A0 (HC.out ga ca _ w5 (HRA2.out w5 HBZ.out));go_wp2_with fail
  refine t6.out.mono ?_;rintro e w6 ⟨a6,c6,rfl,hr6,hb6⟩;obtain⟨gz,ez,_,hcz,hcr⟩:=Po hr6 hzs;subst ez;obtain⟨w7,hw7⟩:∃w7,w7=w6.alloc (.cells #[.slice (some ⟨gz,0,none⟩) zs.length c6] 35):=⟨_,rfl⟩
  have hb67:Below w6.heap.size w6 w7:=by rw[hw7];exact Ax
  have hz7:w6.heap.size<w7.heap.size:=by rw[hw7];simp
  have HB27:Hid (Below w2.heap.size w2 w7):=A0 ((HBZ.out.trans (hb6.mono HBZ.out.size)).trans (hb67.mono (Nat.le_trans HBZ.out.size hb6.size)));have HX7:Hid (∀wX,Below w7.heap.size w7 wX->wX.cell? ⟨w6.heap.size,0,none⟩=some (.slice (some ⟨gz,0,none⟩) zs.length c6)):=A0 fun wX hX=>(hX.cell (p:=⟨w6.heap.size,0,none⟩) hz7).trans (by rw[hw7];simp[go_sem])
  have HRZ:Hid (∀wX,Below w7.heap.size w7 wX->A6 Ag wX w5.heap.size (.slice (some ⟨gz,0,none⟩) zs.length c6) zs):=A0 fun wX hX=>(hr6.below hb67).below hX
  have x7:=HX7.out w7 (Below.refl _ _);have t8:=A0 (HD.out gz c6 gb cb _ w7 (hcr.below hb67 hcr.lt) hcz (HRB.out w7 HB27.out));have HW7:Hid (w7=_):=hw7;have n6:w2.heap.size<=w5.heap.size:=HBZ.out.size;have n66:w5.heap.size<=w6.heap.size:=hb6.size;clear t6 hr6 hb6 hb67 hw7 hcr hcz;go_wp2_with fail
  rw[<- HW7.out];refine t8.out.mono ?_;rintro e w8 ⟨a8,c8,rfl,_,hb8⟩;have HB78:Hid (Below w7.heap.size w7 w8):=hb8;have HB28:Hid (Below w2.heap.size w2 w8):=A0 (HB27.out.trans (hb8.mono HB27.out.size));have x8:=HX7.out w8 hb8;obtain⟨wD,hwD⟩:∃x,x=w8.drew:=⟨_,rfl⟩
  have hbD:Below w8.heap.size w8 wD:=by rw[hwD];exact(Below.refl _ _).drew
  have HB2D:Hid (Below w2.heap.size w2 wD):=A0 (HB28.out.trans (hbD.mono HB28.out.size));have HB7D:Hid (Below w7.heap.size w7 wD):=A0 (hb8.trans (hbD.mono hb8.size));have HBbD:Hid (Below wb.heap.size wb wD):=A0 (HB2.out.trans (HB2D.out.mono HB2.out.size));have HWD:Hid (wD=w8.drew):=hwD;have xD:=HX7.out wD HB7D.out;obtain⟨q0,f0⟩:=HQ.out wD HBbD.out;have n2:wb.heap.size<=w2.heap.size:=HB2.out.size;have n7:w2.heap.size<=w7.heap.size:=HB27.out.size;have nD:w7.heap.size<=wD.heap.size:=HB7D.out.size;clear t8 hb8 hbD hwD x7;have HSET:Hid (∀wX,Below w7.heap.size w7 wX->(wX.setCell ⟨w.heap.size,0,none⟩ (.slice (some ⟨gz,0,none⟩) zs.length c6)).cell? ⟨w6.heap.size,0,none⟩=some (.slice (some ⟨gz,0,none⟩) zs.length c6)):=A0 fun wX hX=>(World.cell?_setCell_other _ _ _ _ (fun e=>by simp only[Addr.mk.injEq] at e;omega)).trans (HX7.out wX hX)
  have HKP:Hid (∀(g c b:Nat) (xs:List A9) wX,wb.heap.size<=b->A6 A7 wX b (.slice (some ⟨g,0,none⟩) xs.length c) xs->A6 A7 (wX.setCell ⟨w.heap.size,0,none⟩ (.slice (some ⟨gz,0,none⟩) zs.length c6)) b (.slice (some ⟨g,0,none⟩) xs.length c) xs):=A0 fun g c b xs wX hbq h=>by
   refine A6.kept h (Au (g:=w.heap.size) (World.grownBy.refl _ _) 0 _) (fun k hk=>?_);have:=(h.own k hk).1;simp;omega
  have HFIN:Hid (∀wX (v2 v3:Value),Below w7.heap.size w7 wX->∀v1,Im w zs (.returned (.tuple #[.agg #[.slice (some ⟨gz,0,none⟩) zs.length c6],v1,v2,v3])) (wX.setCell ⟨w.heap.size,0,none⟩ (.slice (some ⟨gz,0,none⟩) zs.length c6))):=A0 fun wX v2 v3 hX v1=>by
   refine⟨gz,c6,v1,v2,v3,rfl,?_,?_⟩
   ·refine(A6.kept (HRZ.out wX hX) (Au (g:=w.heap.size) (World.grownBy.refl _ _) 0 _) (fun k hk=>?_)).rebase (by omega);have:=((HRZ.out wX hX).own k hk).1;simp;omega
   ·exact((HBB.out.trans (HB2.out.mono (by omega))).trans ((HB27.out.trans (hX.mono HB27.out.size)).mono (by omega))).setCell (by simp) _
  go_upto_region 8 with fail
  refine wp_region_held_drew (S:=fun wX=>wX.cell? ⟨w6.heap.size,0,none⟩=some (.slice (some ⟨gz,0,none⟩) zs.length c6)) (by kernel_rfl) x8 (fun hHeld=>?_);rw[<- HWD.out] at hHeld ⊢;refine tk 0 ?_;refine tk 1 ?_;refine tk 2 ?_;refine tk 3 ?_;refine tk 4 ?_;refine tk 5 ?_;refine tk 7 ?_;refine tk 8 ?_;refine wpAnyH_ready (rs:=[6]) (by kernel_rfl) (by simp) ?_;refine AllReadyH.cons rfl (fun K hK=>?_) AllReadyH.nil;go_simp;refine(HS.out ga ca _ gb cb _ wD (HBB.out.trans (HBbD.out.mono (Nat.le_of_lt hzb))) (HRA2.out wD HB2D.out) (HRB.out wD HB2D.out)).mono ?_;rintro e w9 ⟨v9,rfl,hb9⟩;have HB79:Hid (Below w7.heap.size w7 w9):=A0 (HB7D.out.trans (hb9.mono nD));have HBb9:Hid (Below wb.heap.size wb w9):=A0 (HBbD.out.trans (hb9.mono HBbD.out.size));obtain⟨q9,f9⟩:=HQ.out w9 HBb9.out;have z9:=QJ (.slice (some ⟨gz,0,none⟩) zs.length c6) q9;clear hb9;go_wp2_with fail
  refine hK.out _ _ (HX7.out w9 HB79.out) (fun hHeld2=>?_);clear hK K;refine wpAnyH_ready (rs:=[9]) (by kernel_rfl) (by simp) ?_;refine AllReadyH.cons rfl (fun K hK=>?_) AllReadyH.nil;go_simp;refine hK.out _ _ (HSET.out w9 HB79.out) (fun hHeld3=>?_);clear hK K;refine tk 10 ?_;refine tk 11 ?_;refine tk 12 ?_;refine wpAnyH_done (by kernel_rfl) ?_ _;clear hHeld hHeld2 hHeld3;go_wp2_with fail
  exact bodyPost_ret (v:=.tuple #[.agg #[.slice (some ⟨gz,0,none⟩) zs.length c6],.slice a8 l.length c8,v9,.int .i64 ((q:Int)+8)]) (by simp[results,Tryz.results65,go_sem,z9]) rfl (HFIN.out w9 v9 (.int .i64 ((q:Int)+8)) HB79.out (.slice a8 l.length c8))
 ·have hgb:decide (ta<tb)=false:=by simpa using hgt
  rw[if_neg hgt] at HC;have W1:IntKind.i64.wrap (ta+q3)=ta+q3:=by rw[IntKind.wrap_i64];omega
  have HBZ:Hid (Below w2.heap.size w2 w4):=HB24;clear hgt;have t6:=A0 (HC.out ga ca _ w4 (HRA2.out w4 HBZ.out));go_wp2_with fail
  refine t6.out.mono ?_;rintro e w6 ⟨a6,c6,rfl,hr6,hb6⟩;obtain⟨gz,ez,_,hcz,hcr⟩:=Po hr6 hzs;subst ez;obtain⟨w7,hw7⟩:∃w7,w7=w6.alloc (.cells #[.slice (some ⟨gz,0,none⟩) zs.length c6] 35):=⟨_,rfl⟩
  have hb67:Below w6.heap.size w6 w7:=by rw[hw7];exact Ax
  have hz7:w6.heap.size<w7.heap.size:=by rw[hw7];simp
  have HB27:Hid (Below w2.heap.size w2 w7):=A0 ((HBZ.out.trans (hb6.mono HBZ.out.size)).trans (hb67.mono (Nat.le_trans HBZ.out.size hb6.size)));have HX7:Hid (∀wX,Below w7.heap.size w7 wX->wX.cell? ⟨w6.heap.size,0,none⟩=some (.slice (some ⟨gz,0,none⟩) zs.length c6)):=A0 fun wX hX=>(hX.cell (p:=⟨w6.heap.size,0,none⟩) hz7).trans (by rw[hw7];simp[go_sem])
  have HRZ:Hid (∀wX,Below w7.heap.size w7 wX->A6 Ag wX w4.heap.size (.slice (some ⟨gz,0,none⟩) zs.length c6) zs):=A0 fun wX hX=>(hr6.below hb67).below hX
  have x7:=HX7.out w7 (Below.refl _ _);have t8:=A0 (HD.out gz c6 gb cb _ w7 (hcr.below hb67 hcr.lt) hcz (HRB.out w7 HB27.out));have HW7:Hid (w7=_):=hw7;have n6:w2.heap.size<=w4.heap.size:=HBZ.out.size;have n66:w4.heap.size<=w6.heap.size:=hb6.size;clear t6 hr6 hb6 hb67 hw7 hcr hcz;go_wp2_with fail
  rw[<- HW7.out];refine t8.out.mono ?_;rintro e w8 ⟨a8,c8,rfl,_,hb8⟩;have HB78:Hid (Below w7.heap.size w7 w8):=hb8;have HB28:Hid (Below w2.heap.size w2 w8):=A0 (HB27.out.trans (hb8.mono HB27.out.size));have x8:=HX7.out w8 hb8;obtain⟨wD,hwD⟩:∃x,x=w8.drew:=⟨_,rfl⟩
  have hbD:Below w8.heap.size w8 wD:=by rw[hwD];exact(Below.refl _ _).drew
  have HB2D:Hid (Below w2.heap.size w2 wD):=A0 (HB28.out.trans (hbD.mono HB28.out.size));have HB7D:Hid (Below w7.heap.size w7 wD):=A0 (hb8.trans (hbD.mono hb8.size));have HBbD:Hid (Below wb.heap.size wb wD):=A0 (HB2.out.trans (HB2D.out.mono HB2.out.size));have HWD:Hid (wD=w8.drew):=hwD;have xD:=HX7.out wD HB7D.out;obtain⟨q0,f0⟩:=HQ.out wD HBbD.out;have n2:wb.heap.size<=w2.heap.size:=HB2.out.size;have n7:w2.heap.size<=w7.heap.size:=HB27.out.size;have nD:w7.heap.size<=wD.heap.size:=HB7D.out.size;clear t8 hb8 hbD hwD x7;have HSET:Hid (∀wX,Below w7.heap.size w7 wX->(wX.setCell ⟨w.heap.size,0,none⟩ (.slice (some ⟨gz,0,none⟩) zs.length c6)).cell? ⟨w6.heap.size,0,none⟩=some (.slice (some ⟨gz,0,none⟩) zs.length c6)):=A0 fun wX hX=>(World.cell?_setCell_other _ _ _ _ (fun e=>by simp only[Addr.mk.injEq] at e;omega)).trans (HX7.out wX hX)
  have HKP:Hid (∀(g c b:Nat) (xs:List A9) wX,wb.heap.size<=b->A6 A7 wX b (.slice (some ⟨g,0,none⟩) xs.length c) xs->A6 A7 (wX.setCell ⟨w.heap.size,0,none⟩ (.slice (some ⟨gz,0,none⟩) zs.length c6)) b (.slice (some ⟨g,0,none⟩) xs.length c) xs):=A0 fun g c b xs wX hbq h=>by
   refine A6.kept h (Au (g:=w.heap.size) (World.grownBy.refl _ _) 0 _) (fun k hk=>?_);have:=(h.own k hk).1;simp;omega
  have HFIN:Hid (∀wX (v2 v3:Value),Below w7.heap.size w7 wX->∀v1,Im w zs (.returned (.tuple #[.agg #[.slice (some ⟨gz,0,none⟩) zs.length c6],v1,v2,v3])) (wX.setCell ⟨w.heap.size,0,none⟩ (.slice (some ⟨gz,0,none⟩) zs.length c6))):=A0 fun wX v2 v3 hX v1=>by
   refine⟨gz,c6,v1,v2,v3,rfl,?_,?_⟩
   ·refine(A6.kept (HRZ.out wX hX) (Au (g:=w.heap.size) (World.grownBy.refl _ _) 0 _) (fun k hk=>?_)).rebase (by omega);have:=((HRZ.out wX hX).own k hk).1;simp;omega
   ·exact((HBB.out.trans (HB2.out.mono (by omega))).trans ((HB27.out.trans (hX.mono HB27.out.size)).mono (by omega))).setCell (by simp) _
  go_upto_region 8 with fail
  refine wp_region_held_drew (S:=fun wX=>wX.cell? ⟨w6.heap.size,0,none⟩=some (.slice (some ⟨gz,0,none⟩) zs.length c6)) (by kernel_rfl) x8 (fun hHeld=>?_);rw[<- HWD.out] at hHeld ⊢;refine tk 0 ?_;refine tk 1 ?_;refine tk 2 ?_;refine tk 3 ?_;refine tk 4 ?_;refine tk 5 ?_;refine tk 7 ?_;refine tk 8 ?_;refine wpAnyH_ready (rs:=[6]) (by kernel_rfl) (by simp) ?_;refine AllReadyH.cons rfl (fun K hK=>?_) AllReadyH.nil;go_simp;refine(HS.out ga ca _ gb cb _ wD (HBB.out.trans (HBbD.out.mono (Nat.le_of_lt hzb))) (HRA2.out wD HB2D.out) (HRB.out wD HB2D.out)).mono ?_;rintro e w9 ⟨v9,rfl,hb9⟩;have HB79:Hid (Below w7.heap.size w7 w9):=A0 (HB7D.out.trans (hb9.mono nD));have HBb9:Hid (Below wb.heap.size wb w9):=A0 (HBbD.out.trans (hb9.mono HBbD.out.size));obtain⟨q9,f9⟩:=HQ.out w9 HBb9.out;have z9:=QJ (.slice (some ⟨gz,0,none⟩) zs.length c6) q9;clear hb9;go_wp2_with fail
  refine hK.out _ _ (HX7.out w9 HB79.out) (fun hHeld2=>?_);clear hK K;refine wpAnyH_ready (rs:=[9]) (by kernel_rfl) (by simp) ?_;refine AllReadyH.cons rfl (fun K hK=>?_) AllReadyH.nil;go_simp;refine hK.out _ _ (HSET.out w9 HB79.out) (fun hHeld3=>?_);clear hK K;refine tk 10 ?_;refine tk 11 ?_;refine tk 12 ?_;refine wpAnyH_done (by kernel_rfl) ?_ _;clear hHeld hHeld2 hHeld3;go_wp2_with fail
  exact bodyPost_ret (v:=.tuple #[.agg #[.slice (some ⟨gz,0,none⟩) zs.length c6],.slice a8 l.length c8,v9,.int .i64 ((q:Int)+8)]) (by simp[results,Tryz.results65,go_sem,z9]) rfl (HFIN.out w9 v9 (.int .i64 ((q:Int)+8)) HB79.out (.slice a8 l.length c8))
def Ik (zs:List Int) (n:Int):List Int:=zs++List.replicate (n.toNat-zs.length) 0
def YX:Value->Nat
 | .slice _ n _=>n
 | _=>0
theorem Xn (a:Option Addr) (n c:Nat):YX (.slice a n c)=n:=rfl
def I3 (w:World) (M:List Int) (S:List A9) (e:Ending) (w':World):Prop :=
 ∃g c g2 c2:Nat,e=.returned (.tuple #[.agg #[.slice (some ⟨g,0,none⟩) M.length c],.slice (some ⟨g2,0,none⟩) S.length c2])/\A6 Ag w' w.heap.size (.slice (some ⟨g,0,none⟩) M.length c) M/\A6 A7 w' w.heap.size (.slice (some ⟨g2,0,none⟩) S.length c2) S/\Below w.heap.size w w'
theorem Uz {w wb wX:World} {g c g2 c2:Nat} {M:List Int} {S:List A9} (hbb:Below w.heap.size w wb) (hzb:w.heap.size<wb.heap.size) (hX:Below wb.heap.size wb wX) (hm:A6 Ag wX wb.heap.size (.slice (some ⟨g,0,none⟩) M.length c) M) (hs:A6 A7 wX wb.heap.size (.slice (some ⟨g2,0,none⟩) S.length c2) S) (v:Value) : I3 w M S (.returned (.tuple #[.agg #[.slice (some ⟨g,0,none⟩) M.length c],.slice (some ⟨g2,0,none⟩) S.length c2])) (wX.setCell ⟨w.heap.size,0,none⟩ v):=by
 refine⟨g,c,g2,c2,rfl,?_,?_,(hbb.trans (hX.mono (by omega))).setCell (by simp) _⟩
 ·refine(A6.kept hm (Au (g:=w.heap.size) (World.grownBy.refl _ _) 0 _) (fun k hk=>?_)).rebase (by omega);have:=(hm.own k hk).1;simp;omega
 ·refine(A6.kept hs (Au (g:=w.heap.size) (World.grownBy.refl _ _) 0 _) (fun k hk=>?_)).rebase (by omega);have:=(hs.own k hk).1;simp;omega
set_option maxHeartbeats 8000000 in
theorem XZ (A:Value) (how:Int) (zs:List Int) (xs ys:List A9) (q1 q2:Nat) (w:World) (h0:0<=how) (h8:how<8) (hT:∀wX,Below w.heap.size w wX->Calls Tryz.prog 64 #[A,.int .i64 0,.int .i64 16] wX fun e w'=>e=.returned (.tuple #[.int .i64 how,.int .i64 1])/\Below wX.heap.size wX w') (hP:∀wX,Below w.heap.size w wX->Calls Tryz.prog 65 #[A,.int .i64 1] wX fun e w'=>Im wX zs e w') (hS:∀wX,Below w.heap.size w wX->Calls Tryz.prog 66 #[A,.int .i64 1,.int .i64 1] wX fun e w'=>GX wX xs q1 e w') (hY:∀wX,Below w.heap.size w wX->Calls Tryz.prog 67 #[A,.int .i64 1] wX fun e w'=>GX wX ys q2 e w') : Calls Tryz.prog 23 #[A] w fun e w'=>I3 w zs (if how=7 then ys else xs) e w':=by
 obtain⟨wb,hwb⟩:∃wb,wb=w.alloc (.cells #[.slice none 0 0] 35):=⟨_,rfl⟩
 have hbb:Below w.heap.size w wb:=by rw[hwb];exact Ax
 have hzb:w.heap.size<wb.heap.size:=by rw[hwb];simp
 have HQ:Hid (∀wX,Below wb.heap.size wb wX->wX.cell? ⟨w.heap.size,0,none⟩=some (.slice none 0 0)/\wX.frozen? ⟨w.heap.size,0,none⟩=false):=A0 fun wX hX =>
  ⟨(hX.cell (by simpa using hzb)).trans (by rw[hwb];simp[go_sem]),(hX.frozen (by simpa using hzb)).trans (by rw[hwb];simp[go_sem])⟩
 have HBB:Hid (Below w.heap.size w wb):=hbb;have HUP:Hid (∀wX,Below wb.heap.size wb wX->Below w.heap.size w wX):=A0 fun wX hX=>hbb.trans (hX.mono (Nat.le_of_lt hzb))
 have HWB:Hid (wb=_):=hwb;have HFIN:Hid (∀(g c g2 c2:Nat) (S:List A9) wX,Below wb.heap.size wb wX->A6 Ag wX wb.heap.size (.slice (some ⟨g,0,none⟩) zs.length c) zs->A6 A7 wX wb.heap.size (.slice (some ⟨g2,0,none⟩) S.length c2) S->I3 w zs S (.returned (.tuple #[.agg #[.slice (some ⟨g,0,none⟩) zs.length c],.slice (some ⟨g2,0,none⟩) S.length c2])) (wX.setCell ⟨w.heap.size,0,none⟩ (.slice (some ⟨g,0,none⟩) zs.length c))):=A0 fun g c g2 c2 S wX h1 h2 h3=>Uz hbb hzb h1 h2 h3 _
 have t1:=A0 (hT wb hbb);have HP:Hid _:=hP;have HS:Hid _:=hS;have HY:Hid _:=hY;have L8:decide (how<8)=true:=by simpa using h8
 obtain⟨SS,hSS⟩:∃SS,(if how=7 then ys else xs)=SS:=⟨_,rfl⟩
 rw[hSS];have HF7:Hid (how=7->ys=SS):=A0 fun h=>by rw[<- hSS,if_pos h]
 have HF8:Hid (¬how=7->xs=SS):=A0 fun h=>by rw[<- hSS,if_neg h]
 clear hT hP hS hY hwb hbb hSS;go_enter Tryz.func23,Tryz.ntmps23
 go_wp2_with fail
 rw[<- HWB.out];refine t1.out.mono ?_;rintro e w1 ⟨rfl,hb1⟩;have HB1:Hid (Below wb.heap.size wb w1):=hb1;have t2:=A0 (HP.out w1 (HUP.out w1 hb1));clear t1 hb1;go_wp2_with fail
 refine t2.out.mono ?_;rintro e w2 ⟨g,c,v1,v2,v3,rfl,hr2,hb2⟩;obtain⟨w3,hw3⟩:∃w3,w3=w2.alloc (.cells #[.slice (some ⟨g,0,none⟩) zs.length c] 35):=⟨_,rfl⟩
 have hb23:Below w2.heap.size w2 w3:=by rw[hw3];exact Ax
 have hz3:w2.heap.size<w3.heap.size:=by rw[hw3];simp
 have HX3:Hid (∀wX,Below w3.heap.size w3 wX->wX.cell? ⟨w2.heap.size,0,none⟩=some (.slice (some ⟨g,0,none⟩) zs.length c)):=A0 fun wX hX=>(hX.cell (p:=⟨w2.heap.size,0,none⟩) hz3).trans (by rw[hw3];simp[go_sem])
 have HB3:Hid (Below wb.heap.size wb w3):=A0 ((HB1.out.trans (hb2.mono HB1.out.size)).trans (hb23.mono (Nat.le_trans HB1.out.size hb2.size)));have HR3:Hid (∀wX,Below w3.heap.size w3 wX->A6 Ag wX wb.heap.size (.slice (some ⟨g,0,none⟩) zs.length c) zs):=A0 fun wX hX=>((hr2.below hb23).below hX).rebase HB1.out.size
 have HW3:Hid (w3=_):=hw3;have t3:=A0 (HS.out w3 (HUP.out w3 HB3.out));clear t2 hr2 hb2 hb23 hw3;go_wp2_with fail
 rw[<- HW3.out];refine t3.out.mono ?_;rintro e w4 ⟨g4,c4,rfl,hr4,hb4⟩;have HB34:Hid (Below w3.heap.size w3 w4):=hb4;have HB4:Hid (Below wb.heap.size wb w4):=A0 (HB3.out.trans (hb4.mono HB3.out.size));have HR4:Hid (A6 A7 w4 wb.heap.size (.slice (some ⟨g4,0,none⟩) xs.length c4) xs):=A0 (hr4.rebase HB3.out.size);clear t3 hr4 hb4;by_cases h7:how=7
 ·obtain rfl:=HF7.out h7;have L7:(how==7)=true:=by simpa using h7
  have t4:=A0 (HY.out w4 (HUP.out w4 HB4.out));clear h7;go_wp2_with fail
  refine t4.out.mono ?_;rintro e w5 ⟨g5,c5,rfl,hr5,hb5⟩;have HB5:Hid (Below wb.heap.size wb w5):=A0 (HB4.out.trans (hb5.mono HB4.out.size));have HB35:Hid (Below w3.heap.size w3 w5):=A0 (HB34.out.trans (hb5.mono HB34.out.size));have HR5:Hid (A6 A7 w5 wb.heap.size (.slice (some ⟨g5,0,none⟩) ys.length c5) ys):=A0 (hr5.rebase HB4.out.size);have x5:=HX3.out w5 HB35.out;obtain⟨q5,f5⟩:=HQ.out w5 HB5.out;have z5:=QJ (.slice (some ⟨g,0,none⟩) zs.length c) q5;clear t4 hr5 hb5;go_wp2_with fail
  exact bodyPost_ret (v:=.tuple #[.agg #[.slice (some ⟨g,0,none⟩) zs.length c],.slice (some ⟨g5,0,none⟩) ys.length c5]) (by simp[results,Tryz.results23,go_sem,z5]) rfl (HFIN.out g c g5 c5 ys w5 HB5.out (HR3.out w5 HB35.out) HR5.out)
 ·obtain rfl:=HF8.out h7;have L7:(how==7)=false:=by simpa using h7
  have x4:=HX3.out w4 HB34.out;obtain⟨q4,f4⟩:=HQ.out w4 HB4.out;have z4:=QJ (.slice (some ⟨g,0,none⟩) zs.length c) q4;clear h7;go_wp2_with fail
  exact bodyPost_ret (v:=.tuple #[.agg #[.slice (some ⟨g,0,none⟩) zs.length c],.slice (some ⟨g4,0,none⟩) xs.length c4]) (by simp[results,Tryz.results23,go_sem,z4]) rfl (HFIN.out g c g4 c4 xs w4 HB4.out (HR3.out w4 HB34.out) HR4.out)
set_option maxHeartbeats 8000000 in
theorem WX (A:Value) (how:Int) (zs ys:List Int) (xs:List A9) (q z:Nat) (tn:Int) (w:World) (h8:8<=how) (h16:how<16) (hzl:zs.length<=1000) (ht:0<=tn/\tn<=1000) (hT:∀wX,Below w.heap.size w wX->Calls Tryz.prog 64 #[A,.int .i64 0,.int .i64 16] wX fun e w'=>e=.returned (.tuple #[.int .i64 how,.int .i64 1])/\Below wX.heap.size wX w') (hD:∀wX,Below w.heap.size w wX->Calls Tryz.prog 68 #[A,.int .i64 1] wX fun e w'=>∃g,e=.returned (.tuple #[.agg #[.slice (some ⟨g,0,none⟩) zs.length zs.length],.int .i64 (q:Int)])/\wX.heap.size<=g/\CQ w' g zs/\Below wX.heap.size wX w') (hS:∀wX,Below w.heap.size w wX->Calls Tryz.prog 66 #[A,.int .i64 (q:Int),.int .i64 (how%2)] wX fun e w'=>GX wX xs z e w') (hN:∀(g c b:Nat) wX,A6 A7 wX b (.slice (some ⟨g,0,none⟩) xs.length c) xs->Calls Tryz.prog 69 #[.slice (some ⟨g,0,none⟩) xs.length c] wX fun e w'=>e=.returned (.int .i64 tn)/\Below wX.heap.size wX w') (hM:∀(g:Nat) wX,Below w.heap.size w wX->Ar wX g zs->Calls Tryz.prog 70 #[A,.int .i64 (z:Int),.agg #[.slice (some ⟨g,0,none⟩) zs.length zs.length]] wX fun e w'=>∃g1 c1,e=.returned (.agg #[.slice (some ⟨g1,0,none⟩) ys.length c1])/\A6 Ag w' wX.heap.size (.slice (some ⟨g1,0,none⟩) ys.length c1) ys/\Below wX.heap.size wX w') : Calls Tryz.prog 23 #[A] w fun e w'=>I3 w (if how<13 then Ik zs (16*(tn+how%3)) else if how=15 then ys else zs) xs e w':=by
 obtain⟨i0,hi,hz0,hz1,hz2⟩:=info_parts Fb;obtain⟨wb,hwb⟩:∃wb,wb=w.alloc (.cells #[.slice none 0 0] 35):=⟨_,rfl⟩
 have hbb:Below w.heap.size w wb:=by rw[hwb];exact Ax
 have hzb:w.heap.size<wb.heap.size:=by rw[hwb];simp
 have HQ:Hid (∀wX,Below wb.heap.size wb wX->wX.cell? ⟨w.heap.size,0,none⟩=some (.slice none 0 0)/\wX.frozen? ⟨w.heap.size,0,none⟩=false):=A0 fun wX hX =>
  ⟨(hX.cell (by simpa using hzb)).trans (by rw[hwb];simp[go_sem]),(hX.frozen (by simpa using hzb)).trans (by rw[hwb];simp[go_sem])⟩
 have HUP:Hid (∀wX,Below wb.heap.size wb wX->Below w.heap.size w wX):=A0 fun wX hX=>hbb.trans (hX.mono (Nat.le_of_lt hzb))
 have HWB:Hid (wb=_):=hwb;have HFIN:Hid (∀(g c g2 c2:Nat) (Z:List Int) wX,Below wb.heap.size wb wX->A6 Ag wX wb.heap.size (.slice (some ⟨g,0,none⟩) Z.length c) Z->A6 A7 wX wb.heap.size (.slice (some ⟨g2,0,none⟩) xs.length c2) xs->I3 w Z xs (.returned (.tuple #[.agg #[.slice (some ⟨g,0,none⟩) Z.length c],.slice (some ⟨g2,0,none⟩) xs.length c2])) (wX.setCell ⟨w.heap.size,0,none⟩ (.slice (some ⟨g,0,none⟩) Z.length c))):=A0 fun g c g2 c2 Z wX h1 h2 h3=>Uz hbb hzb h1 h2 h3 _
 have t1:=A0 (hT wb hbb);have HD:Hid _:=hD;have HN:Hid _:=hN;have HM:Hid _:=hM;have L8:decide (how<8)=false:=by simpa using h8
 obtain⟨r2,hr2⟩:∃r2:Int,how%2=r2:=⟨_,rfl⟩
 have e2:how.tmod 2=r2:=by rw[Int.tmod_eq_emod_of_nonneg (by omega)];exact hr2
 rw[hr2] at hS;obtain⟨r3,hr3⟩:∃r3:Int,how%3=r3:=⟨_,rfl⟩
 have e3:how.tmod 3=r3:=by rw[Int.tmod_eq_emod_of_nonneg (by omega)];exact hr3
 rw[hr3];have b3:0<=r3/\r3<3:=by omega
 have HS:Hid _:=hS;obtain⟨ZZ,hZZ⟩:∃ZZ,(if how<13 then Ik zs (16*(tn+r3)) else if how=15 then ys else zs)=ZZ:=⟨_,rfl⟩
 rw[hZZ];have HF1:Hid (how<13->Ik zs (16*(tn+r3))=ZZ):=A0 fun h=>by rw[<- hZZ,if_pos h]
 have HF2:Hid (¬how<13->how=15->ys=ZZ):=A0 fun h h2=>by rw[<- hZZ,if_neg h,if_pos h2]
 have HF3:Hid (¬how<13->¬how=15->zs=ZZ):=A0 fun h h2=>by rw[<- hZZ,if_neg h,if_neg h2]
 clear hT hD hS hN hM hwb hbb hr2 hr3 hZZ;go_enter Tryz.func23,Tryz.ntmps23
 go_wp2_with fail
 rw[<- HWB.out];refine t1.out.mono ?_;rintro e w1 ⟨rfl,hb1⟩;have HB1:Hid (Below wb.heap.size wb w1):=hb1;have t2:=A0 (HD.out w1 (HUP.out w1 hb1));clear t1 hb1;go_wp2_with fail
 refine t2.out.mono ?_;rintro e w2 ⟨g,rfl,hg2,hr2,hb2⟩;obtain⟨w3,hw3⟩:∃w3,w3=w2.alloc (.cells #[.slice (some ⟨g,0,none⟩) zs.length zs.length] 35):=⟨_,rfl⟩
 have hb23:Below w2.heap.size w2 w3:=by rw[hw3];exact Ax
 have hz3:w2.heap.size<w3.heap.size:=by rw[hw3];simp
 have HX3:Hid (∀wX,Below w3.heap.size w3 wX->wX.cell? ⟨w2.heap.size,0,none⟩=some (.slice (some ⟨g,0,none⟩) zs.length zs.length)):=A0 fun wX hX=>(hX.cell (p:=⟨w2.heap.size,0,none⟩) hz3).trans (by rw[hw3];simp[go_sem])
 have HB3:Hid (Below wb.heap.size wb w3):=A0 ((HB1.out.trans (hb2.mono HB1.out.size)).trans (hb23.mono (Nat.le_trans HB1.out.size hb2.size)));have HG:Hid (g<w3.heap.size):=A0 (Nat.lt_trans hr2.lt hz3);have HI3:Hid (∀wX,Below w3.heap.size w3 wX->CQ wX g zs):=A0 fun wX hX=>(hr2.below hb23 hr2.lt).below hX (Nat.lt_trans hr2.lt hz3)
 have HR3:Hid (∀wX,Below w3.heap.size w3 wX->A6 Ag wX wb.heap.size (.slice (some ⟨g,0,none⟩) zs.length zs.length) zs):=A0 fun wX hX=>(HI3.out wX hX).erow (Nat.le_trans HB1.out.size hg2) (by omega)
 have HW3:Hid (w3=_):=hw3;have t3:=A0 (HS.out w3 (HUP.out w3 HB3.out));clear t2 hr2 hb2 hb23 hw3 hg2;go_wp2_with fail
 rw[<- HW3.out];refine t3.out.mono ?_;rintro e w4 ⟨g4,c4,rfl,hr4,hb4⟩;have HB34:Hid (Below w3.heap.size w3 w4):=hb4;have HB4:Hid (Below wb.heap.size wb w4):=A0 (HB3.out.trans (hb4.mono HB3.out.size));have HR4:Hid (A6 A7 w4 wb.heap.size (.slice (some ⟨g4,0,none⟩) xs.length c4) xs):=A0 (hr4.rebase HB3.out.size);have HNE:Hid (g≠g4):=A0 (by have:=(hr4.own g4 rfl).1;have:=HG.out;omega);have x4:=HX3.out w4 HB34.out;obtain⟨q4,f4⟩:=HQ.out w4 HB4.out;have z4:=QJ (.slice (some ⟨g,0,none⟩) zs.length zs.length) q4;clear t3 hr4 hb4;by_cases h13:how<13
 ·have HF:=A0 (HF1.out h13);have L13:decide (how<13)=true:=by simpa using h13
  have W1:IntKind.i64.wrap (tn+r3)=tn+r3:=by rw[IntKind.wrap_i64];omega
  have W2:IntKind.i64.wrap (16*(tn+r3))=16*(tn+r3):=by rw[IntKind.wrap_i64];omega
  have HRZ:Hid (A6 Ag w4 wb.heap.size (.slice (some ⟨g,0,none⟩) zs.length zs.length) zs):=A0 (HR3.out w4 HB34.out);clear h13 f4 q4 z4;go_wp2_with fail
  go_loopw [16] (fun vv wr=>∃(k:Nat) (Z:List Int) (gw cw:Nat),vv=.slice (some ⟨gw,0,none⟩) Z.length cw/\Hid (Z=zs++List.replicate k 0/\(k=0\/(Z.length:Int)<=16*(tn+r3)))/\Hid (gw≠g4)/\Hid (A6 Ag wr wb.heap.size (.slice (some ⟨gw,0,none⟩) Z.length cw) Z)/\Hid (A6 A7 wr wb.heap.size (.slice (some ⟨g4,0,none⟩) xs.length c4) xs)/\Hid (Below wb.heap.size wb wr)) (fun vv _=>50000-YX vv)
  case atStart=>exact⟨0,zs,g,zs.length,rfl,A0 ⟨by simp,.inl rfl⟩,HNE,HRZ,HR4,HB4⟩
  case round =>
   clear HRZ HNE HR4 HB4 x4;obtain⟨k,Z,gw,cw,rfl,HK,HNE,HRZ,HR4,HB4⟩:=hrel;have hZl:Z.length<=50000:=by
    obtain⟨e,h⟩:=HK.out;rcases h with h|h
    ·rw[e,h];simp;omega
    ·omega
   have t5:=A0 (HN.out g4 c4 _ _ HR4.out);(go_wp2_with fail);refine t5.out.mono ?_;rintro e w5 ⟨rfl,hb5⟩;have HB5:Hid (Below wb.heap.size wb w5):=A0 (HB4.out.trans (hb5.mono HB4.out.size));have HR5:Hid (A6 A7 w5 wb.heap.size (.slice (some ⟨g4,0,none⟩) xs.length c4) xs):=A0 (HR4.out.below hb5);have HZ5:Hid (A6 Ag w5 wb.heap.size (.slice (some ⟨gw,0,none⟩) Z.length cw) Z):=A0 (HRZ.out.below hb5);clear t5 hb5 HB4 HR4 HRZ;by_cases hlt:(Z.length:Int)<16*(tn+r3)
   ·(have L1:decide ((Z.length:Int)<16*(tn+r3))=true:=by simpa using hlt);have HRD:Hid (A6 Ag (w5.alloc (.cells #[.int .u64 0] 75)) wb.heap.size (.slice (some ⟨gw,0,none⟩) Z.length cw) Z):=A0 (HZ5.out.below Ax);have HSD:Hid (A6 A7 (w5.alloc (.cells #[.int .u64 0] 75)) wb.heap.size (.slice (some ⟨g4,0,none⟩) xs.length c4) xs):=A0 (HR5.out.below Ax);have HBD:Hid (Below wb.heap.size wb (w5.alloc (.cells #[.int .u64 0] 75))):=A0 (HB5.out.alloc HB5.out.size _);have s5:=HB5.out.size;have HL5:Hid (g4<w5.heap.size):=A0 (HR5.out.own g4 rfl).2;have HL:Hid (g4<(w5.alloc (.cells #[.int .u64 0] 75)).heap.size):=A0 (HSD.out.own g4 rfl).2;clear HB5 HR5 HZ5;(go_wp2_with (at_builtin;refine wpList_append_lies _ rfl (.tmp 75) (.tmp 76) 33 rfl wb.heap.size 75 i0 _ 1 8 Tryz.underlying33 hi hz0 hz1 hz2 rfl (by omega) _ _ _ rfl HRD.out ⟨_,0,none⟩ 1 1 [.int .u64 0] rfl rfl ?c1 ?c2 (by omega) ?c3 ?c4 ?c5 _ rfl ?_));(case c1=>exact World.news_of_block (heap_alloc_new _ (.cells #[.int .u64 0] 75)));(case c2=>intro u hu;simp at hu;rcases hu with rfl;rfl);(case c3=>unfold maxLen;omega);(case c4=>omega);(case c5=>first|omega|(simp;omega));intro g7 c7 w7 hown hgrow hat hlt3;obtain⟨hr7,hb7⟩:=Ej (E:=Ag) (x:=0) HBD.out HRD.out hown hgrow;have hs7:=A6.kept HSD.out hgrow (fun k hk=>by have:=HNE.out;simp[Value.ownBlock] at hk ⊢;omega);have hn7:g7≠g4:=by
     have:=HNE.out;have:=HL.out;rcases hat with h|h
     ·(have h2:gw=g7:=by injection h);omega
     ·have h3:=HL5.out;rw[h];simp;omega
    have HR7:Hid _:=hr7;have HB7:Hid _:=hb7;have HS7:Hid _:=hs7;have HN7:Hid _:=hn7;(have hE1:(Z++[0]).length=Z.length+1:=by simp);clear hown hgrow hat hlt3 hr7 hb7 hs7 hn7;(go_wp2_with fail);go_roundw;(case rel=>exact⟨k+1,Z++[0],g7,c7,by rw[hE1],A0 ⟨by rw[HK.out.1,List.replicate_succ',List.append_assoc],.inr (by rw[hE1];omega)⟩,HN7,HR7,HS7,HB7⟩);case measure=>simp[Xn];omega
   ·(have L1:decide ((Z.length:Int)<16*(tn+r3))=false:=by simpa using hlt);obtain⟨q5,f5⟩:=HQ.out w5 HB5.out;have z5:=QJ (.slice (some ⟨gw,0,none⟩) Z.length cw) q5;have hE:Z=Ik zs (16*(tn+r3)):=by
     obtain⟨e,h⟩:=HK.out;unfold Ik;(have el:Z.length=zs.length+k:=by rw[e];simp);(have ek:k=(16*(tn+r3)).toNat-zs.length:=by rcases h with h|h<;>omega);rw[<- ek];exact e
    obtain rfl:=hE.trans HF.out;clear hlt hE;(go_wp2_with fail);exact bodyPost_ret (v:=.tuple #[.agg #[.slice (some ⟨gw,0,none⟩) Z.length cw],.slice (some ⟨g4,0,none⟩) xs.length c4]) (by simp[results,Tryz.results23,go_sem,z5]) rfl (HFIN.out gw cw g4 c4 Z w5 HB5.out HZ5.out HR5.out)
 ·have L13:decide (how<13)=false:=by simpa using h13
  by_cases h15:how=15
  ·obtain rfl:=HF2.out (by omega) h15;(have L15:(how==15)=true:=by simpa using h15);have t5:=A0 (HM.out g w4 (HUP.out w4 HB4.out) (HI3.out w4 HB34.out).c);clear h15 h13;(go_wp2_with fail);refine t5.out.mono ?_;rintro e w5 ⟨g5,c5,rfl,hr5,hb5⟩;have HB5:Hid (Below wb.heap.size wb w5):=A0 (HB4.out.trans (hb5.mono HB4.out.size));have HR5:Hid (A6 A7 w5 wb.heap.size (.slice (some ⟨g4,0,none⟩) xs.length c4) xs):=A0 (HR4.out.below hb5);have HZ5:Hid (A6 Ag w5 wb.heap.size (.slice (some ⟨g5,0,none⟩) ys.length c5) ys):=A0 (hr5.rebase HB4.out.size);obtain⟨q5,f5⟩:=HQ.out w5 HB5.out;have z5:=QJ (.slice (some ⟨g5,0,none⟩) ys.length c5) q5;clear t5 hr5 hb5 q4 f4 z4;(go_wp2_with fail);exact bodyPost_ret (v:=.tuple #[.agg #[.slice (some ⟨g5,0,none⟩) ys.length c5],.slice (some ⟨g4,0,none⟩) xs.length c4]) (by simp[results,Tryz.results23,go_sem,z5]) rfl (HFIN.out g5 c5 g4 c4 ys w5 HB5.out HZ5.out HR5.out)
  ·obtain rfl:=HF3.out (by omega) h15;(have L15:(how==15)=false:=by simpa using h15);clear h15 h13;(go_wp2_with fail);exact bodyPost_ret (v:=.tuple #[.agg #[.slice (some ⟨g,0,none⟩) zs.length zs.length],.slice (some ⟨g4,0,none⟩) xs.length c4]) (by simp[results,Tryz.results23,go_sem,z4]) rfl (HFIN.out g zs.length g4 c4 zs w4 HB4.out (HR3.out w4 HB34.out) HR4.out)
end Go.Proofs.YtnmhkgmmpkjjeaaGreat
