import Derived.Test.YtnmhkgmmpkjjeaaGreatL19
namespace Go.Proofs.YtnmhkgmmpkjjeaaGreat
open Go.ChangeShapes Go.WideShapes Go.ChangeAt Go.RowKit
set_option linter.unusedVariables false
attribute [local go_sem ↓] Go.wp_at_zero Go.wp_at_succ
def Ce (zs:List Int):Ff:=⟨zs,[],[],[]⟩
theorem DA (zs:List Int) (page level frame:Int):Bx (Ce zs) page 0 level frame=zs.getD (frame*16+MR page level).toNat 0:=by
 unfold Bx VU;have:Pu 0 level.toNat=false:=by simp[Pu]
 rw[this];rfl
theorem XI (k:Nat):Pu 0 k=false:=by simp[Pu]
theorem M8 (page:Int) (M:Ff) (level x:Int) (doom:Bool):(TU page 0 M level x doom).2=if AJ level x=0 then ⟨0,0,0,0⟩ else if AJ level x=2\/AJ level x=3 then ⟨1,AV level x+page%Ni level x,B6 level x,Ni level x⟩ else ⟨3,0,0,0⟩:=by
 unfold TU;split
 ·rfl
 ·split<;>rfl
def C1 (n page level x:Int) (R:JO):JO :=
 if AJ level x=0 then ⟨0,0,0,0⟩
 else if AJ level x=1/\AV level x<n/\level<3 then R
 else if AJ level x=2 then ⟨1,AV level x+page%16,B6 level x,16⟩
 else if AJ level x=3 then ⟨1,AV level x,B6 level x,1⟩
 else ⟨3,0,0,0⟩
theorem Kb (zs:List Int) (page level frame:Int) (R:JO) (h:level=3):C1 (Ae zs.length) page level (Bx (Ce zs) page 0 level frame) R=(VD page 0 0 (Ce zs) level frame false).2:=by
 show _=(TU page 0 (Ce zs) level _ false).2;rw[M8];unfold C1 Ni;generalize Bx (Ce zs) page 0 level frame=x;by_cases h0:AJ level x=0
 ·rw[if_pos h0,if_pos h0]
 ·rw[if_neg h0,if_neg h0,if_neg (by omega)];by_cases h2:AJ level x=2
  ·simp[h2]
  ·by_cases h3:AJ level x=3
   ·simp[h3]
   ·simp[h2,h3]
theorem FG (zs:List Int) (page level frame:Int) (d:Nat) (h:level<3):C1 (Ae zs.length) page level (Bx (Ce zs) page 0 level frame) (VD page 0 d (Ce zs) (level+1) (AV level (Bx (Ce zs) page 0 level frame)) false).2=(VD page 0 (d+1) (Ce zs) level frame false).2:=by
 conv=>rhs;unfold VD
 have hs:SU page 0 (Ce zs) level (Bx (Ce zs) page 0 level frame) false=Ce zs:=by
  unfold SU;rw[if_neg (by rw[XI];simp)]
 rw[hs];generalize Bx (Ce zs) page 0 level frame=x;have hm:(Ce zs).mem=zs:=rfl;unfold C1 Tg;rw[hm];by_cases h1:AJ level x=1/\AV level x<Ae zs.length
 ·rw[if_neg (by omega),if_pos ⟨h1.1,h1.2,h⟩,if_pos (by simp[h1])]
 ·have e1:¬(AJ level x=1/\AV level x<Ae zs.length/\level<3):=fun h'=>h1 ⟨h'.1,h'.2.1⟩
  have e2:¬((decide (AJ level x=1)&&decide (AV level x<Ae zs.length))=true):=by
   simp only[Bool.and_eq_true,decide_eq_true_eq];exact h1
  rw[if_neg e1,if_neg e2];rw[M8];unfold Ni;by_cases h0:AJ level x=0
  ·rw[if_pos h0,if_pos h0]
  ·rw[if_neg h0,if_neg h0];by_cases h2:AJ level x=2
   ·simp[h2]
   ·by_cases h3:AJ level x=3
    ·simp[h3]
    ·simp[h2,h3]
set_option maxHeartbeats 4000000 in
theorem Lk (g:Nat) (zs:List Int) (c:Nat) (page level frame:Int) (hp0:0<=page) (hp1:page<4096) (hl1:1<=level) (hl3:level<=3) (hf0:0<=frame) (hf1:frame<Ae zs.length) (hz:D3 zs) (R:JO) (w:World) (hg:At w g zs) (hrec:∀wX,Below w.heap.size w wX->level<3->AJ level (Bx (Ce zs) page 0 level frame)=1->AV level (Bx (Ce zs) page 0 level frame)<Ae zs.length->Calls Tryz.prog 59 #[.agg #[.slice (some ⟨g,0,none⟩) zs.length c],.int .i64 page,.int .i64 (level+1),.int .i64 (AV level (Bx (Ce zs) page 0 level frame))] wX fun e w'=>e=.returned (Nq R)/\Below wX.heap.size wX w') : Calls Tryz.prog 59 #[.agg #[.slice (some ⟨g,0,none⟩) zs.length c],.int .i64 page,.int .i64 level,.int .i64 frame] w fun e w'=>e=.returned (Nq (C1 (Ae zs.length) page level (Bx (Ce zs) page 0 level frame) R))/\Below w.heap.size w w':=by
 have hn:=BS zs.length hz.n0;have hnl:=D9 zs.length;have hix:=Vy page level hp0 hp1;obtain⟨Ad,hAd⟩:∃Ad:Nat,(Ad:Int)=frame*16+MR page level:=⟨(frame*16+MR page level).toNat,by omega⟩
 have hAd2:Ad<zs.length:=by omega
 have hAn:(frame*16+MR page level).toNat=Ad:=by omega
 have hcell:=hg.cell (i:=Ad) hAd2;have hx:=DA zs page level frame;rw[hAn] at hx;rw[<- hx] at hcell;have hrg:=hz.rng Ad;rw[<- hx] at hrg;have hidx:=fun w=>S7 page level hp0 hp1 w
 have hdec:=fun wX=>Bt level (Bx (Ce zs) page 0 level frame) hrg.1 hrg.2 wX
 have hfr:=D6 (some ⟨g,0,none⟩) zs.length c (by omega);have hgl:=hg.lt;obtain⟨wb,hwb⟩:∃wb,wb=(w.alloc (.cells #[.slice (some ⟨g,0,none⟩) zs.length c] 35)).alloc (.cells #[.int .i64 0,.int .i64 0,.int .i64 0,.int .i64 0] 56):=⟨_,rfl⟩
 have hbb:Below w.heap.size w wb:=by rw[hwb];exact((Below.refl _ _).alloc (Nat.le_refl _) _).alloc (by simp) _
 have hzb:wb.heap.size=w.heap.size+2:=by rw[hwb];simp
 have hcw:wb.cell? ⟨g,Ad,none⟩=some (.int .u64 (Bx (Ce zs) page 0 level frame)):=(hbb.cell (by simpa using hgl)).trans hcell;have HKS:Hid (∀wX,Below wb.heap.size wb wX->wX.cell? ⟨w.heap.size,0,none⟩=some (.slice (some ⟨g,0,none⟩) zs.length c)/\wX.cell? ⟨g,Ad,none⟩=some (.int .u64 (Bx (Ce zs) page 0 level frame))):=fun wX hX=>⟨(hX.cell (by simp;omega)).trans (by rw[hwb];simp[go_sem]),(hX.cell (by simp;omega)).trans hcw⟩
 have HRS:Hid (∀wX,Below wb.heap.size wb wX->(wX.cell? ⟨w.heap.size+1,0,none⟩=some (.int .i64 0)/\wX.cell? ⟨w.heap.size+1,1,none⟩=some (.int .i64 0)/\wX.cell? ⟨w.heap.size+1,2,none⟩=some (.int .i64 0)/\wX.cell? ⟨w.heap.size+1,3,none⟩=some (.int .i64 0))/\wX.frozen? ⟨w.heap.size+1,0,none⟩=false/\wX.frozen? ⟨w.heap.size+1,1,none⟩=false/\wX.frozen? ⟨w.heap.size+1,2,none⟩=false/\wX.frozen? ⟨w.heap.size+1,3,none⟩=false):=fun wX hX=>by
  refine⟨⟨?_,?_,?_,?_⟩,?_,?_,?_,?_⟩;iterate 4 (exact(hX.cell (by simp;omega)).trans (by rw[hwb];simp[go_sem]))
  iterate 4 (exact(hX.frozen (by simp;omega)).trans (by rw[hwb];simp[go_sem]))
 have W1:IntKind.i64.wrap (frame*16)=frame*16:=by rw[IntKind.wrap_i64];omega
 have W2:IntKind.i64.wrap (frame*16+MR page level)=(Ad:Int):=by rw[IntKind.wrap_i64];omega
 have HWB:Hid (wb=_):=hwb;have HBB:Hid (Below _ w wb):=hbb;have HREC:Hid _:=hrec;have HZB:Hid (wb.heap.size=w.heap.size+2):=hzb;have HFR:Hid _:=hfr;have LA:(Ad:Int)<(zs.length:Int):=by omega
 have LB:(0:Int)<=(Ad:Int):=by omega
 have hdO:=Cd level (Bx (Ce zs) page 0 level frame);have HK3:Hid (AJ level (Bx (Ce zs) page 0 level frame)=1->level<3):=fun h=>by
  rcases Int.lt_or_eq_of_le hl3 with h'|h'
  ·exact h'
  ·rw[h'] at h;exact absurd h (UY _)
 obtain⟨RES,hRES⟩:∃RES,RES=C1 (Ae zs.length) page level (Bx (Ce zs) page 0 level frame) R:=⟨_,rfl⟩
 rw[<- hRES];have HRES:Hid (RES=_):=hRES;clear hRES;unfold C1 at HRES;unfold Nq at *;generalize Bx (Ce zs) page 0 level frame=X at *;unfold Cj Ck at hdec;generalize AJ level X=K at *;generalize AV level X=O at *;generalize B6 level X=P at *;generalize MR page level=IX at *;clear hzb hwb hbb hcw hrec hfr hg hcell hx hrg hix hAd hAn;go_enter Tryz.func59,Tryz.ntmps59
 go_upto_region 1 with fail
 rw[<- HWB.out];go_cut [9] (fun d wx=>∃D,d=.pointer (some ⟨D,0,none⟩)/\wx.cell? ⟨D,0,none⟩=some (.int .i64 K)/\wx.cell? ⟨D,1,none⟩=some (.int .i64 O)/\wx.cell? ⟨D,2,none⟩=some (.int .i64 P)/\wb.heap.size<=D/\D<wx.heap.size/\Below wb.heap.size wb wx)
 case first =>
  go_region_held3 (fun wX=>wX.cell? ⟨w.heap.size,0,none⟩=some (.slice (some ⟨g,0,none⟩) zs.length c)/\wX.cell? ⟨g,Ad,none⟩=some (.int .u64 X))
   ((refine HKS.out _ ?_;repeat (first|exact Below.refl _ _|with_reducible refine Below.drew ?_|with_reducible refine Below.setCell ?_ (by first|omega|(simp<;>omega)) _|with_reducible refine Below.alloc ?_ (by first|omega|(simp<;>omega)) _|refine Below.trans ?_ (hb1.mono (by first|omega|(simp<;>omega))))))
   (first
    | (go_at_call 131;refine(hidx _).mono ?_;rintro e wE ⟨rfl,hwE⟩;obtain rfl:=hwE.symm)
    | (go_at_call 62;refine(hdec _).mono ?_;rintro e w1 ⟨rfl,hb1⟩;obtain⟨hc1,hf1⟩:=JB hb1;have hz1:=hb1.size;simp at hz1))
  all_goals
   go_wp2_with fail
   go_meet
   case rel =>
    refine⟨_,rfl,?_,?_,?_,?_,?_,?_⟩
    ·first|(simp[go_sem,hc1];done)|simp[go_sem]
    ·first|(simp[go_sem,hc1];done)|simp[go_sem]
    ·first|(simp[go_sem,hc1];done)|simp[go_sem]
    ·first|omega|(simp<;>omega)
    ·first|omega|(simp<;>omega)
    ·repeat (first|exact Below.refl _ _|with_reducible refine Below.drew ?_|with_reducible refine Below.setCell ?_ (by first|omega|(simp<;>omega)) _|with_reducible refine Below.alloc ?_ (by first|omega|(simp<;>omega)) _|refine Below.trans ?_ (hb1.mono (by first|omega|(simp<;>omega))))
 case rest =>
  obtain⟨wx,rfl⟩:∃wx:World,wx=wc:=⟨_,rfl⟩
  obtain⟨D,rfl,y0,y1,y2,hD0,hD1,hbx⟩:=hcut;have sx:=hbx.size;have hzb:=HZB.out;obtain⟨⟨r0,r1,r2,r3⟩,f0,f1,f2,f3⟩:=HRS.out wx hbx;obtain⟨m0,_⟩:=HKS.out wx hbx;have HBX:Hid (Below wb.heap.size wb wx):=hbx;have HBW:Hid (Below w.heap.size w wx):=HBB.out.trans (hbx.mono (by omega));clear hbx hidx hdec W1 W2 LA LB;by_cases h0:K=0
  ·subst h0;clear HREC HFR;(go_wp2_with fail);exact bodyPost_ret (v:=.agg #[.int .i64 0,.int .i64 0,.int .i64 0,.int .i64 0]) (by simp[results,Tryz.results59,go_sem,r0,r1,r2,r3]) rfl ⟨by rw[HRES.out];rfl,((((HBW.out.setCell (by simp) _).setCell (by simp) _).setCell (by simp) _).setCell (by simp) _)⟩
  ·(have k0:(K==0)=false:=by simpa using h0);(have HSX:Hid (∀wX,Below wx.heap.size wx wX->wX.cell? ⟨w.heap.size,0,none⟩=some (.slice (some ⟨g,0,none⟩) zs.length c)/\wX.cell? ⟨D,0,none⟩=some (.int .i64 K)/\wX.cell? ⟨D,1,none⟩=some (.int .i64 O)):=fun wX hX=>⟨(hX.cell (by simp;omega)).trans m0,(hX.cell (by simpa using hD1)).trans y0,(hX.cell (by simpa using hD1)).trans y1⟩);by_cases hlead:K=1/\O<Ae zs.length/\level<3
   ·obtain⟨rfl,hO,hl⟩:=hlead;(have hO':decide (O<Ae zs.length)=true:=by simpa using hO);(have hl':decide (level<3)=true:=by simpa using hl);(have W3:IntKind.i64.wrap (level+1)=level+1:=by rw[IntKind.wrap_i64];omega);(go_upto_region 4 with fail);go_region_held3 (fun wX=>wX.cell? ⟨w.heap.size,0,none⟩=some (.slice (some ⟨g,0,none⟩) zs.length c)/\wX.cell? ⟨D,0,none⟩=some (.int .i64 1)/\wX.cell? ⟨D,1,none⟩=some (.int .i64 O))
     ((refine HSX.out _ ?_;repeat (first|exact Below.refl _ _|with_reducible refine Below.drew ?_|refine Below.trans ?_ (hb2.mono (by first|omega|(simp<;>omega))))))
     (first|(go_at_call 57;refine(HFR.out _).mono ?_;rintro e w2 ⟨rfl,hb2⟩))
    have b2:Below wx.heap.size wx w2:=(Below.refl _ _).drew.trans (hb2.mono (by simp));have s2:=b2.size;obtain⟨z0,z1,z2⟩:=HSX.out w2 b2;have hB2:Below w.heap.size w w2:=HBW.out.trans (b2.mono (by omega));have hr:=HREC.out w2 hB2 hl (by first|rfl|trivial) hO;have HB2:Hid (Below wb.heap.size wb w2):=HBX.out.trans (b2.mono (by omega));clear hb2 b2 m0 y0 y1 y2 r0 r1 r2 r3 f0 f1 f2 f3;(go_wp2_with fail);refine hr.mono ?_;rintro e w3 ⟨rfl,hb3⟩;have B3:Below wb.heap.size wb w3:=HB2.out.trans (hb3.mono (by omega));obtain⟨⟨r0,r1,r2,r3⟩,f0,f1,f2,f3⟩:=HRS.out w3 B3;have HB3:Hid (Below w.heap.size w w3):=hB2.trans (hb3.mono (by omega));clear hr hb3 B3;(go_wp2_with fail);exact bodyPost_ret (v:=.agg #[.int .i64 R.kind,.int .i64 R.out,.int .i64 R.perm,.int .i64 R.size]) (by simp[results,Tryz.results59,go_sem,r0,r1,r2,r3]) rfl ⟨by rw[HRES.out];simp[hO,hl],((((HB3.out.setCell (by simp) _).setCell (by simp) _).setCell (by simp) _).setCell (by simp) _)⟩
   ·(go_upto_region 4 with fail);(go_cut [39] (fun cv wy=>cv=.bool false/\Below wx.heap.size wx wy));case first =>
     by_cases h1:K=1
     ·subst h1;have hl:=HK3.out rfl;(have hO':decide (O<Ae zs.length)=false:=by simp only[decide_eq_false_iff_not];exact fun h'=>hlead ⟨rfl,h',hl⟩);clear hlead h0;(first|go_region_with (go_at_call 57;refine(HFR.out _).mono ?_;rintro e w2 ⟨rfl,hb2⟩;have hz2:=hb2.size;simp at hz2;have x1:=(hb2.cell (p:=⟨D,1,none⟩) (by simpa using hD1)).trans y1)|fail);all_goals
       go_wp2_with fail
       go_meet
       case rel=>exact⟨rfl,(Below.refl _ _).drew.trans (hb2.mono (by simp))⟩
     ·(have k1:(K==1)=false:=by simpa using h1);clear hlead h0 h1;(go_quiet (fail));(go_wp2_with fail);(go_meet);case rel=>exact⟨rfl,Cr (Below.refl _ _) _⟩
    case rest =>
     (obtain⟨wy,rfl⟩:∃wy:World,wy=wc:=⟨_,rfl⟩);obtain⟨rfl,hby⟩:=hcut;have sy:=hby.size;have x0:=(hby.cell (p:=⟨D,0,none⟩) (by simpa using hD1)).trans y0;have x1:=(hby.cell (p:=⟨D,1,none⟩) (by simpa using hD1)).trans y1;have x2:=(hby.cell (p:=⟨D,2,none⟩) (by simpa using hD1)).trans y2;obtain⟨⟨z0,z1,z2,z3⟩,e0,e1,e2,e3⟩:=HRS.out wy (HBX.out.trans (hby.mono (by omega)));have HY:Hid (Below w.heap.size w wy):=HBW.out.trans (hby.mono (by omega));clear hby m0 y0 y1 y2 r0 r1 r2 r3 f0 f1 f2 f3;by_cases h2:K=2
     ·subst h2;(go_wp2_with fail);exact bodyPost_ret (v:=.agg #[.int .i64 1,.int .i64 (O+page%16),.int .i64 P,.int .i64 16]) (by simp[results,Tryz.results59,go_sem,z0,z1,z2,z3]) rfl ⟨by rw[HRES.out];simp,((((HY.out.setCell (by simp) _).setCell (by simp) _).setCell (by simp) _).setCell (by simp) _)⟩
     ·(have k2:(K==2)=false:=by simpa using h2);by_cases h3:K=3
      ·subst h3;clear h2 k2 k0 h0;(go_wp2_with fail);exact bodyPost_ret (v:=.agg #[.int .i64 1,.int .i64 O,.int .i64 P,.int .i64 1]) (by simp[results,Tryz.results59,go_sem,z0,z1,z2,z3]) rfl ⟨by rw[HRES.out];simp,((((HY.out.setCell (by simp) _).setCell (by simp) _).setCell (by simp) _).setCell (by simp) _)⟩
      ·(have k3:(K==3)=false:=by simpa using h3);have HIF:Hid _:=And.intro h0 (And.intro hlead (And.intro h2 h3));clear h0 hlead h2 h3;(go_wp2_with fail);refine bodyPost_ret (v:=.agg #[.int .i64 3,.int .i64 0,.int .i64 0,.int .i64 0]) (by simp[results,Tryz.results59,go_sem,z0,z1,z2,z3]) rfl ⟨?_,((((HY.out.setCell (by simp) _).setCell (by simp) _).setCell (by simp) _).setCell (by simp) _)⟩;obtain⟨h0,hlead,h2,h3⟩:=HIF.out;rw[HRES.out,if_neg h0,if_neg hlead,if_neg h2,if_neg h3]
theorem NQ (g:Nat) (zs:List Int) (c:Nat) (page:Int) (hp0:0<=page) (hp1:page<4096) (hz:D3 zs):∀(d:Nat) (level frame:Int),1<=level->level+d=3->0<=frame->frame<Ae zs.length->∀(w:World),At w g zs ->
  Calls Tryz.prog 59 #[.agg #[.slice (some ⟨g,0,none⟩) zs.length c],.int .i64 page,.int .i64 level,.int .i64 frame] w fun e w'=>e=.returned (Nq (VD page 0 d (Ce zs) level frame false).2)/\Below w.heap.size w w'
 | 0,level,frame,hl1,hld,hf0,hf1,w,hg=>by
  rw[<- Kb zs page level frame ⟨0,0,0,0⟩ (by omega)];exact Lk g zs c page level frame hp0 hp1 hl1 (by omega) hf0 hf1 hz _ w hg (fun wX hX h _ _=>by omega)
 | d+1,level,frame,hl1,hld,hf0,hf1,w,hg=>by
  rw[<- FG zs page level frame d (by omega)];exact Lk g zs c page level frame hp0 hp1 hl1 (by omega) hf0 hf1 hz _ w hg (fun wX hX h hk ho=>NQ g zs c page hp0 hp1 hz d (level+1) _ (by omega) (by omega) (Cd _ _).1 ho wX (hg.below hX hg.lt))
def FO (zs:List Int) (page:Int):JO:=if Ae zs.length=0\/Dp page=false then ⟨0,0,0,0⟩ else (VD page 0 2 (Ce zs) 1 0 false).2
theorem I3 (g:Nat) (zs:List Int) (c:Nat) (page:Int) (hlen:zs.length<=1048576) (hr:∀i,0<=zs.getD i 0/\zs.getD i 0<2 ^ 64) (w:World) (hg:At w g zs) : Calls Tryz.prog 19 #[.agg #[.slice (some ⟨g,0,none⟩) zs.length c],.int .i64 page] w fun e w'=>e=.returned (Nq (FO zs page))/\Below w.heap.size w w':=by
 have hfr:=D6 (some ⟨g,0,none⟩) zs.length c (by omega);have hpk:=P5 page;unfold FO;by_cases h0:Ae zs.length=0
 ·rw[if_pos (.inl h0)];rw[h0] at hfr;unfold Nq;go_enter Tryz.func19,Tryz.ntmps19
  go_wp2_with (go_at_call 57;refine(hfr _).mono ?_;rintro e w1 ⟨rfl,hb1⟩;obtain⟨hc1,hf1⟩:=JB hb1)
  exact bodyPost_ret (v:=.agg #[.int .i64 0,.int .i64 0,.int .i64 0,.int .i64 0]) (by simp[results,Tryz.results19,go_sem,hc1]) rfl ⟨rfl,(((((((Below.refl _ _).alloc (Nat.le_refl _) _).alloc (by simp) _).trans (hb1.mono (by simp;omega))).setCell (by simp) _).setCell (by simp) _).setCell (by simp) _).setCell (by simp) _⟩
 ·cases hp:Dp page
  ·rw[if_pos (.inr rfl)];rw[hp] at hpk;(have h0':(Ae zs.length==0)=false:=by simpa using h0);unfold Nq;clear h0;(go_enter Tryz.func19,Tryz.ntmps19);(go_wp2_with (first|(go_at_call 57;refine(hfr _).mono ?_;rintro e w1 ⟨rfl,hb1⟩;obtain⟨hc1,hf1⟩:=JB hb1)|(go_at_call 58;refine(hpk _).mono ?_;rintro e wE ⟨rfl,hwE⟩;obtain rfl:=hwE.symm)));exact bodyPost_ret (v:=.agg #[.int .i64 0,.int .i64 0,.int .i64 0,.int .i64 0]) (by simp[results,Tryz.results19,go_sem,hc1]) rfl ⟨rfl,(((((((Below.refl _ _).alloc (Nat.le_refl _) _).alloc (by simp) _).trans (hb1.mono (by simp;omega))).setCell (by simp) _).setCell (by simp) _).setCell (by simp) _).setCell (by simp) _⟩
  ·rw[if_neg (by simp[h0])];(obtain⟨R,hR⟩:∃R,R=(VD page 0 2 (Ce zs) 1 0 false).2:=⟨_,rfl⟩);rw[<- hR];rw[hp] at hpk;(have h0':(Ae zs.length==0)=false:=by simpa using h0);have hz:D3 zs:=⟨h0,hr⟩;(have hpp:0<=page/\page<4096:=by simpa [Dp] using hp);have hn:=BS zs.length h0;(have hfa:=fun wX (hX:Below w.heap.size w wX)=>NQ g zs c page hpp.1 hpp.2 hz 2 1 0 (by omega) (by omega) (by omega) (by omega) wX (hg.below hX hg.lt));rw[<- hR] at hfa;have HFA:Hid _:=hfa;clear hR h0 hfa hz hp hg;unfold Nq at *;(go_enter Tryz.func19,Tryz.ntmps19);(go_wp2_with (first|(go_at_call 57;refine(hfr _).mono ?_;rintro e w1 ⟨rfl,hb1⟩;obtain⟨hc1,hf1⟩:=JB hb1)|(go_at_call 58;refine(hpk _).mono ?_;rintro e wE ⟨rfl,hwE⟩;obtain rfl:=hwE.symm)));have B1:Below w.heap.size w w1:=(((Below.refl _ _).alloc (Nat.le_refl _) _).alloc (by simp) _).trans (hb1.mono (by simp;omega));have s1:=hb1.size;simp at s1;refine(HFA.out w1 B1).mono ?_;rintro e w2 ⟨rfl,hb2⟩;(have hc2:∀o,w2.cell? ⟨w.heap.size+1,o,none⟩=w1.cell? ⟨w.heap.size+1,o,none⟩:=fun o=>hb2.cell (p:=⟨w.heap.size+1,o,none⟩) (by simp;omega));(have hf2:∀o,w2.frozen? ⟨w.heap.size+1,o,none⟩=w1.frozen? ⟨w.heap.size+1,o,none⟩:=fun o=>hb2.frozen (p:=⟨w.heap.size+1,o,none⟩) (by simp;omega));have HB2:Hid (Below w.heap.size w w2):=B1.trans (hb2.mono (by omega));clear hb2 B1 hb1;(go_wp2_with fail);exact bodyPost_ret (v:=.agg #[.int .i64 R.kind,.int .i64 R.out,.int .i64 R.perm,.int .i64 R.size]) (by simp[results,Tryz.results19,go_sem,hc2,hc1]) rfl ⟨rfl,(((HB2.out.setCell (by simp) _).setCell (by simp) _).setCell (by simp) _).setCell (by simp) _⟩
end Go.Proofs.YtnmhkgmmpkjjeaaGreat
namespace Go.Proofs.YtnmhkgmmpkjjeaaGreat
open Go.ChangeShapes Go.WideShapes Go.ChangeAt Go.RowKit
set_option linter.unusedVariables false
def Kj (n l x:Int):Bool:=decide (AJ l x=4)||(decide (AJ l x=1)&&decide (n<=AV l x))
def EA (n l x:Int):Bool:=decide (AJ l x=1)&&decide (AV l x<n)
theorem Lg (l x:Int):0<=AJ l x/\AJ l x<=4/\AJ 3 x≠1:=by
 unfold AJ;refine⟨?_,?_,?_⟩<;>(repeat' split)<;>omega
def Nm (zs:List Int) (pg:Nat):Int:=A7 zs 0 (pg/256)
def Ob (zs:List Int) (pg:Nat):Int:=A7 zs (AV 1 (Nm zs pg)) (pg/16%16)
def SG (zs:List Int) (pg:Nat):Int:=A7 zs (AV 2 (Ob zs pg)) (pg%16)
theorem M3 (n page l x:Int) (R:JO) (h:l<3):(C1 n page l x R).kind=3↔Kj n l x=true\/(EA n l x=true/\R.kind=3):=by
 have hk:=Lg l x;unfold C1 Kj EA;by_cases h0:AJ l x=0
 ·simp[h0]
 ·rw[if_neg h0];by_cases h1:AJ l x=1
  ·by_cases h2:AV l x<n
   ·rw[if_pos ⟨h1,h2,h⟩];(have h3:¬n<=AV l x:=by omega);simp[h1,h2,h3]
   ·rw[if_neg (by simp[h2]),if_neg (by omega),if_neg (by omega)];(have h3:n<=AV l x:=by omega);simp[h1,h3]
  ·rw[if_neg (by simp[h1])];by_cases h2:AJ l x=2
   ·simp[h2]
   ·by_cases h3:AJ l x=3
    ·simp[h3]
    ·(have h4:AJ l x=4:=by omega);simp[h4]
theorem PA (n page x:Int) (R:JO):(C1 n page 3 x R).kind=3↔Kj n 3 x=true:=by
 have hk:=Lg 3 x;unfold C1 Kj;by_cases h0:AJ 3 x=0
 ·simp[h0]
 ·rw[if_neg h0,if_neg (by omega)];by_cases h2:AJ 3 x=2
  ·simp[h2]
  ·by_cases h3:AJ 3 x=3
   ·simp[h3]
   ·(have h4:AJ 3 x=4:=by have:=hk.2.2;omega);simp[h4]
theorem GR (zs:List Int) (f:Int) (i:Nat) (j:Int) (hf:0<=f) (hj:j=i):zs.getD (f*16+j).toNat 0=A7 zs f i:=by
 unfold A7;congr 1;omega
theorem ID (zs:List Int) (pg:Nat) (hn:Ae zs.length≠0) (hp:pg<4096):(FO zs pg).kind=3↔Kj (Ae zs.length) 1 (Nm zs pg)=true\/(EA (Ae zs.length) 1 (Nm zs pg)=true/\(Kj (Ae zs.length) 2 (Ob zs pg)=true\/(EA (Ae zs.length) 2 (Ob zs pg)=true/\Kj (Ae zs.length) 3 (SG zs pg)=true))):=by
 have hpo:Dp (pg:Int)=true:=by simp[Dp];omega
 have e1:Bx (Ce zs) (pg:Int) 0 1 0=Nm zs pg:=by
  rw[DA];exact GR zs 0 (pg/256) _ (by omega) (by simp[MR])
 have e2:Bx (Ce zs) (pg:Int) 0 2 (AV 1 (Nm zs pg))=Ob zs pg:=by
  rw[DA];exact GR zs _ (pg/16%16) _ (Cd _ _).1 (by simp[MR])
 have e3:Bx (Ce zs) (pg:Int) 0 3 (AV 2 (Ob zs pg))=SG zs pg:=by
  rw[DA];exact GR zs _ (pg%16) _ (Cd _ _).1 (by simp[MR])
 unfold FO;rw[if_neg (by simp[hn,hpo])];rw[<- FG zs pg 1 0 1 (by omega),e1,<- FG zs pg (1+1) _ 0 (by omega)];rw[show (1:Int)+1=2 from rfl,e2,<- Kb zs pg (2+1) _ ⟨0,0,0,0⟩ rfl,show (2:Int)+1=3 from rfl,e3];rw[M3 _ _ _ _ _ (by omega),M3 _ _ _ _ _ (by omega),PA]
def root:P3:=⟨0,1,0⟩
theorem D8 (zs:List Int) (i:Nat):AT zs root i=⟨AV 1 (A7 zs 0 i),2,(i:Int)*256⟩:=by
 unfold AT root Bj;simp
theorem Hi (zs:List Int) (i j:Nat):AT zs (AT zs root i) j=⟨AV 2 (A7 zs (AV 1 (A7 zs 0 i)) j),3,(i:Int)*256+(j:Int)*16⟩:=by
 rw[D8];unfold AT Bj;simp
theorem Bl (zs:List Int) (hn:Ae zs.length≠0) (p:P3):p∈A5 zs↔p=root\/∃i,i<16/\EA (Ae zs.length) 1 (A7 zs 0 i)=true/\(p=AT zs root i\/∃j,j<16/\EA (Ae zs.length) 2 (A7 zs (AV 1 (A7 zs 0 i)) j)=true/\p=AT zs (AT zs root i) j):=by
 have hl1:∀i,EF zs (Ae zs.length) root i=EA (Ae zs.length) 1 (A7 zs 0 i):=fun i=>rfl
 have hl2:∀i j,EF zs (Ae zs.length) (AT zs root i) j=EA (Ae zs.length) 2 (A7 zs (AV 1 (A7 zs 0 i)) j):=fun i j=>by rw[D8];rfl
 have e:A5 zs=Af zs (Ae zs.length) (fun q=>Af zs (Ae zs.length) (fun r=>[r]) q 16) root 16:=by
  unfold A5;rw[if_neg hn];rfl
 rw[e];unfold Af;constructor
 ·intro h;rcases List.mem_cons.1 h with h|h
  ·exact .inl h
  ·obtain⟨i,hi,hm⟩:=List.mem_flatMap.1 h;rw[List.mem_range] at hi;rw[hl1] at hm;by_cases hw:EA (Ae zs.length) 1 (A7 zs 0 i)=true
   ·rw[if_pos hw] at hm;refine .inr ⟨i,hi,hw,?_⟩;rcases List.mem_cons.1 hm with h2|h2
    ·exact .inl h2
    ·obtain⟨j,hj,hm2⟩:=List.mem_flatMap.1 h2;rw[List.mem_range] at hj;rw[hl2] at hm2;by_cases hw2:EA (Ae zs.length) 2 (A7 zs (AV 1 (A7 zs 0 i)) j)=true
     ·rw[if_pos hw2] at hm2;exact .inr ⟨j,hj,hw2,by simpa using hm2⟩
     ·rw[if_neg hw2] at hm2;simp at hm2
   ·rw[if_neg hw] at hm;simp at hm
 ·intro h;rcases h with h|⟨i,hi,hw,h⟩
  ·exact List.mem_cons.2 (.inl h)
  ·refine List.mem_cons.2 (.inr (List.mem_flatMap.2 ⟨i,List.mem_range.2 hi,?_⟩));rw[hl1,if_pos hw];rcases h with h|⟨j,hj,hw2,h⟩
   ·exact List.mem_cons.2 (.inl h)
   ·refine List.mem_cons.2 (.inr (List.mem_flatMap.2 ⟨j,List.mem_range.2 hj,?_⟩));rw[hl2,if_pos hw2];simpa using h
theorem Fa (zs:List Int) (n:Int) (p:P3):Cn zs n p=true↔∀k,k<16->Kj n p.lv (A7 zs p.fr k)=false:=by
 unfold Cn;rw[List.all_eq_true];constructor
 ·intro h k hk;have:=h k (List.mem_range.2 hk);have e:D7 zs n p k=!Kj n p.lv (A7 zs p.fr k):=rfl;rw[e] at this;simpa using this
 ·intro h k hk;have:=h k (List.mem_range.1 hk);have e:D7 zs n p k=!Kj n p.lv (A7 zs p.fr k):=rfl;rw[e,this];rfl
theorem JM (zs:List Int) (hn:Ae zs.length≠0):(∀p,p∈A5 zs->Cn zs (Ae zs.length) p=true)↔∀pg,pg<4096->(FO zs (pg:Nat)).kind≠3:=by
 constructor
 ·intro h pg hp hk;have hb:∀(b:Bool),b=true->b=false->False:=fun b h1 h2=>by rw[h1] at h2;cases h2
  rcases(ID zs pg hn hp).1 hk with h1|⟨l1,h2|⟨l2,h3⟩⟩
  ·have:=(Fa _ _ _).1 (h root ((Bl zs hn _).2 (.inl rfl))) (pg/256) (by omega);exact hb _ h1 this
  ·have:=(Fa _ _ _).1 (h (AT zs root (pg/256)) ((Bl zs hn _).2 (.inr ⟨pg/256,by omega,l1,.inl rfl⟩))) (pg/16%16) (by omega);rw[D8] at this;exact hb _ h2 this
  ·have:=(Fa _ _ _).1 (h (AT zs (AT zs root (pg/256)) (pg/16%16)) ((Bl zs hn _).2 (.inr ⟨pg/256,by omega,l1,.inr ⟨pg/16%16,by omega,l2,rfl⟩⟩))) (pg%16) (by omega);rw[Hi] at this;exact hb _ h3 this
 ·intro h p hp;rw[Fa];intro k hk;cases hb:Kj (Ae zs.length) p.lv (A7 zs p.fr k)
  ·rfl
  ·exfalso;rcases(Bl zs hn p).1 hp with rfl|⟨i,hi,l1,rfl|⟨j,hj,l2,rfl⟩⟩
   ·refine h (k*256) (by omega) ((ID zs _ hn (by omega)).2 (.inl ?_));unfold Nm;rw[show k*256/256=k by omega];exact hb
   ·rw[D8] at hb;(have e1:Nm zs (i*256+k*16)=A7 zs 0 i:=by unfold Nm;rw[show (i*256+k*16)/256=i by omega]);(have e2:Ob zs (i*256+k*16)=A7 zs (AV 1 (A7 zs 0 i)) k:=by unfold Ob;rw[e1,show (i*256+k*16)/16%16=k by omega]);exact h (i*256+k*16) (by omega) ((ID zs _ hn (by omega)).2 (.inr ⟨by rw[e1];exact l1,.inl (by rw[e2];exact hb)⟩))
   ·rw[Hi] at hb;(have e1:Nm zs (i*256+j*16+k)=A7 zs 0 i:=by unfold Nm;rw[show (i*256+j*16+k)/256=i by omega]);(have e2:Ob zs (i*256+j*16+k)=A7 zs (AV 1 (A7 zs 0 i)) j:=by unfold Ob;rw[e1,show (i*256+j*16+k)/16%16=j by omega]);(have e3:SG zs (i*256+j*16+k)=A7 zs (AV 2 (A7 zs (AV 1 (A7 zs 0 i)) j)) k:=by unfold SG;rw[e2,show (i*256+j*16+k)%16=k by omega]);exact h (i*256+j*16+k) (by omega) ((ID zs _ hn (by omega)).2 (.inr ⟨by rw[e1];exact l1,.inr ⟨by rw[e2];exact l2,by rw[e3];exact hb⟩⟩))
def Ww (zs:List Int) (pg:Nat):Bool:=!decide ((FO zs (pg:Nat)).kind=3)
def Ok (zs:List Int) (k:Nat):Bool:=(List.range k).all (Ww zs)
def Ox (ps:List P3) (i:Nat):Bool:=(List.range i).all (EO ps)
theorem KG (ps:List P3) (i:Nat) (h:i<ps.length):Ag ps i∈ps:=by
 unfold Ag;rw[List.getD_eq_getElem?_getD,List.getElem?_eq_getElem h];exact List.getElem_mem h
theorem Oq (ps:List P3) (p:P3) (h:p∈ps):∃i,i<ps.length/\Ag ps i=p:=by
 obtain⟨i,hi,e⟩:=List.getElem_of_mem h;exact⟨i,hi,by unfold Ag;rw[List.getD_eq_getElem?_getD,List.getElem?_eq_getElem hi];exact e⟩
theorem PD (zs:List Int) (hn:Ae zs.length≠0):BO zs=(Ok zs 4096&&Ox (A5 zs) (A5 zs).length):=by
 have e:BO zs=Bg zs (Ae zs.length) (A5 zs) (A5 zs).length:=by unfold BO;simp[hn]
 rw[e,Bool.eq_iff_iff];unfold Bg Ok Ox;simp only[Bool.and_eq_true,List.all_eq_true,List.mem_range];constructor
 ·intro h;refine⟨fun pg hp=>?_,fun i hi=>(h i hi).1⟩
  have:=(JM zs hn).1 (fun p hp=>by
   obtain⟨i,hi,rfl⟩:=Oq _ _ hp
   exact(h i hi).2) pg hp
  unfold Ww;simpa using this
 ·rintro⟨h1,h2⟩ i hi;refine⟨h2 i hi,(JM zs hn).2 (fun pg hp=>?_) _ (KG _ _ hi)⟩;have:=h1 pg hp;unfold Ww at this;simpa using this
def E9 (ps:List P3):Prop:=ps.Pairwise (fun a b=>a.fr≠b.fr)
theorem E9.eq {ps:List P3} (h:E9 ps) {a b:P3} (ha:a∈ps) (hb:b∈ps) (he:a.fr=b.fr):a=b:=by
 induction ps with
 | nil=>cases ha
 | cons c r ih =>
  obtain⟨h1,h2⟩:=List.pairwise_cons.1 h;rcases List.mem_cons.1 ha with e1|e1<;>rcases List.mem_cons.1 hb with e2|e2
  ·rw[e1,e2]
  ·subst e1;exact absurd he (h1 b e2)
  ·subst e2;exact absurd he.symm (h1 a e1)
  ·exact ih h2 e1 e2
theorem Ke (zs:List Int) (h:BO zs=true):E9 (A5 zs):=by
 have ht:Bg zs (Ae zs.length) (A5 zs) (A5 zs).length=true:=by
  unfold BO at h;simp only[Bool.and_eq_true] at h;exact h.2
 unfold Bg at ht;rw[List.all_eq_true] at ht;unfold E9;rw[List.pairwise_iff_getElem];intro i j hi hj hij e;have h1:=ht j (List.mem_range.2 hj);simp only[Bool.and_eq_true] at h1;have h2:=h1.1;unfold EO at h2;rw[List.all_eq_true] at h2;have h3:=h2 i (List.mem_range.2 hij);have ei:Ag (A5 zs) i=(A5 zs)[i]:=by unfold Ag;rw[List.getD_eq_getElem?_getD,List.getElem?_eq_getElem hi];rfl
 have ej:Ag (A5 zs) j=(A5 zs)[j]:=by unfold Ag;rw[List.getD_eq_getElem?_getD,List.getElem?_eq_getElem hj];rfl
 rw[ei,ej] at h3;simp at h3;exact h3 e.symm
theorem TY {H:Nat->Ht} {ps:List P3} (h:E9 ps):E9 (AC H ps):=h.filter _
theorem Nt (kept:List P3) (ws:List (Nat×Nat)) (h:E9 kept):∀k,k<=ws.length->E9 (kept++BJ kept ws k)
 | 0,_=>by rw[Cf,List.append_nil];exact h
 | k+1,hk=>by
  have ih:=Nt kept ws h k (by omega);rw[DL kept ws k (by omega)];unfold Dk;split
  ·rw[<- List.append_assoc];unfold E9;rw[List.pairwise_append];refine⟨ih,List.pairwise_singleton _ _,fun a ha b hb=>?_⟩;rw[List.mem_singleton] at hb;subst hb;intro e;have:=(FN (kept++BJ kept ws k)).2.2;have h2:Aw (kept++BJ kept ws k) ((Ew (kept++BJ kept ws k):Nat):Int)=true:=FM.2 ⟨a,ha,e⟩;rw[this] at h2;cases h2
  ·exact ih
theorem U9 {H:Nat->Ht} {ps:List P3} (h:E9 ps):E9 (AY H ps):=Nt _ _ (TY h) _ (Nat.le_refl _)
theorem NS (kept:List P3) (ws:List (Nat×Nat)):∀k,k<=ws.length->∀j (hj:j<ws.length),j<k->AH kept (ws[j]).1 (ws[j]).2<0->∃q∈BJ kept ws k,q.lv=(ws[j]).1/\q.pg=(ws[j]).2
 | 0,_,j,hj,h0,_=>by omega
 | k+1,hk,j,hj,h0,hf=>by
  rw[DL kept ws k (by omega)];by_cases e:j=k
  ·subst e;unfold Dk;rw[if_pos hf];exact⟨_,List.mem_append_right _ (List.mem_singleton.2 rfl),rfl,rfl⟩
  ·obtain⟨q,hq,h1,h2⟩:=NS kept ws k (by omega) j hj (by omega) hf;refine⟨q,?_,h1,h2⟩;unfold Dk;split
   ·exact List.mem_append_left _ hq
   ·exact hq
structure KA (H:Nat->Ht) (n:Nat) (all:List P3):Prop where
 dis:E9 all
 fr:∀t∈all,0<=t.fr/\t.fr<n
 seat:∀t∈all,∃s∈AA H 256,t.lv=(s.1:Nat)/\t.pg=(s.2:Nat)
 has:∀s∈AA H 256,∃t∈all,t.lv=(s.1:Nat)/\t.pg=(s.2:Nat)
 uniq:∀t∈all,AH all t.lv t.pg=t.fr
 root:(⟨0,1,0⟩:P3)∈all
theorem Mv {H:Nat->Ht} {n:Nat} {ps:List P3} (hn:0<n) (h:BI n ps) (hd:E9 ps) (hw:(AA H 256).length<=n):KA H n (AY H ps):=by
 have hks:=DN H h;have hfm:=DO (H:=H) hn h hw (AA H 256).length (Nat.le_refl _);have hkw:=fun (q:P3) (hq:q∈AC H ps)=>DI h hq
 have hdis:=U9 (H:=H) hd;have hseat:∀t∈AY H ps,∃s∈AA H 256,t.lv=(s.1:Nat)/\t.pg=(s.2:Nat):=by
  intro t ht;rcases List.mem_append.1 ht with ht|ht
  ·obtain⟨a,b,c⟩:=hkw t ht;exact⟨_,a,b.symm,c.symm⟩
  ·obtain⟨j,hj,hj2,a,b,_⟩:=hfm t ht;exact⟨_,List.getElem_mem hj2,a,b⟩
 have hnew:∀k,k<=(AA H 256).length->(BJ (AC H ps) (AA H 256) k).Pairwise (fun a b=>¬(a.lv=b.lv/\a.pg=b.pg)):=by
  intro k;induction k with
  | zero=>intro _;rw[Cf];exact List.Pairwise.nil
  | succ k ih =>
   intro hk;rw[DL _ _ k (by omega)];unfold Dk;split
   ·rw[List.pairwise_append];refine⟨ih (by omega),List.pairwise_singleton _ _,fun a ha b hb=>?_⟩;rw[List.mem_singleton] at hb;subst hb;rintro⟨e1,e2⟩;obtain⟨j,hj,hj2,a1,a2,_⟩:=DO (H:=H) hn h hw k (by omega) a ha;have hp:=List.pairwise_iff_getElem.1 (GA H 256) j k hj2 (by omega) hj;unfold Il at hp;dsimp only at e1 e2;rw[a1] at e1;rw[a2] at e2;omega
   ·exact ih (by omega)
 refine⟨hdis,fun t ht=>?_,hseat,fun s hs=>?_,fun t ht=>?_,List.mem_append_left _ (BE.2 ⟨h.root,by unfold Rw;exact GM H _⟩)⟩
 ·rcases List.mem_append.1 ht with ht|ht
  ·exact h.fr (by omega) (BE.1 ht).1
  ·obtain⟨j,hj,hj2,_,_,_,F,hF,hF2⟩:=hfm t ht;omega
 ·obtain⟨j,hj,rfl⟩:=List.getElem_of_mem hs;by_cases hf:AH (AC H ps) ((AA H 256)[j]).1 ((AA H 256)[j]).2<0
  ·obtain⟨q,hq,a,b⟩:=NS (AC H ps) (AA H 256) _ (Nat.le_refl _) j hj hj hf;exact⟨q,List.mem_append_right _ hq,a,b⟩
  ·obtain⟨q,hq,a,b,_⟩:=E8 (qs:=AC H ps) (lv:=((AA H 256)[j]).1) (pg:=((AA H 256)[j]).2) (by omega);exact⟨q,List.mem_append_left _ hq,a,b⟩
 ·unfold AY;rw[NR];rcases List.mem_append.1 ht with hk|hk
  ·have hsome:((AC H ps).find? (As t.lv t.pg)).isSome:=by
    rw[List.find?_isSome];exact⟨t,hk,by unfold As;simp⟩
   rw[if_pos hsome];exact EZ hks hk
  ·obtain⟨j,hj,hj2,a,b,hneg,_⟩:=hfm t hk;have hnone:¬((AC H ps).find? (As t.lv t.pg)).isSome:=by
    intro hs;rw[List.find?_isSome] at hs;obtain⟨q,hq,hsq⟩:=hs;unfold As at hsq;have h2:=of_decide_eq_true hsq;have h3:=EZ hks hq;rw[h2.1,h2.2] at h3;have h4:=(h.fr (by omega) (BE.1 hq).1).1;omega
   rw[if_neg hnone];have hp:=hnew _ (Nat.le_refl _);have key:∀(l:List P3),l.Pairwise (fun a b=>¬(a.lv=b.lv/\a.pg=b.pg))->t∈l->AH l t.lv t.pg=t.fr:=by
    intro l;induction l with
    | nil=>intro _ hm;cases hm
    | cons c r ih =>
     intro hpw hm;obtain⟨p1,p2⟩:=List.pairwise_cons.1 hpw;unfold AH;rcases List.mem_cons.1 hm with e|e
     ·subst e;rw[List.find?_cons_of_pos (by unfold As;simp)]
     ·rw[List.find?_cons_of_neg (by
       unfold As
       rw[decide_eq_false (p1 t e)];decide)]
      exact ih p2 e
   exact key _ hp hk
theorem KA.of {H:Nat->Ht} {n:Nat} {all:List P3} (h:KA H n all) {lv pg:Nat} (hs:(lv,pg)∈AA H 256):∃t∈all,t.lv=(lv:Int)/\t.pg=(pg:Int)/\AH all (lv:Int) (pg:Int)=t.fr/\0<=t.fr/\t.fr<n:=by
 obtain⟨t,ht,a,b⟩:=h.has _ hs;dsimp only at a b;have:=h.uniq t ht;rw[a,b] at this;exact⟨t,ht,a,b,this,h.fr t ht⟩
theorem KA.no {H:Nat->Ht} {n:Nat} {all:List P3} (h:KA H n all) {lv pg:Nat} (hs:(lv,pg) ∉ AA H 256):AH all (lv:Int) (pg:Int)=-1 :=
 GO (fun q hq e=>by
  obtain⟨s,hm,a,b⟩:=h.seat q hq
  apply hs
  have e1:s.1=lv:=by have:=e.1;omega
  have e2:s.2=pg:=by have:=e.2;omega
  rw[<- e1,<- e2]
  exact hm)
end Go.Proofs.YtnmhkgmmpkjjeaaGreat
