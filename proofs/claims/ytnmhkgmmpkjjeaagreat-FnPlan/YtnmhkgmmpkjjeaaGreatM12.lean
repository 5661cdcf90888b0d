import Derived.Test.YtnmhkgmmpkjjeaaGreatM11
namespace Go.Proofs.YtnmhkgmmpkjjeaaGreat
open ChangeShapes WideShapes ChangeAt RowKit Proofs.Tryz
set_option linter.all false
set_option maxRecDepth 100000
set_option maxHeartbeats 4000000
attribute [local go_sem ↓] wp_at_zero wp_at_succ
def Cp (zs:List Int):GP:=⟨zs,[],[],[]⟩
theorem D0(zs:List Int)(page level frame:Int):C5 (Cp zs) page 0 level frame=zs.getD (frame*16+JM page level).toNat 0:=by
 unfold C5 Y5;have:Ip 0 level.toNat=false:=by simp[Ip]
 rw[this];rfl
theorem UZ(k:Nat):Ip 0 k=false:=by simp[Ip]
theorem Mf(page:Int)(M:GP)(level x:Int)(doom:Bool):(VW page 0 M level x doom).2=if AG level x=0 then ⟨0,0,0,0⟩ else if AG level x=2\/AG level x=3 then ⟨1,AX level x+page%Hz level x,Ak level x,Hz level x⟩ else ⟨3,0,0,0⟩:=by
 unfold VW;split
 ·rfl
 ·split<;>rfl
def BK (n page level x:Int) (R:Di):Di :=
 if AG level x=0 then ⟨0,0,0,0⟩
 else if AG level x=1/\AX level x<n/\level<3 then R
 else if AG level x=2 then ⟨1,AX level x+page%16,Ak level x,16⟩
 else if AG level x=3 then ⟨1,AX level x,Ak level x,1⟩
 else ⟨3,0,0,0⟩
theorem JH(zs:List Int)(page level frame:Int)(R:Di)(h:level=3):BK (An zs.length) page level (C5 (Cp zs) page 0 level frame) R=(WO page 0 0 (Cp zs) level frame false).2:=by
 show _=(VW page 0 (Cp zs) level _ false).2;rw[Mf];unfold BK Hz;generalize C5 (Cp zs) page 0 level frame=x;by_cases h0:AG level x=0
 ·rw[if_pos h0,if_pos h0]
 ·rw[if_neg h0,if_neg h0,if_neg (by omega)];by_cases h2:AG level x=2
  ·simp[h2]
  ·by_cases h3:AG level x=3
   ·simp[h3]
   ·simp[h2,h3]
theorem EJ(zs:List Int)(page level frame:Int)(d:Nat)(h:level<3):BK (An zs.length) page level (C5 (Cp zs) page 0 level frame) (WO page 0 d (Cp zs) (level+1) (AX level (C5 (Cp zs) page 0 level frame)) false).2=(WO page 0 (d+1) (Cp zs) level frame false).2:=by
 conv=>rhs;unfold WO
 have hs:UK page 0 (Cp zs) level (C5 (Cp zs) page 0 level frame) false=Cp zs:=by
  unfold UK;rw[if_neg (by rw[UZ];simp)]
 rw[hs];generalize C5 (Cp zs) page 0 level frame=x;have hm:(Cp zs).mem=zs:=rfl;unfold BK UA;rw[hm];by_cases h1:AG level x=1/\AX level x<An zs.length
 ·rw[if_neg (by omega),if_pos ⟨h1.1,h1.2,h⟩,if_pos (by simp[h1])]
 ·have e1:¬(AG level x=1/\AX level x<An zs.length/\level<3):=fun h'=>h1 ⟨h'.1,h'.2.1⟩
  have e2:¬((decide (AG level x=1)&&decide (AX level x<An zs.length))=true):=by
   simp only[Bool.and_eq_true,decide_eq_true_eq];exact h1
  rw[if_neg e1,if_neg e2];rw[Mf];unfold Hz;by_cases h0:AG level x=0
  ·rw[if_pos h0,if_pos h0]
  ·rw[if_neg h0,if_neg h0];by_cases h2:AG level x=2
   ·simp[h2]
   ·by_cases h3:AG level x=3
    ·simp[h3]
    ·simp[h2,h3]
theorem Mi(g:Nat)(zs:List Int)(c:Nat)(page level frame:Int)(hp0:0<=page)(hp1:page<4096)(hl1:1<=level)(hl3:level<=3)(hf0:0<=frame)(hf1:frame<An zs.length)(hz:Cu zs)(R:Di)(w:World)(hg:BQ w g zs)(hrec:∀wX,Bl w wX->level<3->AG level (C5 (Cp zs) page 0 level frame)=1->AX level (C5 (Cp zs) page 0 level frame)<An zs.length->Calls prog 59 #[.agg #[.slice (some ⟨g,0,none⟩) zs.length c],.int .i64 page,.int .i64 (level+1),.int .i64 (AX level (C5 (Cp zs) page 0 level frame))] wX fun e w'=>e=.returned (Fy R)/\Bl wX w'):Calls prog 59 #[.agg #[.slice (some ⟨g,0,none⟩) zs.length c],.int .i64 page,.int .i64 level,.int .i64 frame] w fun e w'=>e=.returned (Fy (BK (An zs.length) page level (C5 (Cp zs) page 0 level frame) R))/\Bl w w':=by
 have hn:=Bz zs.length hz.n0;have hnl:=Dv zs.length;have hix:=VJ page level hp0 hp1;obtain⟨Ad,hAd⟩:∃Ad:Nat,(Ad:Int)=frame*16+JM page level:=⟨(frame*16+JM page level).toNat,by omega⟩
 have hAd2:Ad<zs.length:=by omega
 have hAn:(frame*16+JM page level).toNat=Ad:=by omega
 have hcell:=hg.cell (i:=Ad) hAd2;have hx:=D0 zs page level frame;rw[hAn] at hx;rw[<- hx] at hcell;have hrg:=hz.rng Ad;rw[<- hx] at hrg;have hidx:=fun w=>Sj page level hp0 hp1 w
 have hdec:=fun wX=>CJ level (C5 (Cp zs) page 0 level frame) hrg.1 hrg.2 wX
 have hfr:=DZ (some ⟨g,0,none⟩) zs.length c (by omega);have hgl:=hg.lt;obtain⟨wb,hwb⟩:∃wb,wb=(w.alloc (.cells #[.slice (some ⟨g,0,none⟩) zs.length c] 35)).alloc (.cells #[.int .i64 0,.int .i64 0,.int .i64 0,.int .i64 0] 56):=⟨_,rfl⟩
 have hbb:Bl w wb:=by rw[hwb];exact AO.alloc (by simp) _
 have hzb:wb.heap.size=w.heap.size+2:=by rw[hwb];simp
 have hcw:wb.cell? ⟨g,Ad,none⟩=some (.int .u64 (C5 (Cp zs) page 0 level frame)):=(hbb.cell (by simpa using hgl)).trans hcell;have HKS:Hid (∀wX,Bl wb wX->wX.cell? ⟨w.heap.size,0,none⟩=some (.slice (some ⟨g,0,none⟩) zs.length c)/\wX.cell? ⟨g,Ad,none⟩=some (.int .u64 (C5 (Cp zs) page 0 level frame))):=fun wX hX=>⟨(hX.cell (by simp;omega)).trans (by rw[hwb];simp[go_sem]),(hX.cell (by simp;omega)).trans hcw⟩
 have HRS:Hid (∀wX,Bl wb wX->(wX.cell? ⟨w.heap.size+1,0,none⟩=some (.int .i64 0)/\wX.cell? ⟨w.heap.size+1,1,none⟩=some (.int .i64 0)/\wX.cell? ⟨w.heap.size+1,2,none⟩=some (.int .i64 0)/\wX.cell? ⟨w.heap.size+1,3,none⟩=some (.int .i64 0))/\wX.frozen? ⟨w.heap.size+1,0,none⟩=false/\wX.frozen? ⟨w.heap.size+1,1,none⟩=false/\wX.frozen? ⟨w.heap.size+1,2,none⟩=false/\wX.frozen? ⟨w.heap.size+1,3,none⟩=false):=fun wX hX=>by
  refine⟨⟨?_,?_,?_,?_⟩,?_,?_,?_,?_⟩;iterate 4 (exact(hX.cell (by simp;omega)).trans (by rw[hwb];simp[go_sem]))
  iterate 4 (exact(hX.frozen (by simp;omega)).trans (by rw[hwb];simp[go_sem]))
 have W1:=AR (frame*16);have W2:IntKind.i64.wrap (frame*16+JM page level)=(Ad:Int):=by rw[IntKind.wrap_i64];omega
 have HWB:=A5 hwb;have HBB:=A5 hbb;have HREC:=A5 hrec;have HZB:=A5 hzb;have HFR:=A5 hfr;have LA:(Ad:Int)<(zs.length:Int):=by omega
 have LB:(0:Int)<=(Ad:Int):=by omega
 have hdO:=Ci level (C5 (Cp zs) page 0 level frame);have HK3:Hid (AG level (C5 (Cp zs) page 0 level frame)=1->level<3):=fun h=>by
  rcases Int.lt_or_eq_of_le hl3 with h'|h'
  ·exact h'
  ·rw[h'] at h;exact absurd h (S5 _)
 obtain⟨RES,hRES⟩:∃RES,RES=BK (An zs.length) page level (C5 (Cp zs) page 0 level frame) R:=⟨_,rfl⟩
 rw[<- hRES];have HRES:=A5 hRES;clear hRES;unfold BK at HRES;unfold Fy at *;generalize C5 (Cp zs) page 0 level frame=X at *;unfold D7 D9 at hdec;generalize AG level X=K at *;generalize AX level X=O at *;generalize Ak level X=P at *;generalize JM page level=IX at *;clear hzb hwb hbb hcw hrec hfr hg hcell hx hrg hix hAd hAn;go_enter func59,ntmps59
 go_upto_region 1 with fail
 rw[<- HWB.out];go_cut [9] (fun d wx=>∃D,d=.pointer (some ⟨D,0,none⟩)/\wx.cell? ⟨D,0,none⟩=some (.int .i64 K)/\wx.cell? ⟨D,1,none⟩=some (.int .i64 O)/\wx.cell? ⟨D,2,none⟩=some (.int .i64 P)/\wb.heap.size<=D/\D<wx.heap.size/\Bl wb wx)
 case first =>
  go_region_held3 (fun wX=>wX.cell? ⟨w.heap.size,0,none⟩=some (.slice (some ⟨g,0,none⟩) zs.length c)/\wX.cell? ⟨g,Ad,none⟩=some (.int .u64 X))
   ((refine HKS.out _ ?_;repeat (first|exact AH|with_reducible refine Below.drew ?_|with_reducible refine Below.setCell ?_ (by first|omega|(simp<;>omega)) _|with_reducible refine Below.alloc ?_ (by first|omega|(simp<;>omega)) _|refine Below.trans ?_ (hb1.mono (by first|omega|(simp<;>omega))))))
   (first
    | (go_at_call 131;refine(hidx _).mono ?_;rintro e wE ⟨rfl,hwE⟩;obtain rfl:=hwE.symm)
    | (go_at_call 62;refine(hdec _).mono ?_;rintro e w1 ⟨rfl,hb1⟩;obtain⟨hc1,hf1⟩:=Fr hb1;have hz1:=hb1.size;simp at hz1))
  all_goals
   go_wp2_with fail
   go_meet
   case rel =>
    refine⟨_,rfl,?_,?_,?_,?_,?_,?_⟩
    ·first|(simp[go_sem,hc1];done)|simp[go_sem]
    ·first|(simp[go_sem,hc1];done)|simp[go_sem]
    ·first|(simp[go_sem,hc1];done)|simp[go_sem]
    ·first|omega|(simp<;>omega)
    ·first|omega|(simp<;>omega)
    ·repeat (first|exact AH|with_reducible refine Below.drew ?_|with_reducible refine Below.setCell ?_ (by first|omega|(simp<;>omega)) _|with_reducible refine Below.alloc ?_ (by first|omega|(simp<;>omega)) _|refine Below.trans ?_ (hb1.mono (by first|omega|(simp<;>omega))))
 case rest =>
  obtain⟨wx,rfl⟩:∃wx:World,wx=wc:=⟨_,rfl⟩
  obtain⟨D,rfl,y0,y1,y2,hD0,hD1,hbx⟩:=hcut;have sx:=hbx.size;have hzb:=HZB.out;obtain⟨⟨r0,r1,r2,r3⟩,f0,f1,f2,f3⟩:=HRS.out wx hbx;obtain⟨m0,_⟩:=HKS.out wx hbx;have HBX:=A5 hbx;have HBW:Hid (Bl w wx):=HBB.out.trans (hbx.mono (by omega));clear hbx hidx hdec W1 W2 LA LB;by_cases h0:K=0
  ·subst h0;clear HREC HFR;(go_wp2_with fail);exact bodyPost_ret (v:=.agg #[.int .i64 0,.int .i64 0,.int .i64 0,.int .i64 0]) (by simp[results,results59,go_sem,r0,r1,r2,r3]) rfl ⟨by rw[HRES.out];rfl,((((HBW.out.setCell (by simp) _).setCell (by simp) _).setCell (by simp) _).setCell (by simp) _)⟩
  ·(have k0:(K==0)=false:=by simpa using h0);(have HSX:Hid (∀wX,Bl wx wX->wX.cell? ⟨w.heap.size,0,none⟩=some (.slice (some ⟨g,0,none⟩) zs.length c)/\wX.cell? ⟨D,0,none⟩=some (.int .i64 K)/\wX.cell? ⟨D,1,none⟩=some (.int .i64 O)):=fun wX hX=>⟨(hX.cell (by simp;omega)).trans m0,(hX.cell (by simpa using hD1)).trans y0,(hX.cell (by simpa using hD1)).trans y1⟩);by_cases hlead:K=1/\O<An zs.length/\level<3
   ·obtain⟨rfl,hO,hl⟩:=hlead;(have hO':decide (O<An zs.length)=true:=by simpa using hO);(have hl':decide (level<3)=true:=by simpa using hl);have W3:=AR (level+1);(go_upto_region 4 with fail);go_region_held3 (fun wX=>wX.cell? ⟨w.heap.size,0,none⟩=some (.slice (some ⟨g,0,none⟩) zs.length c)/\wX.cell? ⟨D,0,none⟩=some (.int .i64 1)/\wX.cell? ⟨D,1,none⟩=some (.int .i64 O))
     ((refine HSX.out _ ?_;repeat (first|exact AH|with_reducible refine Below.drew ?_|refine Below.trans ?_ (hb2.mono (by first|omega|(simp<;>omega))))))
     (first|(go_at_call 57;refine(HFR.out _).mono ?_;rintro e w2 ⟨rfl,hb2⟩))
    have b2:Bl wx w2:=AH.drew.trans (hb2.mono (by simp));have s2:=b2.size;obtain⟨z0,z1,z2⟩:=HSX.out w2 b2;have hB2:Bl w w2:=HBW.out.trans (b2.mono (by omega));have hr:=HREC.out w2 hB2 hl (by first|rfl|trivial) hO;have HB2:Hid (Bl wb w2):=HBX.out.trans (b2.mono (by omega));clear hb2 b2 m0 y0 y1 y2 r0 r1 r2 r3 f0 f1 f2 f3;(go_wp2_with fail);refine hr.mono ?_;rintro e w3 ⟨rfl,hb3⟩;have B3:Bl wb w3:=HB2.out.trans (hb3.mono (by omega));obtain⟨⟨r0,r1,r2,r3⟩,f0,f1,f2,f3⟩:=HRS.out w3 B3;have HB3:Hid (Bl w w3):=hB2.trans (hb3.mono (by omega));clear hr hb3 B3;(go_wp2_with fail);exact bodyPost_ret (v:=.agg #[.int .i64 R.kind,.int .i64 R.out,.int .i64 R.perm,.int .i64 R.size]) (by simp[results,results59,go_sem,r0,r1,r2,r3]) rfl ⟨by rw[HRES.out];simp[hO,hl],((((HB3.out.setCell (by simp) _).setCell (by simp) _).setCell (by simp) _).setCell (by simp) _)⟩
   ·(go_upto_region 4 with fail);(go_cut [39] (fun cv wy=>cv=.bool false/\Bl wx wy));case first =>
     by_cases h1:K=1
     ·subst h1;have hl:=HK3.out rfl;(have hO':decide (O<An zs.length)=false:=by simp only[decide_eq_false_iff_not];exact fun h'=>hlead ⟨rfl,h',hl⟩);clear hlead h0;(first|go_region_with (go_at_call 57;refine(HFR.out _).mono ?_;rintro e w2 ⟨rfl,hb2⟩;have hz2:=hb2.size;simp at hz2;have x1:=(hb2.cell (p:=⟨D,1,none⟩) (by simpa using hD1)).trans y1)|fail);all_goals
       go_wp2_with fail
       go_meet
       case rel=>exact⟨rfl,AH.drew.trans (hb2.mono (by simp))⟩
     ·(have k1:(K==1)=false:=by simpa using h1);clear hlead h0 h1;(go_quiet (fail));(go_wp2_with fail);(go_meet);case rel=>exact⟨rfl,CY AH _⟩
    case rest =>
     (obtain⟨wy,rfl⟩:∃wy:World,wy=wc:=⟨_,rfl⟩);obtain⟨rfl,hby⟩:=hcut;have x0:=(hby.cell (p:=⟨D,0,none⟩) (by simpa using hD1)).trans y0;have x1:=(hby.cell (p:=⟨D,1,none⟩) (by simpa using hD1)).trans y1;have x2:=(hby.cell (p:=⟨D,2,none⟩) (by simpa using hD1)).trans y2;obtain⟨⟨z0,z1,z2,z3⟩,e0,e1,e2,e3⟩:=HRS.out wy (HBX.out.trans (hby.mono (by omega)));have HY:Hid (Bl w wy):=HBW.out.trans (hby.mono (by omega));clear hby m0 y0 y1 y2 r0 r1 r2 r3 f0 f1 f2 f3;by_cases h2:K=2
     ·subst h2;(go_wp2_with fail);exact bodyPost_ret (v:=.agg #[.int .i64 1,.int .i64 (O+page%16),.int .i64 P,.int .i64 16]) (by simp[results,results59,go_sem,z0,z1,z2,z3]) rfl ⟨by rw[HRES.out];simp,((((HY.out.setCell (by simp) _).setCell (by simp) _).setCell (by simp) _).setCell (by simp) _)⟩
     ·(have k2:(K==2)=false:=by simpa using h2);by_cases h3:K=3
      ·subst h3;clear h2 k2 k0 h0;(go_wp2_with fail);exact bodyPost_ret (v:=.agg #[.int .i64 1,.int .i64 O,.int .i64 P,.int .i64 1]) (by simp[results,results59,go_sem,z0,z1,z2,z3]) rfl ⟨by rw[HRES.out];simp,((((HY.out.setCell (by simp) _).setCell (by simp) _).setCell (by simp) _).setCell (by simp) _)⟩
      ·(have k3:(K==3)=false:=by simpa using h3);have HIF:Hid _:=And.intro h0 (And.intro hlead (And.intro h2 h3));clear h0 hlead h2 h3;(go_wp2_with fail);refine bodyPost_ret (v:=.agg #[.int .i64 3,.int .i64 0,.int .i64 0,.int .i64 0]) (by simp[results,results59,go_sem,z0,z1,z2,z3]) rfl ⟨?_,((((HY.out.setCell (by simp) _).setCell (by simp) _).setCell (by simp) _).setCell (by simp) _)⟩;obtain⟨h0,hlead,h2,h3⟩:=HIF.out;rw[HRES.out,if_neg h0,if_neg hlead,if_neg h2,if_neg h3]
theorem PW(g:Nat)(zs:List Int)(c:Nat)(page:Int)(hp0:0<=page)(hp1:page<4096)(hz:Cu zs):∀(d:Nat) (level frame:Int),1<=level->level+d=3->0<=frame->frame<An zs.length->∀(w:World),BQ w g zs ->
  Calls prog 59 #[.agg #[.slice (some ⟨g,0,none⟩) zs.length c],.int .i64 page,.int .i64 level,.int .i64 frame] w fun e w'=>e=.returned (Fy (WO page 0 d (Cp zs) level frame false).2)/\Bl w w'
 | 0,level,frame,hl1,hld,hf0,hf1,w,hg=>by
  rw[<- JH zs page level frame ⟨0,0,0,0⟩ (by omega)];exact Mi g zs c page level frame hp0 hp1 hl1 (by omega) hf0 hf1 hz _ w hg (fun wX hX h _ _=>by omega)
 | d+1,level,frame,hl1,hld,hf0,hf1,w,hg=>by
  rw[<- EJ zs page level frame d (by omega)];exact Mi g zs c page level frame hp0 hp1 hl1 (by omega) hf0 hf1 hz _ w hg (fun wX hX h hk ho=>PW g zs c page hp0 hp1 hz d (level+1) _ (by omega) (by omega) (Ci _ _).1 ho wX (hg.below hX hg.lt))
def BG (zs:List Int) (page:Int):Di:=if An zs.length=0\/DX page=false then ⟨0,0,0,0⟩ else (WO page 0 2 (Cp zs) 1 0 false).2
theorem NX(g:Nat)(zs:List Int)(c:Nat)(page:Int)(hlen:zs.length<=1048576)(hr:∀i,0<=zs.getD i 0/\zs.getD i 0<2 ^ 64)(w:World)(hg:BQ w g zs):Calls prog 19 #[.agg #[.slice (some ⟨g,0,none⟩) zs.length c],.int .i64 page] w fun e w'=>e=.returned (Fy (BG zs page))/\Bl w w':=by
 have hfr:=DZ (some ⟨g,0,none⟩) zs.length c (by omega);have hpk:=Qt page;unfold BG;by_cases h0:An zs.length=0
 ·rw[if_pos (.inl h0)];rw[h0] at hfr;unfold Fy;go_enter func19,ntmps19
  go_wp2_with (go_at_call 57;refine(hfr _).mono ?_;rintro e w1 ⟨rfl,hb1⟩;obtain⟨hc1,hf1⟩:=Fr hb1)
  exact bodyPost_ret (v:=.agg #[.int .i64 0,.int .i64 0,.int .i64 0,.int .i64 0]) (by simp[results,results19,go_sem,hc1]) rfl ⟨rfl,(((((AO.alloc (by simp) _).trans (hb1.mono (by simp;omega))).setCell (by simp) _).setCell (by simp) _).setCell (by simp) _).setCell (by simp) _⟩
 ·cases hp:DX page
  ·rw[if_pos (.inr rfl)];rw[hp] at hpk;(have h0':(An zs.length==0)=false:=by simpa using h0);unfold Fy;clear h0;(go_enter func19,ntmps19);(go_wp2_with (first|(go_at_call 57;refine(hfr _).mono ?_;rintro e w1 ⟨rfl,hb1⟩;obtain⟨hc1,hf1⟩:=Fr hb1)|(go_at_call 58;refine(hpk _).mono ?_;rintro e wE ⟨rfl,hwE⟩;obtain rfl:=hwE.symm)));exact bodyPost_ret (v:=.agg #[.int .i64 0,.int .i64 0,.int .i64 0,.int .i64 0]) (by simp[results,results19,go_sem,hc1]) rfl ⟨rfl,(((((AO.alloc (by simp) _).trans (hb1.mono (by simp;omega))).setCell (by simp) _).setCell (by simp) _).setCell (by simp) _).setCell (by simp) _⟩
  ·rw[if_neg (by simp[h0])];(obtain⟨R,hR⟩:∃R,R=(WO page 0 2 (Cp zs) 1 0 false).2:=⟨_,rfl⟩);rw[<- hR];rw[hp] at hpk;(have h0':(An zs.length==0)=false:=by simpa using h0);have hz:Cu zs:=⟨h0,hr⟩;(have hpp:0<=page/\page<4096:=by simpa [DX] using hp);have hn:=Bz zs.length h0;(have hfa:=fun wX (hX:Bl w wX)=>PW g zs c page hpp.1 hpp.2 hz 2 1 0 (by omega) (by omega) (by omega) (by omega) wX (hg.below hX hg.lt));rw[<- hR] at hfa;have HFA:=A5 hfa;clear hR h0 hfa hz hp hg;unfold Fy at *;(go_enter func19,ntmps19);(go_wp2_with (first|(go_at_call 57;refine(hfr _).mono ?_;rintro e w1 ⟨rfl,hb1⟩;obtain⟨hc1,hf1⟩:=Fr hb1)|(go_at_call 58;refine(hpk _).mono ?_;rintro e wE ⟨rfl,hwE⟩;obtain rfl:=hwE.symm)));have B1:Bl w w1:=(AO.alloc (by simp) _).trans (hb1.mono (by simp;omega));have s1:=hb1.size;simp at s1;refine(HFA.out w1 B1).mono ?_;rintro e w2 ⟨rfl,hb2⟩;(have hc2:∀o,w2.cell? ⟨w.heap.size+1,o,none⟩=w1.cell? ⟨w.heap.size+1,o,none⟩:=fun o=>hb2.cell (p:=⟨w.heap.size+1,o,none⟩) (by simp;omega));(have hf2:∀o,w2.frozen? ⟨w.heap.size+1,o,none⟩=w1.frozen? ⟨w.heap.size+1,o,none⟩:=fun o=>hb2.frozen (p:=⟨w.heap.size+1,o,none⟩) (by simp;omega));have HB2:Hid (Bl w w2):=B1.trans (hb2.mono (by omega));clear hb2 B1 hb1;(go_wp2_with fail);exact bodyPost_ret (v:=.agg #[.int .i64 R.kind,.int .i64 R.out,.int .i64 R.perm,.int .i64 R.size]) (by simp[results,results19,go_sem,hc2,hc1]) rfl ⟨rfl,(((HB2.out.setCell (by simp) _).setCell (by simp) _).setCell (by simp) _).setCell (by simp) _⟩
theorem QS(gu:Nat)(page:Int)(w:World):Calls prog 150 #[.pointer (some ⟨gu,0,none⟩),.int .i64 page,.int .i64 0] w fun r w'=>r=.returned (.agg #[.int .i64 0,.int .i64 4096,.bool false,.int .i64 1,.int .i64 0])/\Bl w w':=by
 have hh:=GA 0 0 1 rfl (by omega) (by omega) (by omega);rw[UZ] at hh;go_enter func150,ntmps150
 go_wp2_with (go_at_call 198;refine(hh _).mono ?_;rintro e w1 ⟨rfl,rfl⟩)
 exact bodyPost_ret (v:=.agg #[.int .i64 0,.int .i64 4096,.bool false,.int .i64 1,.int .i64 0]) (by simp[results,results150,go_sem]) rfl ⟨rfl,BH⟩
theorem Um(gu:Nat)(a0 a1 l t K O P S page:Int)(hS:K=2\/K=3->(S=1\/S=16)/\BX l=S)(hO:0<=O/\O<65536)(hp0:0<=page)(hp1:page<4096)(w:World):Calls prog 156 #[.pointer (some ⟨gu,0,none⟩),.agg #[.int .i64 a0,.int .i64 a1,.bool false,.int .i64 l,.int .i64 t],.agg #[.int .i64 K,.int .i64 O,.int .i64 P],.int .i64 page,.int .i64 0] w fun r w'=>r=.returned (Fy (if K=0 then ⟨0,0,0,0⟩ else if K=2\/K=3 then ⟨1,O+page%S,P,S⟩ else ⟨3,0,0,0⟩))/\Bl w w':=by
 unfold Fy;by_cases h0:K=0
 ·subst h0;clear hS;go_enter func156,ntmps156
  go_wp2_with fail
  exact bodyPost_ret (v:=.agg #[.int .i64 0,.int .i64 0,.int .i64 0,.int .i64 0]) (by simp[results,results156,go_sem]) rfl ⟨by simp,BH⟩
 ·by_cases hK:K=2\/K=3
  ·rw[if_neg h0,if_pos hK];obtain⟨hS,hcov⟩:=hS hK;have hh:=GA 0 6 64 rfl (by omega) (by omega) (by omega);rw[UZ] at hh;have hep:=BJ l;rw[hcov] at hep;(obtain⟨wb,hwb⟩:∃wb,wb=((w.alloc (.cells #[.int .i64 a0,.int .i64 a1,.bool false,.int .i64 l,.int .i64 t] 198)).alloc (.cells #[.int .i64 K,.int .i64 O,.int .i64 P] 126)).alloc (.cells #[.int .i64 0,.int .i64 0,.int .i64 0,.int .i64 0] 56):=⟨_,rfl⟩);(have hbb:Bl w wb:=by rw[hwb];exact BH);(have hzb:wb.heap.size=w.heap.size+3:=by rw[hwb];simp);have HQ:Hid (∀wX,Bl wb wX->wX.cell? ⟨w.heap.size,2,none⟩=some (.bool false)/\wX.cell? ⟨w.heap.size,3,none⟩=some (.int .i64 l)/\wX.cell? ⟨w.heap.size+1,1,none⟩=some (.int .i64 O)/\wX.cell? ⟨w.heap.size+1,2,none⟩=some (.int .i64 P)):=A6 fun wX hX=>by
    refine⟨?_,?_,?_,?_⟩<;>exact(hX.cell (by simp;omega)).trans (by rw[hwb];simp[go_sem])
   have HR:Hid (∀wX,Bl wb wX->∀i,i<4->wX.cell? ⟨w.heap.size+2,i,none⟩=some (.int .i64 0)/\wX.frozen? ⟨w.heap.size+2,i,none⟩=false):=A6 fun wX hX i hi=>by
    rcases(by omega:i=0\/i=1\/i=2\/i=3) with rfl|rfl|rfl|rfl<;>exact⟨(hX.cell (by simp;omega)).trans (by rw[hwb];simp[go_sem]),(hX.frozen (by simp;omega)).trans (by rw[hwb];simp[go_sem])⟩
   (have HWI:Hid (∀wX,Bl wb wX->Calls prog 157 #[.pointer (some ⟨w.heap.size,0,none⟩),.int .i64 page,.int .i64 S] wX fun e w'=>e=.returned (.agg #[.int .i64 (page-page%S),.int .i64 S,.bool false])/\Bl wX w'):=A6 fun wX hX=>Kt w.heap.size 0 page S false hp0 (by omega) (by omega) wX (by have:=hX.size;omega) (HQ.out wX hX).1);have hmod0:0<=page%S:=Int.emod_nonneg _ (by omega);(have hmod1:page%S<=page:=by rcases hS with rfl|rfl<;>omega);have HOUT:Hid (O+page-(page-page%S)=O+page%S):=A6 (by omega);have HWB:=A5 hwb;have HBB:=A5 hbb;have HZ:=A5 hzb;clear hwb hbb hzb;rcases hK with rfl|rfl;all_goals
    go_enter func156,ntmps156
    go_upto_region 5 with fail
    rw[<- HWB.out]
    go_cut [11] (fun d wx=>∃E,d=.pointer (some ⟨E,0,none⟩)/\wx.cell? ⟨E,0,none⟩=some (.int .i64 (page-page%S))/\wx.cell? ⟨E,1,none⟩=some (.int .i64 S)/\wx.cell? ⟨E,3,none⟩=some (.int .i64 O)/\wx.cell? ⟨E,4,none⟩=some (.int .i64 P)/\E<wx.heap.size/\Bl wb wx)
    case first =>
     obtain⟨q1,q2,q3,q4⟩:=HQ.out wb AH
     go_region_held3 (fun wX=>wX.cell? ⟨w.heap.size,2,none⟩=some (.bool false)/\wX.cell? ⟨w.heap.size,3,none⟩=some (.int .i64 l)/\wX.cell? ⟨w.heap.size+1,1,none⟩=some (.int .i64 O)/\wX.cell? ⟨w.heap.size+1,2,none⟩=some (.int .i64 P))
      ((refine HQ.out _ ?_;repeat (first|exact AH|with_reducible refine Below.drew ?_|with_reducible refine Below.setCell ?_ (by first|omega|(simp<;>omega)) _|with_reducible refine Below.alloc ?_ (by first|omega|(simp<;>omega)) _|refine Below.trans ?_ (hb1.mono (by first|omega|(simp<;>omega))))))
      (first
       | (go_at_call 168;refine(hep _).mono ?_;rintro e wE ⟨rfl,rfl⟩)
       | (go_at_call 157;refine(HWI.out _ BH).mono ?_;rintro e w1 ⟨rfl,hb1⟩;obtain⟨hc1,hf1⟩:=Fr hb1;have hz1:=hb1.size;simp at hz1))
     all_goals
      go_wp2_with fail
      go_meet
      case rel =>
       refine⟨_,rfl,?_,?_,?_,?_,?_,?_⟩
       iterate 4 (simp[go_sem,hc1])
       ·first|omega|(simp<;>omega)
       ·repeat (first|exact AH|with_reducible refine Below.drew ?_|with_reducible refine Below.setCell ?_ (by first|omega|(simp<;>omega)) _|with_reducible refine Below.alloc ?_ (by first|omega|(simp<;>omega)) _|refine Below.trans ?_ (hb1.mono (by first|omega|(simp<;>omega))))
    case rest =>
     obtain⟨wx,rfl⟩:∃wx:World,wx=wc:=⟨_,rfl⟩
     obtain⟨E,rfl,y0,y1,y3,y4,hE1,hbx⟩:=hcut
     have hzb:=HZ.out
     have hht:=Vr E 0 page (page-page%S) S O P hp0 (by omega) (by omega) (by omega) hO.1 (by omega) wx hE1 y0 y1 y3 y4
     have HBX:=A5 hbx
     clear hbx y0 y1 y3 y4
     go_wp2_with (go_at_call 198;refine(hh _).mono ?_;rintro e wE ⟨rfl,hwE⟩;obtain rfl:=hwE.symm)
     refine hht.mono ?_
     rintro e w2 ⟨rfl,hb2⟩
     have h2:=Ab HBX.out hb2
     obtain⟨z0,f0⟩:=HR.out w2 h2 0 (by omega)
     obtain⟨z1,f1⟩:=HR.out w2 h2 1 (by omega)
     obtain⟨z2,f2⟩:=HR.out w2 h2 2 (by omega)
     obtain⟨z3,f3⟩:=HR.out w2 h2 3 (by omega)
     have HB2:Hid (Bl w w2):=A6 (HBB.out.trans (h2.mono (by omega)))
     clear hb2 h2 hht
     go_wp2_with fail
     refine bodyPost_ret (v:=.agg #[.int .i64 1,.int .i64 (O+page-(page-page%S)),.int .i64 P,.int .i64 S]) (by simp[results,results156,go_sem,z0,z1,z2,z3]) rfl ⟨by rw[HOUT.out],?_⟩
     exact(((HB2.out.setCell (by simp<;>omega) _).setCell (by simp<;>omega) _).setCell (by simp<;>omega) _).setCell (by simp<;>omega) _
  ·(have k0:(K==0)=false:=by simpa using h0);(have k2:(K != 2)=true:=by simp;omega);(have k3:(K != 3)=true:=by simp;omega);rw[if_neg h0,if_neg hK];clear hK h0 hS;(go_enter func156,ntmps156);(go_wp2_with fail);exact bodyPost_ret (v:=.agg #[.int .i64 3,.int .i64 0,.int .i64 0,.int .i64 0]) (by simp[results,results156,go_sem]) rfl ⟨rfl,BH⟩
end Go.Proofs.YtnmhkgmmpkjjeaaGreat
