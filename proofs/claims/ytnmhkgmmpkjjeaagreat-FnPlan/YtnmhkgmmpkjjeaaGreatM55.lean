import Derived.Test.YtnmhkgmmpkjjeaaGreatM54
namespace Go.Proofs.YtnmhkgmmpkjjeaaGreat
open ChangeShapes WideShapes ChangeAt RowKit Joins Proofs.Tryz
set_option linter.all false
set_option maxRecDepth 100000
set_option maxHeartbeats 8000000
section
attribute [local go_sem ↓] wp_at_zero wp_at_succ
def wZ (zs:List Int) (p l t:Int):Di:=(WO p 0 (3-l).toNat (Cp zs) l t false).2
theorem ZU(zs:List Int)(p l t:Int)(h1:1<=l)(h3:l<=3):wZ zs p l t=BK (An zs.length) p l (C5 (Cp zs) p 0 l t) (wZ zs p (l+1) (AX l (C5 (Cp zs) p 0 l t))):=by
 rcases(by omega:l=1\/l=2\/l=3) with rfl|rfl|rfl
 ·exact(EJ zs p 1 t 1 (by omega)).symm
 ·exact(EJ zs p 2 t 0 (by omega)).symm
 ·exact(JH zs p 3 t _ rfl).symm
structure WZ (W:World) (R A:Nat) (p l t:Int):Prop where
 r:∀i,i<4->W.cell? ⟨R,i,none⟩=some (.int .i64 0)/\W.frozen? ⟨R,i,none⟩=false
 a:W.cell? ⟨A,0,none⟩=some (.int .i64 p)/\W.cell? ⟨A,1,none⟩=some (.int .i64 (16*BX l))/\W.cell? ⟨A,2,none⟩=some (.bool false)/\W.cell? ⟨A,3,none⟩=some (.int .i64 l)/\W.cell? ⟨A,4,none⟩=some (.int .i64 t)
 f:∀i,i<5->W.frozen? ⟨A,i,none⟩=false
 rl:R<W.heap.size
 al:A<W.heap.size
theorem WZ.below{W W':World}{R A:Nat}{p l t:Int}(h:WZ W R A p l t)(hb:Bl W W'):WZ W' R A p l t:=by
 obtain⟨r,⟨a0,a1,a2,a3,a4⟩,f,rl,al⟩:=h;have s:=hb.size;exact⟨fun i hi=>⟨(hb.cell rl).trans (r i hi).1,(hb.frozen rl).trans (r i hi).2⟩,⟨(hb.cell al).trans a0,(hb.cell al).trans a1,(hb.cell al).trans a2,(hb.cell al).trans a3,(hb.cell al).trans a4⟩,fun i hi=>(hb.frozen al).trans (f i hi),by omega,by omega⟩
theorem XS{n p l x:Int}{R:Di}(h:¬(AG l x=1/\AX l x<n)):BK n p l x R=if AG l x=0 then ⟨0,0,0,0⟩ else if AG l x=2\/AG l x=3 then ⟨1,AX l x+p%Hz l x,Ak l x,Hz l x⟩ else ⟨3,0,0,0⟩:=by
 unfold BK Hz;by_cases h0:AG l x=0
 ·rw[if_pos h0,if_pos h0]
 ·rw[if_neg h0,if_neg h0,if_neg (fun e=>h ⟨e.1,e.2.1⟩)];by_cases h2:AG l x=2
  ·simp[h2]
  ·by_cases h3:AG l x=3
   ·simp[h3]
   ·simp[h2,h3]
theorem Wt{n p l x:Int}{R:Di}(h:AG l x=1/\AX l x<n)(h3:l<=3):l<3/\BK n p l x R=R:=by
 have hl:l<3:=by
  rcases Int.lt_or_eq_of_le h3 with h'|h'
  ·exact h'
  ·rw[h'] at h;exact absurd h.1 (S5 x)
 unfold BK;exact⟨hl,by rw[if_neg (by omega),if_pos ⟨h.1,h.2,hl⟩]⟩
theorem Xe(l x:Int)(h:AG l x=2\/AG l x=3):(Hz l x=1\/Hz l x=16)/\BX l=Hz l x:=by
 have h2:AG l x=2->l=2:=fun h=>by
  unfold AG at h;repeat' split at h
  all_goals first|omega|simp_all
 have h3:AG l x=3->l=3:=fun h=>by
  unfold AG at h;repeat' split at h
  all_goals first|omega|simp_all
 unfold Hz;rcases h with h|h
 ·rw[if_pos h,h2 h];exact⟨.inr rfl,rfl⟩
 ·rw[if_neg (by omega),h3 h];exact⟨.inl rfl,rfl⟩
theorem SO(gu g c:Nat)(zs:List Int)(page:Int)(w:World)(hp0:0<=page)(hp1:page<4096)(hz:Cu zs)(hg:BQ w g zs)(hgu:gu<w.heap.size)(hq:w.cell? ⟨gu,0,none⟩=some (.slice (some ⟨g,0,none⟩) zs.length c)):Calls prog 91 #[.pointer (some ⟨gu,0,none⟩),.int .i64 page,.int .i64 0] w fun r w'=>r=.returned (Fy (wZ zs page 1 0))/\Bl w w':=by
 obtain⟨wb,hwb⟩:∃wb,wb=w.alloc (.cells #[.int .i64 0,.int .i64 0,.int .i64 0,.int .i64 0] 56):=⟨_,rfl⟩
 have hbb:Bl w wb:=by rw[hwb];exact BH
 have hzb:wb.heap.size=w.heap.size+1:=by rw[hwb];simp
 have hn:=Bz zs.length hz.n0;have hnl:=Dv zs.length;have hlt:=hg.lt;have hr:∀wX,Bl wb wX->∀i,i<4->wX.cell? ⟨w.heap.size,i,none⟩=some (.int .i64 0)/\wX.frozen? ⟨w.heap.size,i,none⟩=false:=fun wX hX i hi=>by
  rcases(by omega:i=0\/i=1\/i=2\/i=3) with rfl|rfl|rfl|rfl<;>exact⟨(hX.cell (by simp;omega)).trans (by rw[hwb];simp[go_sem]),(hX.frozen (by simp;omega)).trans (by rw[hwb];simp[go_sem])⟩
 have HQ:Hid (∀wX,Bl w wX->wX.cell? ⟨gu,0,none⟩=some (.slice (some ⟨g,0,none⟩) zs.length c)/\BQ wX g zs):=A6 fun wX hX=>⟨(hX.cell hgu).trans hq,hg.below hX hlt⟩
 have HR:=A5 hr;have HWB:=A5 hwb;have HBB:=A5 hbb;have HRG:=A5 hz.rng;have hbg:=QS gu page wb;rw[hwb] at hbg;clear hwb hbb hr hg hq hz;go_enter func91,ntmps91
 go_wp2_with fail
 refine hbg.mono ?_;rintro e w1 ⟨rfl,hb1'⟩;have hb1:Bl wb w1:=by rw[HWB.out];exact hb1'
 have s1:=hb1.size;obtain⟨wA,hwA⟩:∃wA,wA=w1.alloc (.cells #[.int .i64 0,.int .i64 4096,.bool false,.int .i64 1,.int .i64 0] 198):=⟨_,rfl⟩
 have hzA:wA.heap.size=w1.heap.size+1:=by rw[hwA];simp
 have bA:Bl wb wA:=by rw[hwA];exact hb1.alloc (by omega) _
 have HAT:Hid (∃p l t:Int,WZ wA w.heap.size w1.heap.size p l t/\Bl w wA/\wZ zs page l t=wZ zs page 1 0/\1<=l/\l<=3/\0<=t/\t<An zs.length):=by
  refine⟨0,1,0,⟨HR.out wA bA,?_,?_,by omega,by omega⟩,HBB.out.trans (bA.mono (by omega)),rfl,by omega,by omega,by omega,by omega⟩
  ·rw[hwA,show (16*BX 1:Int)=4096 from rfl];simp[go_sem]
  ·intro i hi;rw[hwA];simp[go_sem]
 have HWA:=A5 hwA;clear hb1 hb1' hbg bA hwA HR HBB;go_wp2_with fail
 go_loopw [] (fun wr=>∃p l t:Int,WZ wr w.heap.size w1.heap.size p l t/\Bl w wr/\wZ zs page l t=wZ zs page 1 0/\1<=l/\l<=3/\0<=t/\t<An zs.length) (fun wr=>match wr.cell? ⟨w1.heap.size,3,none⟩ with|some (.int _ l)=>(3-l).toNat|_=>0)
 case atStart=>rw[<- HWA.out];exact HAT.out
 case round =>
  obtain⟨p,l,t,hloc,hbW,hgo,l1,l3,t0,t1⟩:=hrel;obtain⟨W,rfl⟩:∃W:World,W=wr:=⟨_,rfl⟩
  have hix:=VJ page l hp0 hp1;obtain⟨Ad,hAd⟩:∃Ad:Nat,(Ad:Int)=t*16+JM page l:=⟨(t*16+JM page l).toNat,by omega⟩
  have hAd2:Ad<zs.length:=by omega
  have hlev:l=1\/l=2\/l=3:=by omega
  obtain⟨X,hX⟩:∃X,X=C5 (Cp zs) page 0 l t:=⟨_,rfl⟩
  have hXe:zs.getD Ad 0=X:=by rw[hX,D0,<- hAd];rfl
  have hxr:=HRG.out Ad;rw[hXe] at hxr;have hwz:=ZU zs page l t l1 l3;rw[hgo,<- hX] at hwz;have HKL:Hid (∀wX,Bl W wX->WZ wX w.heap.size w1.heap.size p l t):=A6 fun wX hX=>hloc.below hX
  have hsW:=hbW.size;have HQW:Hid (∀wX,Bl W wX->wX.cell? ⟨gu,0,none⟩=some (.slice (some ⟨g,0,none⟩) zs.length c)/\BQ wX g zs):=A6 fun wX hX=>HQ.out wX (hbW.trans (hX.mono hsW))
  have HADDR:Hid (∀wX,Bl W wX->Calls prog 153 #[.pointer (some ⟨w1.heap.size,0,none⟩),.int .i64 page] wX fun e w'=>e=.returned (.int .i64 Ad)/\Bl wX w'):=A6 fun wX hX=>by
   have h1:=U5 w1.heap.size page l t hp0 hp1 hlev t0 (by omega) wX (HKL.out wX hX).a.2.2.2.1 (HKL.out wX hX).a.2.2.2.2;rw[<- hAd] at h1;exact h1
  have hsee:=Nf 0 l hlev (by omega) (by omega);rw[UZ] at hsee;have HREAD:Hid (∀wX,Bl W wX->Calls prog 152 #[.pointer (some ⟨gu,0,none⟩),.int .i64 Ad,.bool false] wX fun e w'=>e=.returned (.int .u64 X)/\Bl wX w'):=A6 fun wX hX =>
   So gu g 0 zs.length c 0 0 Ad false X wX (fun _=>⟨(HQW.out wX hX).1,hAd2,by rw[(HQW.out wX hX).2.cell hAd2,hXe]⟩) (fun h=>by cases h)
  have hdec:=fun wX=>Cb l X hxr.1 hxr.2 wX
  unfold D7 D9 at hdec;have hSZ:=Xe l X;have hno:=@XS (An zs.length) page l X (wZ zs page (l+1) (AX l X));have hyes:=@Wt (An zs.length) page l X (wZ zs page (l+1) (AX l X));have hOlo:=Ci l X;generalize AX l X=O at *;generalize AG l X=K at *;generalize Ak l X=P at *;generalize Hz l X=S at *;have HWZ:=A5 hwz;have HNO:=A5 hno;have HYE:=A5 hyes;have HSZ:=A5 hSZ;have HBW:=A5 hbW;have HLOC:=A5 hloc;obtain⟨a0,a1,a2,a3,a4⟩:=hloc.a;have hAl:=hloc.al;clear hwz hno hyes hSZ hX hXe hxr hAd hAd2 hix hbW hloc hgo a0 a1 a2 HQ;go_upto_region 2 with fail
  go_cut [8] (fun d wx=>∃D,d=.pointer (some ⟨D,0,none⟩)/\wx.cell? ⟨D,0,none⟩=some (.int .i64 K)/\wx.cell? ⟨D,1,none⟩=some (.int .i64 O)/\wx.cell? ⟨D,2,none⟩=some (.int .i64 P)/\W.heap.size<=D/\D<wx.heap.size/\Bl W wx)
  case first =>
   (have HS:Hid (∀wX,Bl W wX->wX.cell? ⟨w1.heap.size,3,none⟩=some (.int .i64 l)):=A6 fun wX hX=>(HKL.out wX hX).a.2.2.2.1);go_region_held3 (fun wX=>wX.cell? ⟨w1.heap.size,3,none⟩=some (.int .i64 l))
    ((refine HS.out _ ?_;repeat (first|exact AH|with_reducible refine Below.drew ?_|with_reducible refine Below.setCell ?_ (by first|omega|(simp<;>omega)) _|with_reducible refine Below.alloc ?_ (by first|omega|(simp<;>omega)) _|refine Below.trans ?_ (hb4.mono (by first|omega|(simp<;>omega)))|refine Below.trans ?_ (hb3.mono (by first|omega|(simp<;>omega)))|refine Below.trans ?_ (hb2.mono (by first|omega|(simp<;>omega))))))
    (first
     | (go_at_call 153;refine(HADDR.out _ BH).mono ?_;rintro e w2 ⟨rfl,hb2⟩;obtain⟨hc2,hf2⟩:=Fr hb2;have hz2:=hb2.size;simp at hz2;try have e2:W.heap.size<w2.heap.size:=by omega)
     | (go_at_call 154;refine(hsee _).mono ?_;rintro e wE ⟨rfl,hwE⟩;obtain rfl:=hwE.symm)
     | (go_at_call 152;refine(HREAD.out _ (by repeat (first|exact AH|with_reducible refine Below.drew ?_|with_reducible refine Below.alloc ?_ (by first|omega|(simp<;>omega)) _|refine Below.trans ?_ (hb2.mono (by first|omega|(simp<;>omega)))))).mono ?_;rintro e w3 ⟨rfl,hb3⟩;obtain⟨hc3,hf3⟩:=Fr hb3;have hz3:=hb3.size;(try simp at hz3);(try have e3:W.heap.size<w3.heap.size:=by omega);try have e3':w2.heap.size<w3.heap.size:=by omega)
     | (go_at_call 151;refine(hdec _).mono ?_;rintro e w4 ⟨rfl,hb4⟩;obtain⟨hc4,hf4⟩:=Fr hb4;have hz4:=hb4.size;(try simp at hz4);(try have e4:W.heap.size<w4.heap.size:=by omega);(try have e4':w2.heap.size<w4.heap.size:=by omega);try have e4'':w3.heap.size<w4.heap.size:=by omega))
   all_goals
    go_wp2_with fail
    go_meet
    case rel =>
     refine⟨_,rfl,?_,?_,?_,?_,?_,?_⟩
     iterate 3 (focus first|(simp[go_sem,hc4,hc3,hc2,e2,e3];done)|(simp[go_sem,hc4,hc3,e3'];done)|(simp[go_sem,hc4];done)|simp[go_sem])
     iterate 2 (first|omega|(simp<;>omega))
     repeat (first|exact AH|with_reducible refine Below.drew ?_|with_reducible refine Below.setCell ?_ (by first|omega|(simp<;>omega)) _|with_reducible refine Below.alloc ?_ (by first|omega|(simp<;>omega)) _|refine Below.trans ?_ (hb4.mono (by first|omega|(simp<;>omega)))|refine Below.trans ?_ (hb3.mono (by first|omega|(simp<;>omega)))|refine Below.trans ?_ (hb2.mono (by first|omega|(simp<;>omega))))
  case rest =>
   (obtain⟨wx,rfl⟩:∃wx:World,wx=wc:=⟨_,rfl⟩);obtain⟨D,rfl,y0,y1,y2,hD0,hD1,hbx⟩:=hcut;have sx:=hbx.size;have lx:=HKL.out wx hbx;(have hhf:=fun wX=>Ey (some ⟨g,0,none⟩) zs.length c O (An zs.length) hn.1 hOlo.1 (by omega) wX);have HLX:=A5 lx;have HBX:=A5 hbx;obtain⟨a0,a1,a2,a3',a4'⟩:=lx.a;(have HKX:Hid (∀wX,Bl wx wX->wX.cell? ⟨gu,0,none⟩=some (.slice (some ⟨g,0,none⟩) zs.length c)/\wX.cell? ⟨D,0,none⟩=some (.int .i64 K)/\wX.cell? ⟨D,1,none⟩=some (.int .i64 O)):=A6 fun wX hX=>⟨(HQW.out wX (HBX.out.trans (hX.mono sx))).1,(hX.cell hD1).trans y0,(hX.cell hD1).trans y1⟩);clear lx hbx HADDR HREAD hsee hdec HKL a3 a4;by_cases hlead:K=1/\O<An zs.length
   ·obtain⟨hl2,hgo⟩:=HYE.out hlead l3;rw[<- HWZ.out] at hgo;obtain⟨hK1,hO1⟩:=hlead;rw[decide_eq_true hO1] at hhf;have HGO:=A5 hgo;have HHF:=A5 hhf;have htp:=Dm (l+1);have hcv:16*BX (l+1)=BX l/\(BX l=16\/BX l=256):=by
     rcases(show l=1\/l=2 by omega) with h'|h'<;>rw[h']<;>decide
    rw[hcv.1] at htp;have hkt:=Kf 0 (l+1) (by omega) (by omega) (by omega);rw[UZ] at hkt;have HWI:Hid (∀wX,Bl wx wX->Calls prog 157 #[.pointer (some ⟨w1.heap.size,0,none⟩),.int .i64 page,.int .i64 (BX l)] wX fun e w'=>e=.returned (.agg #[.int .i64 (page-page%BX l),.int .i64 (BX l),.bool false])/\Bl wX w'):=A6 fun wX hX =>
     Kt w1.heap.size 0 page (BX l) false hp0 (by omega) (by omega) wX (by have:=hX.size;omega) ((hX.cell (by simp;omega)).trans a2)
    have HCV:=A5 hcv.1;clear hgo hhf hcv;(go_upto_region 3 with fail);go_region_held3 (fun wX=>wX.cell? ⟨gu,0,none⟩=some (.slice (some ⟨g,0,none⟩) zs.length c)/\wX.cell? ⟨D,0,none⟩=some (.int .i64 K)/\wX.cell? ⟨D,1,none⟩=some (.int .i64 O))
     ((refine HKX.out _ ?_;repeat (first|exact AH|with_reducible refine Below.drew ?_|refine Below.trans ?_ (hb2.mono (by first|omega|(simp<;>omega))))))
     (first|(go_at_call 155;refine(HHF.out _).mono ?_;rintro e w2 ⟨rfl,hb2⟩))
    have b2':Bl wx w2:=AH.drew.trans (hb2.mono (by simp));have s2:=b2'.size;have x1:=(b2'.cell (p:=⟨D,1,none⟩) hD1).trans y1;have W1:=AR (l+1);have HB2:=A5 b2';(have HK2:Hid (∀wX,Bl w2 wX->wX.cell? ⟨D,1,none⟩=some (.int .i64 O)):=A6 fun wX hX=>(hX.cell (by simp;omega)).trans x1);(have HFAR:Hid (∀(wX:World) (i:Nat) (v:Value),(wX.setCell ⟨w1.heap.size,i,none⟩ v).cell? ⟨D,1,none⟩=wX.cell? ⟨D,1,none⟩):=A6 fun wX i v=>World.cell?_setCell_far _ _ _ _ (by show w1.heap.size≠D;omega));have lc2:=HLX.out.below b2';obtain⟨c0,c1,c2,x3,c4⟩:=lc2.a;have HL2:=A5 lc2;clear hb2 b2' y0 y1 y2 a0 a1 a2 a3' a4' c0 c1 c4 lc2;(go_upto_region 6 with fail);go_region_held3 (fun wX=>wX.cell? ⟨D,1,none⟩=some (.int .i64 O))
     ((first|(rw[HFAR.out,HFAR.out,HFAR.out,HFAR.out,HFAR.out];refine HK2.out _ ?_;repeat (first|exact AH|with_reducible refine Below.drew ?_|refine Below.trans ?_ (hb3.mono (by first|omega|(simp<;>omega)))))|(refine HK2.out _ ?_;repeat (first|exact AH|with_reducible refine Below.drew ?_|refine Below.trans ?_ (hb3.mono (by first|omega|(simp<;>omega)))))))
     (first
      | (go_at_call 114;refine(htp _).mono ?_;rintro e wE ⟨rfl,hwE⟩;obtain rfl:=hwE.symm)
      | (go_at_call 157;refine(HWI.out _ (by first|exact HB2.out.drew|exact HB2.out)).mono ?_;rintro e w3 ⟨rfl,hb3⟩;have hz3:=hb3.size;simp at hz3;have lc3:=HL2.out.below (AH.drew.trans (hb3.mono (by simp)));obtain⟨p0,p1,p2,p3,p4⟩:=lc3.a;have pf0:=lc3.f 0 (by omega);have pf1:=lc3.f 1 (by omega);have pf2:=lc3.f 2 (by omega);have pf3:=lc3.f 3 (by omega);have pf4:=lc3.f 4 (by omega)))
    have b23:Bl w2 w3:=AH.drew.trans (hb3.mono (by simp));have b3:Bl wx w3:=HB2.out.trans (b23.mono (by omega));(obtain⟨wS,hwS⟩:∃wS,wS=((((w3.setCell ⟨w1.heap.size,0,none⟩ (.int .i64 (page-page%BX l))).setCell ⟨w1.heap.size,1,none⟩ (.int .i64 (BX l))).setCell ⟨w1.heap.size,2,none⟩ (.bool false)).setCell ⟨w1.heap.size,3,none⟩ (.int .i64 (l+1))).setCell ⟨w1.heap.size,4,none⟩ (.int .i64 O):=⟨_,rfl⟩);(have hzS:wS.heap.size=w3.heap.size:=by rw[hwS];simp);have bS:Bl w wS:=by
     have:=HBW.out.trans ((HBX.out.trans (b3.mono sx)).mono hsW);rw[hwS];exact(((((this.setCell (by simp;omega) _).setCell (by simp;omega) _).setCell (by simp;omega) _).setCell (by simp;omega) _).setCell (by simp;omega) _)
    have locS:WZ wS w.heap.size w1.heap.size (page-page%BX l) (l+1) O:=by
     refine⟨fun i hi=>?_,?_,fun i hi=>?_,by omega,by omega⟩
     ·rw[hwS];have:=lc3.r i hi;constructor
      ·rw[World.cell?_setCell_far _ _ _ _ (by show w1.heap.size≠w.heap.size;omega),World.cell?_setCell_far _ _ _ _ (by show w1.heap.size≠w.heap.size;omega),World.cell?_setCell_far _ _ _ _ (by show w1.heap.size≠w.heap.size;omega),World.cell?_setCell_far _ _ _ _ (by show w1.heap.size≠w.heap.size;omega),World.cell?_setCell_far _ _ _ _ (by show w1.heap.size≠w.heap.size;omega)];exact this.1
      ·simp[this.2]
     ·rw[HCV.out,hwS];simp[go_sem,p0,p1,p2,p3,p4]
     ·rw[hwS];simp[lc3.f i hi]
    have a3W:=HLOC.out.a.2.2.2.1;have HLS:=A5 locS;have HSS:=A5 bS;rw[<- hwS];clear p0 p1 p2 p3 p4 pf0 pf1 pf2 pf3 pf4 hb3 b23 b3 lc3 locS bS hwS x1 x3 c2 htp;(go_wp2_with (go_at_call 158;refine(hkt _).mono ?_;rintro e wE ⟨rfl,hwE⟩;obtain rfl:=hwE.symm));go_roundw;(case rel=>exact⟨_,_,_,HLS.out,HSS.out,HGO.out.symm,by omega,by omega,hOlo.1,hO1⟩);case measure =>
     have:=HLS.out.a.2.2.2.1;simp only[this,a3W];omega
   ·have hres:=HNO.out hlead;rw[<- HWZ.out] at hres;have HRES:=A5 hres;clear hres;(go_upto_region 3 with fail);(go_cut [37] (fun c wy=>c=.bool true/\Bl wx wy));case first =>
     by_cases hK1:K=1
     ·(have hk:(K != 1)=false:=by simpa using hK1);rw[decide_eq_false (fun h'=>hlead ⟨hK1,h'⟩)] at hhf;clear hK1 hlead;go_region_held3 (fun wX=>wX.cell? ⟨gu,0,none⟩=some (.slice (some ⟨g,0,none⟩) zs.length c)/\wX.cell? ⟨D,0,none⟩=some (.int .i64 K)/\wX.cell? ⟨D,1,none⟩=some (.int .i64 O))
       ((refine HKX.out _ ?_;repeat (first|exact AH|with_reducible refine Below.drew ?_|refine Below.trans ?_ (hb2.mono (by first|omega|(simp<;>omega))))))
       (first|(go_at_call 155;refine(hhf _).mono ?_;rintro e w2 ⟨rfl,hb2⟩))
      (go_wp2_with fail);(go_meet);case rel=>exact⟨rfl,AH.drew.trans (hb2.mono (by simp))⟩
     ·(have hk:(K != 1)=true:=by simpa using hK1);clear hK1 hlead hhf;(go_quiet (fail));(go_wp2_with fail);(go_meet);case rel=>exact⟨rfl,CY AH _⟩
    case rest =>
     (obtain⟨wy,rfl⟩:∃wy:World,wy=wc:=⟨_,rfl⟩);obtain⟨rfl,hby⟩:=hcut;have loc:=HLX.out.below hby;have x0:=(hby.cell (p:=⟨D,0,none⟩) hD1).trans y0;have x1:=(hby.cell (p:=⟨D,1,none⟩) hD1).trans y1;have x2:=(hby.cell (p:=⟨D,2,none⟩) hD1).trans y2;obtain⟨b0',b1,b2,b3,b4⟩:=loc.a;have HY:Hid (Bl w wy):=A6 (HBW.out.trans ((HBX.out.trans (hby.mono sx)).mono hsW));have HLC:=A5 loc;have hend:=Um gu p (16*BX l) l t K O P S page HSZ.out hOlo hp0 hp1 wy;rw[<- HRES.out] at hend;unfold Fy at hend;generalize 16*BX l=X1 at *;clear a0 a1 a2 a3' a4' y0 y1 y2 hby loc hlead hhf HKX;(go_wp2_with fail);refine hend.mono ?_;rintro e w5 ⟨rfl,hb5⟩;have lc5:=(HLC.out.below hb5).r;obtain⟨z0,f0⟩:=lc5 0 (by omega);obtain⟨z1,f1⟩:=lc5 1 (by omega);obtain⟨z2,f2⟩:=lc5 2 (by omega);obtain⟨z3,f3⟩:=lc5 3 (by omega);have HB5:=A5 (Ab HY.out hb5);clear hend lc5 hb5 b0' b1 b2 b3 b4 x0 x1 x2;(go_wp2_with fail);refine bodyPost_ret (v:=.agg #[.int .i64 (wZ zs page 1 0).kind,.int .i64 (wZ zs page 1 0).out,.int .i64 (wZ zs page 1 0).perm,.int .i64 (wZ zs page 1 0).size]) (by simp[results,results91,go_sem,z0,z1,z2,z3]) rfl ⟨rfl,?_⟩;exact(((HB5.out.setCell (Nat.le_refl _) _).setCell (Nat.le_refl _) _).setCell (Nat.le_refl _) _).setCell (Nat.le_refl _) _
theorem MB(g c:Nat)(zs:List Int)(page:Nat)(w:World)(hp:page<4096)(hz:Cu zs)(hl:zs.length<=1048576)(hg:BQ w g zs):Calls prog 27 #[.agg #[.slice (some ⟨g,0,none⟩) zs.length c],.int .i64 (page:Int)] w (AM w (Fy (BG zs page))):=by
 have hvm:=Ji (some ⟨g,0,none⟩) zs.length c (by omega);have hpk:=I6 (page:Int);have h0:=hz.n0;have hpo:DX (page:Int)=true:=by simp[DX];omega
 have e:BG zs page=wZ zs page 1 0:=by unfold BG;rw[if_neg (by simp[h0,hpo])];rfl
 rw[e];rw[hpo] at hpk;simp only[h0,decide_false,Bool.not_false] at hvm;have HWK:Hid (∀(wX:World) (gu:Nat),Bl w wX->gu<wX.heap.size->wX.cell? ⟨gu,0,none⟩=some (.slice (some ⟨g,0,none⟩) zs.length c)->Calls prog 91 #[.pointer (some ⟨gu,0,none⟩),.int .i64 (page:Int),.int .i64 0] wX (AM wX (Fy (wZ zs page 1 0)))):=A6 fun wX gu hX hgu hq=>SO gu g c zs page wX (by omega) (by omega) hz (hg.below hX hg.lt) hgu hq
 generalize wZ zs page 1 0=R at *;clear h0 hpo e hz hg;unfold Fy at *;go_enter func27,ntmps27
 go_wp2_with (first|(go_at_call 87;refine(hvm _).mono ?_;rintro e w1 ⟨rfl,hb1⟩;obtain⟨hc1,hf1⟩:=Fr hb1)|(go_at_call 90;refine(hpk _).mono ?_;rintro e wE ⟨rfl,hwE⟩;obtain rfl:=hwE.symm))
 have B1:Bl w w1:=(AO.alloc (by simp) _).trans (hb1.mono (by simp;omega));have s1:=hb1.size;simp at s1;have r1:∀i,i<4->w1.cell? ⟨w.heap.size+1,i,none⟩=some (.int .i64 0)/\w1.frozen? ⟨w.heap.size+1,i,none⟩=false:=fun i hi=>by
  rw[hc1 (w.heap.size+1) i (by simp),hf1 (w.heap.size+1) i (by simp)];rcases(by omega:i=0\/i=1\/i=2\/i=3) with rfl|rfl|rfl|rfl<;>simp[go_sem]
 refine(HWK.out _ w1.heap.size (B1.alloc (by omega) _) (by simp) (by simp[go_sem])).mono ?_;rintro e w2 ⟨rfl,hb2⟩;have s2:=hb2.size;simp at s2;have zz:∀i,i<4->w2.cell? ⟨w.heap.size+1,i,none⟩=some (.int .i64 0)/\w2.frozen? ⟨w.heap.size+1,i,none⟩=false:=fun i hi=>by
  have hb:=AO.trans (hb2.mono (by simp));exact⟨(hb.cell (by simp;omega)).trans (r1 i hi).1,(hb.frozen (by simp;omega)).trans (r1 i hi).2⟩
 obtain⟨z0,f0⟩:=zz 0 (by omega);obtain⟨z1,f1⟩:=zz 1 (by omega);obtain⟨z2,f2⟩:=zz 2 (by omega);obtain⟨z3,f3⟩:=zz 3 (by omega);have HB2:Hid (Bl w w2):=A6 ((B1.alloc (by omega) _).trans (hb2.mono (by simp;omega)));clear hb2 r1 zz hb1 hc1 hf1 B1;go_wp2_with fail
 exact bodyPost_ret (v:=.agg #[.int .i64 R.kind,.int .i64 R.out,.int .i64 R.perm,.int .i64 R.size]) (by simp[results,results27,go_sem,z0,z1,z2,z3]) rfl ⟨rfl,(((HB2.out.setCell (by simp) _).setCell (by simp) _).setCell (by simp) _).setCell (by simp) _⟩
theorem WX(p:Int)(w:World):Calls prog 58 #[.int .i64 p] w fun e w'=>e=.returned (.bool (decide (0<=p/\p<4096)))/\w'=w:=by
 by_cases h0:0<=p
 ·by_cases h1:p<4096
  ·rw[decide_eq_true ⟨h0,h1⟩];(go_enter func58,ntmps58);(go_wp2_with fail);go_ret;exact⟨rfl,rfl⟩
  ·rw[decide_eq_false (fun h=>h1 h.2)];(go_enter func58,ntmps58);(go_wp2_with fail);go_ret;exact⟨rfl,rfl⟩
 ·have d0:decide (0<=p)=false:=decide_eq_false h0;rw[decide_eq_false (fun h=>h0 h.1)];clear h0;go_enter func58,ntmps58
  go_wp2_with fail
  go_ret;exact⟨rfl,rfl⟩
theorem Qz(a:Option Addr)(cap b:Nat)(xs:List AE)(page:Int)(w:World)(hn:xs.length<=1048576)(hwf:∀i,i<xs.length->Qe (AQ AA xs i))(h:A8 AA w b (.slice a xs.length cap) xs):Calls prog 20 #[.slice a xs.length cap,.int .i64 page] w (AM w (.agg #[.int .i64 (Me xs page).k,.int .i64 (Me xs page).o,.int .i64 (Me xs page).p,.int .i64 (Me xs page).s])):=by
 obtain⟨wb,hwb⟩:∃wb,wb=w.alloc (.cells #[.int .i64 0,.int .i64 0,.int .i64 0,.int .i64 0] 56):=⟨_,rfl⟩
 have hbb:Bl w wb:=by rw[hwb];exact AO
 have hzb:wb.heap.size=w.heap.size+1:=by rw[hwb];simp
 have HRS:Hid (∀wX,Bl wb wX->(wX.cell? ⟨w.heap.size,0,none⟩=some (.int .i64 0)/\wX.cell? ⟨w.heap.size,1,none⟩=some (.int .i64 0)/\wX.cell? ⟨w.heap.size,2,none⟩=some (.int .i64 0)/\wX.cell? ⟨w.heap.size,3,none⟩=some (.int .i64 0))/\wX.frozen? ⟨w.heap.size,0,none⟩=false/\wX.frozen? ⟨w.heap.size,1,none⟩=false/\wX.frozen? ⟨w.heap.size,2,none⟩=false/\wX.frozen? ⟨w.heap.size,3,none⟩=false):=fun wX hX=>by
  refine⟨⟨?_,?_,?_,?_⟩,?_,?_,?_,?_⟩;iterate 4 (exact(hX.cell (by simp;omega)).trans (by rw[hwb];simp[go_sem]))
  iterate 4 (exact(hX.frozen (by simp;omega)).trans (by rw[hwb];simp[go_sem]))
 have hv:=F7 a cap b xs wb hn hwf (h.below hbb);have hpk:=WX page;have HAT:Hid (∀wX,Bl wb wX->VS xs->0<=page->page<4096->Calls prog 60 #[.slice a xs.length cap,.int .i64 page] wX (AM wX (.agg #[.int .i64 (Dz xs page).k,.int .i64 (Dz xs page).o,.int .i64 (Dz xs page).p,.int .i64 (Dz xs page).s]))):=fun wX hX h1 h2 h3=>PC a cap b xs page wX hn h1 h2 h3 (h.below (hbb.trans (hX.mono (by omega))))
 rw[hwb] at hv;have HWB:=A5 hwb;have HBB:=A5 hbb;have HZ:=A5 hzb;clear h hwf hwb hbb hzb;cases hvb:FP xs<;>rw[hvb] at hv
 ·have HA:Hid (Me xs page=Ru):=by unfold Me;rw[if_neg (by rw[hvb];simp)];rfl
  clear hvb hpk HAT;go_enter func20,ntmps20
  go_wp2_with fail
  refine hv.mono ?_;rintro e w1 ⟨rfl,hb1'⟩;have hb1:Bl wb w1:=by rw[HWB.out];exact hb1'
  obtain⟨⟨r0,r1,r2,r3⟩,f0,f1,f2,f3⟩:=HRS.out w1 hb1;have HB4:Hid (Bl w w1):=HBB.out.trans (hb1.mono (by have:=HZ.out;omega));clear hb1 hb1' hv;go_wp2_with fail
  refine bodyPost_ret (v:=.agg #[.int .i64 0,.int .i64 0,.int .i64 0,.int .i64 0]) (by simp[results,results20,go_sem,r0,r1,r2,r3]) rfl ⟨by rw[HA.out];rfl,?_⟩;exact(((HB4.out.setCell (by simp) _).setCell (by simp) _).setCell (by simp) _).setCell (by simp) _
 ·by_cases hp:0<=page/\page<4096
  ·have hvs:=VS.of_true hvb;(have HA:Hid (Me xs page=Dz xs page):=by unfold Me;rw[if_pos ⟨hvb,hp⟩];rfl);rw[decide_eq_true hp] at hpk;obtain⟨hp0,hp1⟩:=hp;clear hvb;(go_enter func20,ntmps20);(go_wp2_with fail);refine hv.mono ?_;rintro e w1 ⟨rfl,hb1'⟩;(have hb1:Bl wb w1:=by rw[HWB.out];exact hb1');clear hb1' hv;(go_wp2_with (go_at_call 58;refine(hpk _).mono ?_;rintro e w2 ⟨rfl,hw2⟩;obtain rfl:=hw2.symm));refine(HAT.out _ hb1 hvs hp0 hp1).mono ?_;rintro e w3 ⟨rfl,hb3⟩;have b3:Bl wb w3:=Ab hb1 hb3;obtain⟨⟨r0,r1,r2,r3⟩,f0,f1,f2,f3⟩:=HRS.out w3 b3;have HB4:Hid (Bl w w3):=HBB.out.trans (b3.mono (by have:=HZ.out;omega));clear hb1 hb3 b3 hvs;(go_wp2_with fail);refine bodyPost_ret (v:=.agg #[.int .i64 (Dz xs page).k,.int .i64 (Dz xs page).o,.int .i64 (Dz xs page).p,.int .i64 (Dz xs page).s]) (by simp[results,results20,go_sem,r0,r1,r2,r3]) rfl ⟨by rw[HA.out],?_⟩;exact(((HB4.out.setCell (by simp) _).setCell (by simp) _).setCell (by simp) _).setCell (by simp) _
  ·(have HA:Hid (Me xs page=Ru):=by unfold Me;rw[if_neg (fun h=>hp h.2)];rfl);rw[decide_eq_false hp] at hpk;clear hvb HAT hp;(go_enter func20,ntmps20);(go_wp2_with fail);refine hv.mono ?_;rintro e w1 ⟨rfl,hb1'⟩;(have hb1:Bl wb w1:=by rw[HWB.out];exact hb1');obtain⟨⟨r0,r1,r2,r3⟩,f0,f1,f2,f3⟩:=HRS.out w1 hb1;have HB4:Hid (Bl w w1):=HBB.out.trans (hb1.mono (by have:=HZ.out;omega));clear hb1 hb1' hv;(go_wp2_with (go_at_call 58;refine(hpk _).mono ?_;rintro e w2 ⟨rfl,hw2⟩;obtain rfl:=hw2.symm));refine bodyPost_ret (v:=.agg #[.int .i64 0,.int .i64 0,.int .i64 0,.int .i64 0]) (by simp[results,results20,go_sem,r0,r1,r2,r3]) rfl ⟨by rw[HA.out];rfl,?_⟩;exact(((HB4.out.setCell (by simp) _).setCell (by simp) _).setCell (by simp) _).setCell (by simp) _
end
theorem V3{w:World}{b g c:Nat}{zs:List Int}(h:A8 AY w b (.slice (some ⟨g,0,none⟩) zs.length c) zs):zs.length<=c:=by
 by_cases h0:0<zs.length
 ·obtain⟨_,_,_,h1,_⟩:=Ly h h0;exact h1
 ·omega
theorem Tp(a:Option Addr)(cap:Nat)(cs:List Int)(w:World)(hc:Ia cs)(hs:On w a cs):Calls prog 4 #[.slice a cs.length cap] w (AM w (.bool true)):=by
 obtain⟨m1,m2⟩:=Zu cs hc;obtain⟨q1,q2⟩:=Xk cs;have hD:=fun wX hX=>Ng a cap cs wX hc (hs.below (w':=wX) hX)
 generalize Xp cs=M at *;generalize RK cs=S at *;have hal:(D8 M (Bk M S).1).length=M.length:=DB _ _;refine WN a cs.length cap w M (D8 M (Bk M S).1) S (Bk M S).1 (Bk M S).2 hc.1 hD (fun g c b g2 c2 wX h1 h2=>GR g _ c _ c2 b _ wX (by omega) m2 h1.crow (by omega) q2 h2) (fun g c b g2 c2 wX h1 h2=>Nq g _ c _ c2 b _ wX (by omega) (V3 h1) m2 h1.crow (by omega) q2 h2) Qa (fun h0 g c b bo ao co ae wX h1 h2=>?_) (fun h0 g c b wX h1=>?_) (fun h0 g c b p wX hp h1=>?_) (fun g c b p wX h1=>Qz _ c b _ p wX (by omega) q2 h1) (fun g c b p wX h1=>NX g _ c p (by omega) m2 wX h1.crow) (fun g c b wX h1=>Dt g _ c (by omega) m2 wX h1.crow) (fun h0=>?_)
 ·obtain⟨ro,hv,hok⟩:=Hw m2 h0;rw[ro.p] at h2 ⊢;exact NB g c b bo _ M _ ao co ae 0 wX ro.c m2 h1 h2
 ·obtain⟨ro,hv,hok⟩:=Hw m2 h0;have e:(Bk M S).1=Ao M (An M.length).toNat (lay S) (A7 M):=by rw[ro.p]
  have hg:=ro.g;rw[<- e] at hg;refine(H8 g _ c (by omega) (V3 h1) hg.w wX h1.crow).mono ?_;rintro e w' ⟨a',c',rfl,_,hb⟩;exact⟨a',_,c',by rw[hg.t],hb⟩
 ·obtain⟨ro,hv,hok⟩:=Hw m2 h0;have e:(Bk M S).1=Ao M (An M.length).toNat (lay S) (A7 M):=by rw[ro.p]
  have hg:=ro.g;have hh:=ro.h p hp;rw[<- e] at hg hh;have t:=MB g c _ p wX hp ⟨by rw[hg.f];have:=hg.n1;omega,hg.w⟩ (by omega) h1.crow;rw[hh] at t;exact t
 ·obtain⟨ro,hv,hok⟩:=Hw m2 h0;have e:(Bk M S).1=Ao M (An M.length).toNat (lay S) (A7 M):=by rw[ro.p]
  refine⟨by rw[e];exact Td ro.c hv,by have:=(G6 M hok).le;omega,fun i hi=>?_⟩;have hq:=Ha _ i hi;have h1:=ro.c.plc.lv hq;have h2:=ro.c.plc.pg hq;have h3:0<=BX (Aq (A7 M) i).lv:=by unfold BX;repeat' split<;>omega
  exact⟨by omega,h2.1,by omega⟩
theorem Wp{H:Type}{enc:TypeId×Value->H}{W:World}{sp:Nat->Bool}{fuel:Nat}{v:Value}{y:DataW H×List MemPlace}(hf:DataW.trod enc prog W 0 sp true fuel 22 [v]=some y):∃a cs cap,v=.slice a (cs:List Int).length cap/\On W a cs/\cs.length<=9223372036854775807/\∀i,0<=cs.getD i 0/\cs.getD i 0<256:=by
 rcases open_ints underlying22 underlying5 (by kernel_rfl) hf with⟨hcs,_⟩|⟨x,l,c,zs,hcs,_,hl,hm,hz,_,hcell,hwz⟩
 ·simp at hcs;subst hcs;exact⟨none,[],0,rfl,fun h=>absurd h (by simp),by simp,fun i=>by simp⟩
 ·simp at hcs;subst hcs;have hlz:l<=zs.length:=by rw[hz];split<;>omega
  have hlen:(zs.take l).length=l:=by rw[List.length_take];omega
  have hget:∀i,i<l->(zs.take l).getD i 0=zs.getD i 0:=fun i hi=>by
   rw[List.getD_eq_getElem?_getD,List.getD_eq_getElem?_getD,List.getElem?_take,if_pos hi]
  unfold maxLen at hm;refine⟨some x,zs.take l,c,by rw[hlen],fun h0=>?_,by omega,fun i=>?_⟩
  ·rw[hlen] at h0;obtain⟨b,off,rfl,hc⟩:=ints_at hcell (by omega);refine⟨b,off,rfl,World.block_lt_of_cell? W _ (hc 0 (by omega)),fun i hi=>?_⟩;rw[hlen] at hi;rw[hget i hi];exact hc i (by omega)
  ·by_cases hi:i<(zs.take l).length
   ·have hmem:(zs.take l).getD i 0∈zs:=by
     rw[List.getD_eq_getElem?_getD,List.getElem?_eq_getElem hi];exact List.mem_of_mem_take (List.getElem_mem hi)
    have:=bounds_u8 (hwz _ hmem);omega
   ·rw[List.getD_eq_getElem?_getD,List.getElem?_eq_none (by omega)];simp
section
attribute [local go_sem ↓] wp_at_zero wp_at_succ
theorem Vy(a:Option Addr)(n cap:Nat)(hb:1048576<n)(hm:n<=9223372036854775807)(w:World):Calls prog 4 #[.slice a n cap] w (AM w (.bool true)):=by
 have hK:(1048576:Int)<(n:Int):=by omega
 refine KZ 160 func4 rfl (by rfl) (by simp) ?_;intro tm hsz hla;have s0:=hla 0 (by simp);clear hla;simp only[List.getElem_toArray,List.getElem_cons_zero] at s0;go_upto_if 27 with fail
 refine cT ?_;go_wp2_with fail
 exact bodyPost_ret (v:=.bool true) (by simp[results,results4,go_sem,hsz]) rfl ⟨rfl,AH⟩
theorem XV(a:Option Addr)(cap:Nat)(cs:List Int)(w:World)(hs:On w a cs)(hm:cs.length<=9223372036854775807)(hr:∀i,0<=cs.getD i 0/\cs.getD i 0<256):Calls prog 4 #[.slice a cs.length cap] w (AM w (.bool true)):=by
 by_cases hb:cs.length<=1048576
 ·exact Tp a cap cs w ⟨hb,hr⟩ hs
 ·exact Vy a cs.length cap (by omega) hm w
theorem Wk:ownKnob prog.godebug=none:=by kernel_rfl
theorem Pc:laidOutB prog=true:=by kernel_rfl
set_option maxRecDepth 100000 in
theorem Q5(os:Os)(started:os.Started)(H:Type)(enc:TypeId×Value->H):ReturnsInHanded {} Tryz.checked os 4 .any (Rows.fnPlanSpec.pre6 enc prog Tryz.f4 Rows.fnPlanRow.domain false) (Rows.fnPlanSpec.post enc prog Tryz.f4 false true false false):=by
 refine returnsInHanded_of_change (C:=Tryz.checked) Wk started (by kernel_rfl) func4
  (ChangeSpec.witness6 (enc:=enc) (C:=Tryz.checked) false ⟨#[],#[.slice none 0 0],[]⟩ 8 (by kernel_rfl) (by kernel_rfl) (by kernel_rfl) (by kernel_rfl)) ?_
 intro W base args ds gs before hval0 hW hcnd _;have hval:∀(j:Nat) t v,Tryz.f4.params[j]?=some t->args[j]?=some v->Value.okWide prog W .any base t v:=hval0
 have hW':=hW;obtain⟨p,q,hA0,hV,rfl,hfz,hnd⟩:=hW;have hA:DataW.TrodAll enc prog W 0 (fun _=>true) true Tryz.f4.params.toList args.toList ds p:=hA0;rw[Tryz.params4] at hA hval;obtain⟨v0,vs0,d0,ds0,p0,q0,hargs,rfl,rfl,h0,r0⟩:=trodAll_cons hA;obtain⟨rfl,rfl,rfl⟩:=trodAll_nil r0;obtain rfl:args=#[v0]:=by cases args;simp_all
 obtain⟨rfl,rfl⟩:=trodVars_none hV;have k0:=h0;have lt0:∀x∈p0,x.block<W.heap.size:=by obtain⟨m,hm⟩:=k0;exact DataW.trod_lt m _ _ _ hm
 obtain⟨a,cs,cap,rfl,hsrc,hm,hr⟩:∃a cs cap,v0=.slice a (cs:List Int).length cap/\On W a cs/\cs.length<=9223372036854775807/\∀i,0<=cs.getD i 0/\cs.getD i 0<256:=by
  obtain⟨a0,l0,c0,rfl⟩:=okWide_slice underlying22 (hval 0 22 v0 rfl rfl);obtain⟨fuel,hf⟩:=h0;have hf':DataW.trod enc prog W 0 (fun _=>true) true fuel 22 [.slice a0 l0 c0]=some (d0,p0):=hf;exact Wp hf'
 clear hA0 hval0;refine(XV a cap cs W hsrc hm hr).mono fun e W' ⟨he,bel⟩=>?_
 subst he;exact⟨_,rfl,_,_,_,[],_,[],hW',trodAll_mk1 (shut_bool underlying4 _),(trodAll_cons_mk (Below.trod Pc (by kernel_rfl) (of_decide_eq_true (by kernel_rfl)) k0 bel lt0) trodAll_mk0),rfl,bel.frame _,fun h=>by cases h⟩
theorem fpn_proved:Rows.FnPlanSaid :=
 OpenClaim.holds_of_wide 4 Tryz.f4 rfl rfl rfl rfl rfl rfl rfl ⟨rfl,rfl,rfl,rfl,rfl⟩ rfl rfl rfl rfl rfl (by kernel_rfl) func4 (by kernel_rfl)
  (of_decide_eq_true (by kernel_rfl)) (by unfold Func.isWrapper;first|(rw[if_pos (by decide +kernel)];kernel_rfl)|(rw[if_neg (by decide +kernel)];exact⟨rfl,rfl⟩))
  (fun os started H enc _=>Q5 os started H enc)
#print axioms fpn_proved
end
end Go.Proofs.YtnmhkgmmpkjjeaaGreat
