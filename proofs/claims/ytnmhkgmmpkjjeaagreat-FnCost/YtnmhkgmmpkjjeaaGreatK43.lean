import Derived.Test.YtnmhkgmmpkjjeaaGreatK40
import Derived.Test.YtnmhkgmmpkjjeaaGreatK42
namespace Go.Proofs.YtnmhkgmmpkjjeaaGreat
open Go.ChangeShapes Go.WideShapes Go.ChangeAt Go.RowKit
set_option linter.unusedVariables false
attribute [local go_sem ↓] Go.wp_at_zero Go.wp_at_succ
set_option maxRecDepth 100000
set_option maxHeartbeats 1000000 in
theorem Sm (g:Nat) (zs:List Int) (c:Nat) (p:P3) (F:Nat) (hF:p.fr=F) (hF2:F*16+16<=zs.length) (hlen:zs.length<=8192) (hcc:zs.length<=c) (n:Int) (hn:n*16=zs.length) (hd:∀i,i<16->∀w,Calls Tryz.prog 151 #[.int .i64 p.lv,.int .u64 (AG zs p.fr i)] w fun e w'=>e=.returned (.agg #[.int .i64 (AF p.lv (AG zs p.fr i)),.int .i64 (AQ p.lv (AG zs p.fr i)),.int .i64 (Ae p.lv (AG zs p.fr i))])/\Below w.heap.size w w') (w:World) (hg:Ar w g zs) : Calls Tryz.prog 149 #[.agg #[.slice (some ⟨g,0,none⟩) zs.length c],.agg #[.int .i64 p.fr,.int .i64 p.lv,.int .i64 p.pg]] w fun e w'=>e=.returned (.bool (Cd zs n p))/\Below w.heap.size w w':=by
 obtain⟨w2,hw2⟩:∃w2,w2=(w.alloc (.cells #[.slice (some ⟨g,0,none⟩) zs.length c] 35)).alloc (.cells #[.int .i64 p.fr,.int .i64 p.lv,.int .i64 p.pg] 67):=⟨_,rfl⟩
 have hz2:w2.heap.size=w.heap.size+2:=by rw[hw2];simp
 have hb2:Below w.heap.size w w2:=by rw[hw2];exact((Below.refl _ _).alloc (Nat.le_refl _) _).alloc (by simp) _
 have q0:w2.cell? ⟨w.heap.size,0,none⟩=some (.slice (some ⟨g,0,none⟩) zs.length c):=by rw[hw2];simp[go_sem]
 have q2:w2.cell? ⟨w.heap.size+1,1,none⟩=some (.int .i64 p.lv):=by rw[hw2];simp[go_sem]
 have htab:=Jn g zs c F hF2 hlen hcc w2 (hg.below hb2 hg.lt);rw[hw2,<- hF] at htab;have HQ:Hid (w2.cell? ⟨w.heap.size,0,none⟩=some (.slice (some ⟨g,0,none⟩) zs.length c)/\w2.cell? ⟨w.heap.size+1,1,none⟩=some (.int .i64 p.lv)):=⟨q0,q2⟩;have HZ:Hid (w2.heap.size=w.heap.size+2):=hz2;have HW2:Hid (w2=_):=hw2;have HB2:Hid (Below _ _ _):=hb2;have HD:Hid _:=hd;have HF:Hid (p.fr=F):=hF;clear hz2 hw2 hb2 q0 q2 hd hF hg;go_enter Tryz.func149,Tryz.ntmps149
 go_wp2_with fail
 refine htab.mono ?_;rintro e wt ⟨⟨T,rfl,hTs,hT⟩,hbt⟩;have hbt2:Below w2.heap.size w2 wt:=by rw[HW2.out];exact hbt
 have HT:Hid _:=hT;clear htab hT hTs hbt;go_wp2_with fail
 go_loopw [12] (fun iv wr=>∃k:Nat,k<=16/\iv=.int .i64 k/\(List.range k).all (Cp zs n p)=true/\Below w2.heap.size w2 wr) (fun iv _=>16-(intOf iv).toNat)
 case atStart=>exact⟨0,by omega,rfl,rfl,hbt2⟩
 case round =>
  obtain⟨k,hk,rfl,hall,hb⟩:=hrel;have hsz:=hb.size;have hz:=HZ.out;by_cases hlt:k<16
  ·obtain⟨q0,q2⟩:=HQ.out;have c0:=(hb.cell (p:=⟨w.heap.size,0,none⟩) (by simp;omega)).trans q0;have c2:=(hb.cell (p:=⟨w.heap.size+1,1,none⟩) (by simp;omega)).trans q2;have hTk:=HT.out k hlt;(have ew:zs.getD (F*16+k) 0=AG zs p.fr k:=by simp[AG,HF.out];congr 1);rw[ew] at hTk;have hdk:=HD.out k hlt;have dO:=Cw p.lv (AG zs p.fr k);have hsw:=Ev (Cp zs n p) k;rw[hall,Bool.true_and] at hsw;(have hfa:Cp zs n p k=false->Cd zs n p=false:=fun h=>by rw[Cd,EI _ k 16 hlt h]);have hsk:Cp zs n p k=!(decide (AF p.lv (AG zs p.fr k)=4)||(decide (AF p.lv (AG zs p.fr k)=1)&&decide (n<=AQ p.lv (AG zs p.fr k)))):=rfl;have HSW:Hid _:=hsw;have HFA:Hid _:=hfa;have HBk:Hid (Below _ _ _):=hb;(have N0:w.heap.size+2<=wr.heap.size:=by omega);clear ew hsw hfa hall hb q0 q2 hz hsz hbt2;generalize AG zs p.fr k=X at *;generalize AF p.lv X=K at *;generalize AQ p.lv X=O at *;generalize Ae p.lv X=M at *;have HSK:Hid _:=hsk;have hix:=Hm T k hlt X hTk;have hfr:=Iw (some ⟨g,0,none⟩) zs.length c O n hn dO.1 hlen;(have L1:(0:Int)<=(k:Int):=by omega);(have L2:(k:Int)<16:=by omega);clear hsk hTk;(go_wp2_with fail);refine(hdk wr).mono ?_;rintro e w1 ⟨rfl,hb1⟩;have hs1:=hb1.size;have e0:=(hb1.cell (p:=⟨w.heap.size,0,none⟩) (by simp;omega)).trans c0;(have N1:w.heap.size<w1.heap.size:=by omega);have hbw:Below w2.heap.size w2 (w1.alloc (.cells #[.int .i64 K,.int .i64 O,.int .i64 M] 126)):=(HBk.out.trans (hb1.mono HBk.out.size)).alloc (by have:=HBk.out.size;omega) _;have HBW:Hid (Below _ _ _):=hbw;clear c0 c2 hdk hix hb1 hbw;by_cases hK4:K=4
   ·subst hK4;have HFA2:Hid (Cd zs n p=false):=HFA.out (by rw[HSK.out];simp);clear HFA HSW HSK;(go_wp2_with fail);go_ret;exact⟨by rw[HFA2.out];rfl,HB2.out.trans (HBW.out.mono (by have:=HZ.out;omega))⟩
   ·by_cases hK1:K=1
    ·subst hK1;by_cases hO:O<n
     ·(have hO':decide (O<n)=true:=by simpa using hO);rw[hO'] at hfr;have HST:Hid ((List.range (k+1)).all (Cp zs n p)=true):=by
       exact(show _=true by rw[HSW.out,HSK.out];simp;omega)
      clear HFA HSW HSK;(go_wp2_with (go_at_call 155;refine(hfr _).mono ?_;rintro e w4 ⟨rfl,hb4⟩));go_roundw;(case rel=>exact⟨k+1,by omega,by go_num,HST.out,HBW.out.trans (hb4.mono (by have:=HBW.out.size;omega))⟩);case measure=>simp[intOf];omega
     ·(have hO':decide (O<n)=false:=by simpa using hO);rw[hO'] at hfr;have HFA2:Hid (Cd zs n p=false):=HFA.out (by rw[HSK.out];simp;omega);clear HFA HSW HSK;(go_wp2_with (go_at_call 155;refine(hfr _).mono ?_;rintro e w4 ⟨rfl,hb4⟩));go_ret;exact⟨by rw[HFA2.out];rfl,HB2.out.trans ((HBW.out.trans (hb4.mono (by have:=HBW.out.size;omega))).mono (by have:=HZ.out;omega))⟩
    ·(have hK4':(K==4)=false:=by simpa using hK4);(have hK1':(K==1)=false:=by simpa using hK1);have HST:Hid ((List.range (k+1)).all (Cp zs n p)=true):=by
      exact(show _=true by rw[HSW.out,HSK.out];simp[hK4,hK1])
     clear HFA HSW HSK;(go_wp2_with fail);go_roundw;(case rel=>exact⟨k+1,by omega,by go_num,HST.out,HBW.out⟩);case measure=>simp[intOf];omega
  ·(have e:k=16:=by omega);subst e;have hS:Cd zs n p=true:=hall;have HS:Hid _:=hS;clear hS hall;(go_wp2_with fail);go_ret;exact⟨by rw[HS.out];rfl,HB2.out.trans (hb.mono (by omega))⟩
theorem O4:Tryz.zeroCells237=Array.replicate 512 (.bool false):=by kernel_rfl
def Jz (ps:List P3) (i:Nat) (f:Nat):Bool:=(List.range i).any fun j=>decide ((Ai ps j).fr=(f:Int))
theorem S8 (ps:List P3) (i f:Nat):Jz ps (i+1) f=(Jz ps i f||decide ((Ai ps i).fr=(f:Int))):=by
 simp[Jz,List.range_succ,List.any_append]
theorem QE (ps:List P3) (i F:Nat) (h:(Ai ps i).fr=F):Ec ps i=!Jz ps i F:=by
 simp only[Ec,Jz,h,List.not_any_eq_all_not];congr 1;funext j;by_cases e:(F:Int)=(Ai ps j).fr
 ·simp[e]
 ·simp[e];exact fun h=>e h.symm
set_option maxHeartbeats 1000000 in
set_option maxRecDepth 100000 in
theorem Pu (g:Nat) (zs:List Int) (c:Nat) (ps:List P3) (hps:SD zs ps) (hlen:zs.length<=8192) (hcc:zs.length<=c) (n:Int) (hn:n*16=zs.length) (hsd:∀i w,i<ps.length->Ar w g zs->Calls Tryz.prog 149 #[.agg #[.slice (some ⟨g,0,none⟩) zs.length c],.agg #[.int .i64 (Ai ps i).fr,.int .i64 (Ai ps i).lv,.int .i64 (Ai ps i).pg]] w fun e w'=>e=.returned (.bool (Cd zs n (Ai ps i)))/\Below w.heap.size w w') (v:Value) (bv:Nat) (w:World) (hg:Ar w g zs) (hv:Aa w bv v ps) : Calls Tryz.prog 89 #[.agg #[.slice (some ⟨g,0,none⟩) zs.length c],v] w fun e w'=>e=.returned (.bool (Bj zs n ps ps.length))/\Below w.heap.size w w':=by
 obtain⟨a3,c3,rfl,hform⟩:=hv.form;obtain⟨gp,N,f,rfl,_,hrw,hN,hpa⟩:=hform hps.pos;have hpl:=hps.le;obtain⟨wb,hwb⟩:∃wb,wb=w.alloc (.cells #[.slice (some ⟨g,0,none⟩) zs.length c] 35):=⟨_,rfl⟩
 have hzb:wb.heap.size=w.heap.size+1:=by rw[hwb];simp
 have hbb:Below w.heap.size w wb:=by rw[hwb];exact(Below.refl _ _).alloc (Nat.le_refl _) _
 have qb:wb.cell? ⟨w.heap.size,0,none⟩=some (.slice (some ⟨g,0,none⟩) zs.length c):=by rw[hwb];simp[go_sem]
 have HPR:Hid (w.rowIs gp 67 N f/\ps.length*3<=N/\∀i,i<ps.length->f (i*3)=.int .i64 (Ai ps i).fr/\f (i*3+1)=.int .i64 (Ai ps i).lv/\f (i*3+2)=.int .i64 (Ai ps i).pg):=⟨hrw,hN,hpa⟩;have HG:Hid (Ar w g zs):=hg;have HPS:Hid (SD zs ps):=hps;have HSD:Hid _:=hsd;have HWB:Hid (wb=_):=hwb;have HZB:Hid (wb.heap.size=w.heap.size+1):=hzb;have HBB:Hid (Below _ _ _):=hbb;have HQB:Hid (wb.cell? ⟨w.heap.size,0,none⟩=some (.slice (some ⟨g,0,none⟩) zs.length c)):=qb;clear hv hform hrw hN hpa hg hps hsd hwb hzb hbb qb;go_enter Tryz.func89,Tryz.ntmps89
 go_wp2_with fail
 go_loopw [10] (fun iv wr=>∃i:Nat,i<=ps.length/\iv=.int .i64 i/\Bj zs n ps i=true/\wr.rowIs (w.heap.size+1) 237 512 (fun q=>.bool (Jz ps i q))/\Below (w.heap.size+1) wb wr) (fun iv _=>ps.length-(intOf iv).toNat)
 case atStart =>
  refine⟨0,Nat.zero_le _,rfl,rfl,?_,?_⟩
  ·have h:=World.rowIs_alloc wb Tryz.zeroCells237 237 (fun q=>.bool (Jz ps 0 q)) (by
    intro i hi
    rw[O4] at hi ⊢
    rw[Array.getElem?_eq_getElem hi]
    simp[Jz])
   rw[HZB.out,HWB.out] at h;rw[O4,Array.size_replicate] at h;rw[O4];exact h
  ·rw[HWB.out];exact(Below.refl (w.heap.size+1) _).alloc (by simp) _
 case round =>
  obtain⟨i,hi,rfl,htr,hrch,hb⟩:=hrel;by_cases hlt:i<ps.length
  ·obtain⟨hrw,hN,hpa⟩:=HPR.out;obtain⟨F,hF,hF2⟩:=HPS.out.ok i hlt;have hbw:Below w.heap.size w wr:=HBB.out.trans (hb.mono (by omega));have hr1:wr.rowIs gp _ N f:=hrw.of_block (hbw.block gp hrw.lt);obtain⟨x1,x2,x3⟩:=hpa i hlt;have k1:=hr1.cell (i:=i*3) (by omega);have k2:=hr1.cell (i:=i*3+1) (by omega);have k3:=hr1.cell (i:=i*3+2) (by omega);rw[x1,hF] at k1;rw[x2] at k2;rw[x3] at k3;have hgr:Ar wr g zs:=HG.out.below hbw HG.out.lt;have c0:=(hb.cell (p:=⟨w.heap.size,0,none⟩) (by simp)).trans HQB.out;have rF:=hrch.cell (i:=F) (by omega);have fF:=hrch.frozen F;have hsd:=HSD.out i;rw[hF] at hsd;have hfs:=QE ps i F hF;have hsu:=JY zs n ps i;rw[htr,Bool.true_and,hfs] at hsu;have htf:(Ec ps i&&Cd zs n (Ai ps i))=false->Bj zs n ps ps.length=false:=Fr zs n ps i _ hlt;rw[hfs] at htf;(have hss:∀q,Jz ps (i+1) q=(Jz ps i q||decide ((F:Int)=(q:Int))):=fun q=>by rw[S8,hF]);have hrl:=hrch.lt;have HRCH:Hid (wr.rowIs (w.heap.size+1) _ 512 _):=hrch;have HB:Hid (Below (w.heap.size+1) wb wr):=hb;have HSS:Hid _:=hss;have HSU:Hid _:=hsu;have HTF:Hid _:=htf;have HGR:Hid (Ar _ _ _):=hgr;have HSDI:Hid _:=hsd;(have I1:(0:Int)<=(i:Int):=by omega);(have I2:(i:Int)<(ps.length:Int):=by omega);(have F1:(F:Int)<512:=by omega);(have N1:w.heap.size<wr.heap.size:=by omega);clear hrw hpa x1 x2 x3 hr1 hgr hsd hfs hsu htf hss hrch hb hbw htr hF HPR HSD;generalize (Ai ps i).lv=L at *;generalize (Ai ps i).pg=G at *;generalize Cd zs n (Ai ps i)=S at *;cases hsn:Jz ps i F
   ·rw[hsn] at rF;(go_wp2_with fail);refine(HSDI.out _ hlt ?_).mono ?_
    ·exact HGR.out.of_block (Below.heap_alloc _ _ _ HGR.out.lt)
    rintro e w4 ⟨rfl,hb4⟩;have hs4:=hb4.size;simp at hs4;have hrow4:w4.rowIs (w.heap.size+1) 237 512 (fun q=>.bool (Jz ps i q)):=(HRCH.out.alloc (.cells #[.int .i64 F,.int .i64 L,.int .i64 G] 67)).of_block (hb4.block _ (by simp;omega));have hb5:Below (w.heap.size+1) wb w4:=(HB.out.alloc (by omega) (.cells #[.int .i64 F,.int .i64 L,.int .i64 G] 67)).trans (hb4.mono (by simp;omega));(have p1:w4.cell? ⟨wr.heap.size,0,none⟩=some (.int .i64 F):=by rw[hb4.cell (by simp)];simp[go_sem]);have r1:=hrow4.cell (i:=F) (by omega);have f1:=hrow4.frozen F;have HR4:Hid (w4.rowIs (w.heap.size+1) _ 512 _):=hrow4;have HB5:Hid (Below _ wb w4):=hb5;clear hrow4 hb5 hb4 k1 k2 k3 c0 rF fF;cases S
    ·have HFA2:Hid (Bj zs n ps ps.length=false):=HTF.out (by simp);(go_wp2_with fail);go_ret;exact⟨by rw[HFA2.out];rfl,HBB.out.trans (HB5.out.mono (by omega))⟩
    ·have HT2:Hid (Bj zs n ps (i+1)=true):=by
      exact(show _=true by rw[HSU.out,hsn];rfl)
     clear hsn;(go_wp2_with fail);go_roundw;case rel =>
      refine⟨i+1,by omega,by go_num,HT2.out,?_,HB5.out.setCell (by simp) _⟩;refine(HR4.out.set F _).congr ?_;intro q hq;rw[HSS.out q];by_cases e:q=F
      ·subst e;simp
      ·rw[if_neg e];simp[show ¬(F:Int)=(q:Int) by omega]
     case measure=>simp[intOf];omega
   ·rw[hsn] at rF;have HFA2:Hid (Bj zs n ps ps.length=false):=HTF.out (by rw[hsn];rfl);clear hsn;(go_wp2_with fail);go_ret;exact⟨by rw[HFA2.out];rfl,HBB.out.trans ((HB.out.mono (by omega)).alloc (by omega) _)⟩
  ·(have e:i=ps.length:=by omega);subst e;have HT:Hid _:=htr;clear htr;(go_wp2_with fail);go_ret;exact⟨by rw[HT.out];rfl,HBB.out.trans (hb.mono (by omega))⟩
theorem Ka (g:Nat) (zs:List Int) (c:Nat) (hn:zs.length<=1048576) (hcc:zs.length<=c) (hr:∀i,0<=zs.getD i 0/\zs.getD i 0<2 ^ 64) (w:World) (hg:Ar w g zs) : Calls Tryz.prog 26 #[.agg #[.slice (some ⟨g,0,none⟩) zs.length c]] w fun e w'=>Bi zs w e w':=by
 have hvm:=Sz (some ⟨g,0,none⟩) zs.length c (by omega);by_cases h0:An zs.length=0
 ·have e:A8 zs=[]:=by unfold A8;rw[if_pos h0]
  have et:BM zs=false:=by unfold BM;simp[h0]
  unfold Bi;rw[e,et];simp only[h0,decide_true,Bool.not_true] at hvm;clear h0 e et;go_enter Tryz.func26,Tryz.ntmps26
  go_wp2_with (go_at_call 87;refine(hvm _).mono ?_;rintro e w1 ⟨rfl,hb1⟩)
  go_ret2
  exact⟨_,_,rfl,World.ownsRow_nil _ _ _ _,((Below.refl _ _).alloc (Nat.le_refl _) _).trans (hb1.mono (by simp))⟩
 ·have hz:Hf zs:=⟨h0,hr⟩;have hm:=C5 zs.length h0;have hle:=Ek zs.length;have e:A8 zs=As zs (An zs.length) 2 ⟨0,1,0⟩:=by unfold A8;rw[if_neg h0]
  have et:BM zs=Bj zs (An zs.length) (A8 zs) (A8 zs).length:=by unfold BM;simp[h0]
  have hps:=Hz zs hz;have hadd:=Nn g zs c hz hcc
  have htree:=Pu g zs c (A8 zs) hps (by omega) hcc (An zs.length) hm.1 (by
   intro i w hi hg
   obtain⟨F,hF,hF2⟩:=hps.ok i hi
   exact Sm g zs c (Ai (A8 zs) i) F hF hF2 (by omega) hcc (An zs.length) hm.1 (fun i hi w=>Cl _ _ (hr _).1 (hr _).2 w) w hg)
  rw[<- et] at htree;unfold Bi;simp only[h0,decide_false,Bool.not_false] at hvm;generalize BM zs=tr at *;generalize A8 zs=ps at *;clear e et hps hm hle hz h0;go_enter Tryz.func26,Tryz.ntmps26
  go_wp2_with (go_at_call 87;refine(hvm _).mono ?_;rintro e w1 ⟨rfl,hb1⟩;obtain⟨hc1,hf1⟩:=Jd hb1)
  have hs1:=hb1.size;simp at hs1;have hbw1:Below w.heap.size w w1:=((Below.refl _ _).alloc (Nat.le_refl _) _).trans (hb1.mono (by simp));refine(hadd w1 (hg.below hbw1 hg.lt)).mono ?_;rintro e w2 ⟨g2,c2,rfl,hp2',hb2⟩;have hp2:Aa w2 w.heap.size (.slice (some ⟨g2,0,none⟩) ps.length c2) ps:=hp2'.rebase (by omega);have hbx:w2.cell? ⟨w.heap.size,0,none⟩=some (.slice (some ⟨g,0,none⟩) zs.length c):=by
   rw[hb2.cell (by simp;omega),hb1.cell (by simp)];simp[go_sem]
  have hbw2:Below w.heap.size w w2:=hbw1.trans (hb2.mono (by omega));have HP2:Hid (Aa _ _ _ _):=hp2;have HBW2:Hid (Below _ _ _):=hbw2;have hgw2:Ar w2 g zs:=hg.below hbw2 hg.lt;have ht:=htree (.slice (some ⟨g2,0,none⟩) ps.length c2) w.heap.size w2 hgw2 hp2;clear hadd hc1 hf1 hb1 hbw1 hp2 hp2' hb2 hbw2 hgw2 htree;go_wp2_with fail
  refine ht.mono ?_;rintro e w3 ⟨rfl,hb3⟩;go_wp2_with fail
  go_ret2
  exact⟨some ⟨g2,0,none⟩,c2,rfl,HP2.out.below hb3,HBW2.out.trans (hb3.mono HBW2.out.size)⟩
theorem S7 {xs:List A9} (h:VS xs) (p k:Nat) (hp:p%16=0) (hk:k<16) (hs:(DO xs (p:Nat)).s=16):(DO xs ((p+k:Nat):Int)).s=16:=by
 cases hf:xs.find? (fun e=>I8 e (p:Nat)) with
 | none =>
  unfold DO at hs;rw[hf] at hs;cases hs
 | some e =>
  have hm:=List.mem_of_find?_eq_some hf;obtain⟨j,hj,he⟩:=List.getElem_of_mem hm;have he':AI A7 xs j=e:=by
   unfold AI;rw[List.getD_eq_getElem?_getD,List.getElem?_eq_getElem hj,he];rfl
  unfold DO at hs;rw[hf] at hs;have hs':(if DC e (p:Nat) then (16:Int) else 1)=16:=hs;have hb:DC e (p:Nat)=true:=by
   cases hbb:DC e (p:Nat)
   ·rw[hbb] at hs';cases hs'
   ·rfl
  have hb2:=hb;unfold DC at hb2;rw[Bool.and_eq_true,decide_eq_true_eq] at hb2;obtain⟨hh,b1,b2,b3⟩:=hb2;have e0:((p:Nat):Int)%16=0:=by omega
  rw[e0] at b1 b2 b3;have hat:DO xs ((p+k:Nat):Int)=IG (AI A7 xs j) ((p+k:Nat):Int):=by
   refine Mf _ xs j hj (fun i hi=>?_) ?_
   ·have:=h.lt i j hi hj;rw[he'] at this;unfold I8;exact decide_eq_false (by omega)
   ·rw[he'];unfold I8;exact decide_eq_true (by omega)
  rw[hat,he'];have hb3:DC e ((p+k:Nat):Int)=true:=by
   unfold DC;rw[Bool.and_eq_true,decide_eq_true_eq];(have e1:((p+k:Nat):Int)%16=k:=by omega);rw[e1];refine⟨hh,by omega,by omega,?_⟩;rw[show e.out+(((p+k:Nat):Int)-(k:Int))-e.page=e.out+((p:Int)-0)-e.page by omega];exact b3
  show (if DC e ((p+k:Nat):Int) then (16:Int) else 1)=16;rw[hb3];rfl
theorem Xg {xs:List A9} (h:VS xs) (p:Nat) (hp:p%16=0) (hp2:p+16<=4096) (hs:(lay xs p).s=16):nd (lay xs) 3 p=false:=by
 rw[LU xs p (by omega)] at hs;unfold nd;have e3:decide ((3:Nat)=1)=false:=rfl;rw[e3,Bool.false_or,List.any_eq_false];intro k hk;have hk':k<16:=List.mem_range.1 hk;unfold hB;rw[LU xs (p+k) (by omega),S7 h p k hp hk' hs];simp
theorem Gv {H:Nat->Ht} {n:Nat} {ps:List P3} (hn:0<n) (h:BO n ps) (hw:(AC H 256).length<=n) {q:P3} (hq:q∈AA H ps++DD H ps):∃F lv pg:Nat,q=⟨F,lv,pg⟩/\1<=lv/\lv<=3/\pg+ID lv<=4096/\nd H lv pg=true/\pg%ID lv=0/\F<n:=by
 rcases List.mem_append.1 hq with hq|hq
 ·obtain⟨h1,h2,h3⟩:=DM h hq;have hf:=h.fr (by omega) (BN.1 hq).1;obtain⟨c1,c2,c3,c4,_,c6⟩:=Bo h1;refine⟨q.fr.toNat,q.lv.toNat,q.pg.toNat,?_,c1,c2,c3,c4,c6,by omega⟩;obtain⟨a,b,c⟩:=q;simp only at h2 h3 hf ⊢;rw[h2,h3];simp only[P3.mk.injEq,and_true];omega
 ·obtain⟨j,hj,hj2,h1,h2,_,F,hF,hF2⟩:=Cx hn h hw _ (Nat.le_refl _) q hq;obtain⟨c1,c2,c3,c4,_,c6⟩:=Bo (List.getElem_mem hj2);refine⟨F,((AC H 256)[j]).1,((AC H 256)[j]).2,?_,c1,c2,c3,c4,c6,hF2⟩;obtain⟨a,b,c⟩:=q;simp only at h1 h2 hF;rw[h1,h2,hF]
theorem XU {xs:List A9} {zs:List Int} {n:Nat} {ps:List P3} (hv:VS xs) (hn:0<n) (hn2:n<=512) (hz:zs.length=n*16) (h:BO n ps) (hw:(AC (lay xs) 256).length<=n):U4 zs (lay xs) (AA (lay xs) ps) (DD (lay xs) ps):=by
 refine⟨⟨fun q hq=>?_,fun p hp hs=>?_,fun p=>?_⟩,RD (lay xs) (by omega) h,fun q hq=>?_,by omega,by omega⟩
 ·obtain⟨F,lv,pg,rfl,_⟩:=Gv hn h hw hq;exact Int.natCast_nonneg F
 ·refine Int.not_le.1 (fun h0=>?_);obtain⟨q,hq,e1,e2,_⟩:=CI h0;obtain⟨F,lv,pg,rfl,l1,l3,lp,hnd,hmod,_⟩:=Gv hn h hw hq;have e1':lv=3:=by have:(lv:Int)=3:=e1;omega
  have e2':pg=p:=by have:(pg:Int)=(p:Int):=e2;omega
  subst e1' e2';have t3:ID 3=16:=rfl;rw[t3] at lp hmod;rw[Xg hv pg hmod lp hs] at hnd;cases hnd
 ·refine Int.not_le.1 (fun h0=>?_);obtain⟨q,hq,e1,e2,_⟩:=CI h0;obtain⟨F,lv,pg,rfl,l1,l3,_⟩:=Gv hn h hw hq;have:(lv:Int)=4:=e1;omega
 ·obtain⟨F,lv,pg,rfl,_,_,_,_,_,hF⟩:=Gv hn h hw (List.mem_append_left _ hq);refine⟨Int.natCast_nonneg F,?_⟩;show (F:Int)*16+16<=_;omega
theorem S9 {xs:List A9} {zs:List Int} {n:Nat} {ps:List P3} {w0 w:World} {gp gz cz gl M cR cC:Nat} {aR aC:Option Addr} (hv:VS xs) (hn:0<n) (hn2:n<=512) (hz:zs.length=n*16) (hzr:∀i,0<=zs.getD i 0/\zs.getD i 0<18446744073709551616) (h:BO n ps) (hw:(AC (lay xs) 256).length<=n) (hs:SS w0 w gp gz cz gl M zs (lay xs) (BF (AA (lay xs) ps) (DD (lay xs) ps)) aR cR (DX (Cr (lay xs) ps) n) aC cC (DD (lay xs) ps)) : Ps w gp gz cz gl M zs (lay xs) n (AA (lay xs) ps) (Cr (lay xs) ps) (DD (lay xs) ps) aR aC cR (w0.heap.size+1) cC (w0.heap.size+1):=by
 refine⟨hs.pst,XU hv hn hn2 hz h hw,hzr,by have:=Nw (Cr (lay xs) ps) n;omega,hs.ret.cell,hs.ret.row,?_,fun q hq=>?_,hs.c3,hs.crow⟩
 ·have:=Gn (AA (lay xs) ps) (AC (lay xs) 256) _ (Nat.le_refl _);have:(DD (lay xs) ps).length<=(AC (lay xs) 256).length:=this;omega
 ·obtain⟨F,lv,pg,rfl,l1,l3,lp,_,_,hF⟩:=Gv hn h hw (List.mem_append_right _ hq);exact⟨F,lv,pg,rfl,l1,l3,lp,by omega⟩
theorem MW (zs:List Int) (n:Nat) (H:Nat->Ht) (ps:List P3):IE zs H n (AA H ps) (Cr H ps) (DD H ps) 5=C8 zs n H ps:=by
 rw[U8];rfl
theorem Mn (w:World) (B:Nat):A6 Ba w B (.slice none 0 0) []:=⟨by simp[AK],.inl ⟨rfl,rfl⟩⟩
theorem WI (m:Nat) (h:An m≠0):((m:Nat):Int)/16=An m:=by
 have:=(C5 m h).1;omega
set_option maxHeartbeats 4000000 in
theorem N6 (gz:Nat) (zs:List Int) (cz:Nat) (a:Option Addr) (cap b:Nat) (xs:List A9) (w:World) (hzl:zs.length<=1048576) (hcc:zs.length<=cz) (hzr:∀i,0<=zs.getD i 0/\zs.getD i 0<2 ^ 64) (hz:Ar w gz zs) (hn:xs.length<=1048576) (hwf:∀i,i<xs.length->O8 (AI A7 xs i)) (h:A6 A7 w b (.slice a xs.length cap) xs) : Calls Tryz.prog 25 #[.agg #[.slice (some ⟨gz,0,none⟩) zs.length cz],.slice a xs.length cap] w fun e w'=>DB w (Bt zs xs) e w':=by
 obtain⟨wb,hwb⟩:∃wb,wb=w.alloc (.cells #[.slice (some ⟨gz,0,none⟩) zs.length cz] 35):=⟨_,rfl⟩
 have hbb:Below w.heap.size w wb:=by rw[hwb];exact Ax
 have hzb:wb.heap.size=w.heap.size+1:=by rw[hwb];simp
 have q0:wb.cell? ⟨w.heap.size,0,none⟩=some (.slice (some ⟨gz,0,none⟩) zs.length cz):=by rw[hwb];simp[go_sem]
 have hpc:=Ka gz zs cz hzl hcc hzr wb (hz.below hbb hz.lt);unfold Bi at hpc;have HVS:Hid (∀wX,Below wb.heap.size wb wX->Calls Tryz.prog 39 #[.slice a xs.length cap] wX fun e w'=>e=.returned (.bool (FE xs))/\Below wX.heap.size wX w'):=A5 <| fun wX hX=>QX a cap b xs wX hn hwf (h.below (hbb.trans (hX.mono (by omega))))
 have HH:Hid (∀wX,VS xs->Below wb.heap.size wb wX->Calls Tryz.prog 83 #[.slice a xs.length cap] wX fun e w'=>e=.returned (.pointer (some ⟨wX.heap.size,0,none⟩))/\C9 w' wX.heap.size (lay xs)/\Below wX.heap.size wX w'):=fun wX hv hX=>Mq a cap b xs wX hn hv (h.below (hbb.trans (hX.mono (by omega))))
 have HWB:Hid (wb=_):=hwb;have HBB:Hid (Below w.heap.size w wb):=hbb;have HZB:Hid (wb.heap.size=w.heap.size+1):=hzb;have HQ0:Hid (wb.cell? ⟨w.heap.size,0,none⟩=some (.slice (some ⟨gz,0,none⟩) zs.length cz)):=q0;have HCZ:Hid (Ar w gz zs):=hz;have N0:w.heap.size<wb.heap.size:=by omega
 have hpl:=Cy zs;clear hwb hbb hzb q0 h hwf;by_cases hpt:BM zs=true
 ·rw[hpt] at hpc;by_cases hvb:FE xs=true
  ·rw[hvb] at HVS;have hvs:=VS.of_true hvb;have hnf:=EZ hpt;obtain⟨hnm,hn1⟩:=C5 zs.length hnf;have hnl:=Ek zs.length;have hnq:=WI zs.length hnf;(obtain⟨n,hnn⟩:∃n:Nat,An zs.length=n:=⟨(An zs.length).toNat,by omega⟩);by_cases hfr:An zs.length<((AC (lay xs) 256).length:Nat)
   ·rw[IR hpt hvb hfr];have dN:decide ((n:Int)<((AC (lay xs) 256).length:Int))=true:=decide_eq_true (by omega);have dN2:decide (n<(AC (lay xs) 256).length)=true:=decide_eq_true (by omega);(have pN:n<(AC (lay xs) 256).length:=by omega);rw[hnn] at hnq;clear hfr hnm hn1 hnl hnf hnn hpt hvb hzr hz;(go_enter Tryz.func25,Tryz.ntmps25);(go_wp2_with fail);rw[<- HWB.out];refine hpc.mono ?_;rintro e w1 ⟨ap,cp,rfl,hrp,hb1⟩;have hv:=HVS.out w1 hb1;have HB1:Hid (Below wb.heap.size wb w1):=hb1;clear hpc hrp hb1;(go_wp2_with fail);refine hv.mono ?_;rintro e w2 ⟨rfl,hb2⟩;have b2:Below wb.heap.size wb w2:=HB1.out.trans (hb2.mono HB1.out.size);have hh:=HH.out w2 hvs b2;have HB2:Hid (Below wb.heap.size wb w2):=b2;clear hv hb2 b2;(go_wp2_with fail);refine hh.mono ?_;rintro e w3 ⟨rfl,hl3,hb3⟩;have b3:Below wb.heap.size wb w3:=HB2.out.trans (hb3.mono HB2.out.size);have hse:=Mc _ _ w3 hl3;have HB3:Hid (Below wb.heap.size wb w3):=b3;clear hh hl3 hb3 b3;(go_wp2_with fail);refine hse.mono ?_;rintro e w4 ⟨gw,cw,rfl,hrw,hb4⟩;have b4:Below wb.heap.size wb w4:=HB3.out.trans (hb4.mono HB3.out.size);have m4:w4.cell? ⟨w.heap.size,0,none⟩=some (.slice (some ⟨gz,0,none⟩) zs.length cz):=(b4.cell (p:=⟨w.heap.size,0,none⟩) N0).trans HQ0.out;have HB4:Hid (Below w.heap.size w w4):=HBB.out.trans (b4.mono (by omega));clear hse hrw hb4 b4;(go_wp2_with fail);(go_ret2);exact⟨none,0,rfl,Mn _ _,HB4.out⟩
   ·rw[Ff hpt hvb hfr];have dN:decide ((n:Int)<((AC (lay xs) 256).length:Int))=false:=decide_eq_false (by omega);have dN2:decide (n<(AC (lay xs) 256).length)=false:=decide_eq_false (by omega);(have pN:¬n<(AC (lay xs) 256).length:=by omega);(have HPO:Hid (BO n (A8 zs)):=A5 <| by rw[<- hnn];exact GW zs hnf);(have hT:(An zs.length).toNat=n:=by rw[hnn];rfl);have HNZ:Hid (zs.length=n*16/\0<n/\n<=512/\(AC (lay xs) 256).length<=n):=A5 <| ⟨by omega,by omega,by omega,by omega⟩;have HZR:Hid (∀i,0<=zs.getD i 0/\zs.getD i 0<18446744073709551616):=hzr;rw[hT,<- MW];rw[hnn] at hnq;(obtain⟨ps,hps⟩:∃ps,A8 zs=ps:=⟨_,rfl⟩);rw[hps] at HPO hpl hpc ⊢;(obtain⟨XX,hXX⟩:∃XX,IE zs (lay xs) n (AA (lay xs) ps) (Cr (lay xs) ps) (DD (lay xs) ps) 5=XX:=⟨_,rfl⟩);rw[hXX];have HXX:Hid (IE zs (lay xs) n (AA (lay xs) ps) (Cr (lay xs) ps) (DD (lay xs) ps) 5=XX):=hXX;clear hXX;clear hfr hnm hn1 hnl hnf hnn hpt hvb hzr hz hT hps;(go_enter Tryz.func25,Tryz.ntmps25);(go_wp2_with fail);rw[<- HWB.out];refine hpc.mono ?_;rintro e w1 ⟨ap,cp,rfl,hrp,hb1⟩;have hv:=HVS.out w1 hb1;have HB1:Hid (Below wb.heap.size wb w1):=hb1;have HR1:Hid (Aa w1 wb.heap.size (.slice ap ps.length cp) ps):=hrp;clear hpc hrp hb1;(go_wp2_with fail);refine hv.mono ?_;rintro e w2 ⟨rfl,hb2⟩;have b2:Below wb.heap.size wb w2:=HB1.out.trans (hb2.mono HB1.out.size);have hh:=HH.out w2 hvs b2;have HB2:Hid (Below wb.heap.size wb w2):=b2;have HR2:Hid (Aa w2 wb.heap.size (.slice ap ps.length cp) ps):=HR1.out.below hb2;clear hv hb2 b2;(go_wp2_with fail);refine hh.mono ?_;rintro e w3 ⟨rfl,hl3,hb3⟩;have b3:Below wb.heap.size wb w3:=HB2.out.trans (hb3.mono HB2.out.size);have hse:=Mc _ _ w3 hl3;have HB3:Hid (Below wb.heap.size wb w3):=b3;have HR3:Hid (Aa w3 wb.heap.size (.slice ap ps.length cp) ps):=HR2.out.below hb3;have HL3:Hid (C9 w3 w2.heap.size (lay xs)):=hl3;clear hh hl3 hb3 b3;(go_wp2_with fail);refine hse.mono ?_;rintro e w4 ⟨gw,cw,rfl,hrw,hb4⟩;have b4:Below wb.heap.size wb w4:=HB3.out.trans (hb4.mono HB3.out.size);have m4:w4.cell? ⟨w.heap.size,0,none⟩=some (.slice (some ⟨gz,0,none⟩) zs.length cz):=(b4.cell (p:=⟨w.heap.size,0,none⟩) N0).trans HQ0.out;have HB4:Hid (Below w.heap.size w w4):=HBB.out.trans (b4.mono (by omega));have HR4:Hid (Aa w4 wb.heap.size (.slice ap ps.length cp) ps):=HR3.out.below hb4;have HL4:Hid (C9 w4 w2.heap.size (lay xs)):=HL3.out.below hb4;have HW4:Hid (A6 Ca w4 w3.heap.size (.slice (some ⟨gw,0,none⟩) (AC (lay xs) 256).length cw) (AC (lay xs) 256)):=hrw;(obtain⟨wP,hwP⟩:∃wP,wP=(w4.alloc (.map #[] 0)).alloc (.cells #[.slice (some ⟨gz,0,none⟩) zs.length cz,.pointer (some ⟨w2.heap.size,0,none⟩),.map (some w4.heap.size),.slice none 0 0,.slice none 0 0] 162):=⟨_,rfl⟩);(have hbP:Below w4.heap.size w4 wP:=by rw[hwP];exact((Below.refl _ _).alloc (Nat.le_refl _) _).alloc (by simp) _);(have hzP:wP.heap.size=w4.heap.size+2:=by rw[hwP];simp);have hl4:=HL4.out.lt;have hw4:w.heap.size<=w4.heap.size:=HB4.out.size;have hgz:=HCZ.out.lt;have hN:=HNZ.out;have hsep:TD wP (w4.heap.size+1) gz w2.heap.size w4.heap.size:=⟨by omega,by omega,by omega,by omega,by omega,by omega,by omega,by omega,by omega⟩;have hpst:Iu wP (w4.heap.size+1) gz cz w2.heap.size w4.heap.size zs (lay xs) []:=by
     refine⟨by omega,by rw[hwP];simp[go_sem],by rw[hwP];simp[go_sem],by rw[hwP];simp[go_sem],HCZ.out.below (HB4.out.trans (hbP.mono hw4)) hgz,HL4.out.below hbP,?_⟩;have hm:=Ck.new w4;refine hm.of_block ?_;rw[hwP];exact Below.heap_alloc _ _ _ (by simp)
    have hset:=QP (w4.heap.size+1) gz cz w2.heap.size w4.heap.size zs (lay xs) n ps ap cp wb.heap.size gw cw w3.heap.size wP hsep hpst (by rw[hwP];simp[go_sem]) (by rw[hwP];simp[go_sem]) (fun i=>by rw[hwP];simp[go_sem]) hN.1 hN.2.1 hN.2.2.1 HPO.out (by omega) hN.2.2.2 (HR4.out.below hbP) (fun k hk hh=>by
     have h9:=World.ownsRow.lt HR4.out k (by rw[CS];exact hk)
     omega) (HW4.out.below hbP) (fun hh=>by
     have h9:=(HW4.out.own gw rfl).2
     omega)
    have HPG:Hid (∀w5 aR cR aC cC,SS wP w5 (w4.heap.size+1) gz cz w2.heap.size w4.heap.size zs (lay xs) (BF (AA (lay xs) ps) (DD (lay xs) ps)) aR cR (DX (Cr (lay xs) ps) n) aC cC (DD (lay xs) ps)->Calls Tryz.prog 86 #[.pointer (some ⟨w4.heap.size+1,0,none⟩)] w5 fun r w'=>∃a c,r=.returned (.slice a XX.length c)/\A6 Ba w' w5.heap.size (.slice a XX.length c) XX/\Below w5.heap.size w5 w'):=A5 <| fun w5 aR cR aC cC hS=>by
     have h9:=Ou w5 _ gz cz _ _ zs (lay xs) n _ _ _ aR aC cR _ cC _ (S9 hvs hN.2.1 hN.2.2.1 hN.1 HZR.out HPO.out hN.2.2.2 hS);rw[HXX.out] at h9;exact h9
    have HWP:Hid (wP=_):=hwP;have HBP:Hid (Below w.heap.size w wP):=HB4.out.trans (hbP.mono hw4);have hmk:(Instr.makeMap 158 none).run Tryz.prog w4=.ok (.map (some w4.heap.size)) (w4.alloc (.map #[] 0)):=rfl;clear hse hrw hb4 b4 hwP hbP hzP hsep hpst hN HH HVS;(go_wp2_with fail);rw[<- HWP.out];refine hset.mono ?_;rintro e w5 ⟨rfl,aR,cR,aC,cC,hS⟩;have hpg:=HPG.out w5 aR cR aC cC hS;have HB5:Hid (Below w.heap.size w w5):=A5 <| ((BJ.of_below (S:=fun k=>w.heap.size<=k) HBP.out).then hS.tch (fun k hk hh=>by rcases hh with e|e<;>omega)).below (fun k hk hh=>by omega);clear hset hS HPG;(go_wp2_with fail);refine hpg.mono ?_;rintro e w6 ⟨a6,c6,rfl,hr6,hb6⟩;clear hpg;have HF:Hid (DB w (XX,0) (.returned (.tuple #[.slice a6 XX.length c6,.int .i64 0])) w6):=A5 <| ⟨a6,c6,rfl,hr6.rebase HB5.out.size,HB5.out.trans (hb6.mono HB5.out.size)⟩;clear hr6 hb6;(go_wp2_with fail);(go_ret2);exact HF.out
  ·(have hvb':FE xs=false:=by simpa using hvb);rw[Iq hpt hvb'];rw[hvb'] at HVS;clear hvb hvb' hpt hzr hz HH;(go_enter Tryz.func25,Tryz.ntmps25);(go_wp2_with fail);rw[<- HWB.out];refine hpc.mono ?_;rintro e w1 ⟨ap,cp,rfl,hrp,hb1⟩;have hv:=HVS.out w1 hb1;have HB1:Hid (Below wb.heap.size wb w1):=hb1;clear hpc hrp hb1;(go_wp2_with fail);refine hv.mono ?_;rintro e w2 ⟨rfl,hb2⟩;have HB2:Hid (Below w.heap.size w w2):=HBB.out.trans ((HB1.out.trans (hb2.mono HB1.out.size)).mono (by omega));clear hv hb2;(go_wp2_with fail);(go_ret2);exact⟨none,0,rfl,Mn _ _,HB2.out⟩
 ·have hpt':BM zs=false:=by simpa using hpt
  rw[IK hpt'];rw[hpt'] at hpc;clear hpt hpt' hzr hz HH HVS;go_enter Tryz.func25,Tryz.ntmps25
  go_wp2_with fail
  rw[<- HWB.out];refine hpc.mono ?_;rintro e w1 ⟨ap,cp,rfl,hrp,hb1⟩;have HB1:Hid (Below w.heap.size w w1):=HBB.out.trans (hb1.mono (by omega));clear hpc hrp hb1;go_wp2_with fail
  go_ret2
  exact⟨none,0,rfl,Mn _ _,HB1.out⟩
end Go.Proofs.YtnmhkgmmpkjjeaaGreat
