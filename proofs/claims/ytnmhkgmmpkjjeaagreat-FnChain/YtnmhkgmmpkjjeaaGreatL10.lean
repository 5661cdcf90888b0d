import Derived.Test.YtnmhkgmmpkjjeaaGreatL08
import Derived.Test.YtnmhkgmmpkjjeaaGreatL09
namespace Go.Proofs.YtnmhkgmmpkjjeaaGreat
open Go.ChangeShapes Go.WideShapes Go.ChangeAt Go.RowKit
set_option linter.unusedVariables false
theorem KJ (zs:List Int) (hz:D3 zs):Ss zs (A5 zs):=by
 have hm:=BS zs.length hz.n0;refine⟨DZ zs,?_,?_⟩
 ·unfold A5;rw[if_neg hz.n0];simp[Ak,Af]
 ·intro i hi;have hmem:Ag (A5 zs) i∈A5 zs:=by
   unfold Ag;rw[List.getD_eq_getElem?_getD,List.getElem?_eq_getElem hi];exact List.getElem_mem hi
  have e:A5 zs=Ak zs (Ae zs.length) 2 ⟨0,1,0⟩:=by unfold A5;rw[if_neg hz.n0]
  rw[e] at hmem;obtain⟨d',h⟩:=Ip 2 ⟨0,1,0⟩ ⟨rfl,by simp,by simp,by show (0:Int)<_;omega,by simp,by simp⟩ _ hmem;obtain⟨_,_,a,b,_,_⟩:=h;refine⟨(Ag (A5 zs) i).fr.toNat,?_,?_⟩
  ·rw[e];omega
  ·rw[e];omega
theorem PE (zs:List Int) (hz:D3 zs):Vi zs 2 ⟨0,1,0⟩:=by
 have hm:=BS zs.length hz.n0;exact⟨rfl,by simp,by simp,by show (0:Int)<_;omega,by simp,by simp⟩
def Ca (zs:List Int) (w:World) (e:Ending) (w':World):Prop :=
 ∃a c',e=.returned (.tuple #[.slice a (A5 zs).length c',.bool (BO zs)])/\Ab w' w.heap.size (.slice a (A5 zs).length c') (A5 zs)/\Below w.heap.size w w'
theorem G9 (g:Nat) (zs:List Int) (c:Nat) (hn:zs.length<=1048576) (hr:∀i,0<=zs.getD i 0/\zs.getD i 0<2 ^ 64) (w:World) (hg:At w g zs) : Calls Tryz.prog 21 #[.agg #[.slice (some ⟨g,0,none⟩) zs.length c]] w fun e w'=>Ca zs w e w':=by
 unfold Ca BO;by_cases h0:Ae zs.length=0
 ·have e:A5 zs=[]:=by unfold A5;rw[if_pos h0]
  rw[e];simp only[h0,decide_true,Bool.not_true,Bool.false_and];exact L8 g zs.length c hn h0 w
 ·have hz:D3 zs:=⟨h0,hr⟩;have hm:=BS zs.length h0;have hle:=D9 zs.length;have e:A5 zs=Ak zs (Ae zs.length) 2 ⟨0,1,0⟩:=by unfold A5;rw[if_neg h0]
  simp only[h0,decide_false,Bool.not_false,Bool.true_and];refine Jy g zs c (Ae zs.length) (A5 zs) rfl h0 (by omega) (KJ zs hz) ?_ ?_ w hg
  ·intro i k hi hk w;exact Bt _ _ (hr _).1 (hr _).2 w
  ·intro w hg;have:=Gp g zs c hz 2 (by omega) ⟨0,1,0⟩ w (PE zs hz) hg;rw[<- e] at this;exact this
theorem Fd (g:Nat) (zs:List Int) (c:Nat) (hz:D3 zs) (hcc:zs.length<=c) (w:World) (hg:At w g zs) : Calls Tryz.prog 88 #[.agg #[.slice (some ⟨g,0,none⟩) zs.length c]] w fun e w'=>∃g' c',e=.returned (.slice (some ⟨g',0,none⟩) (A5 zs).length c')/\Ab w' w.heap.size (.slice (some ⟨g',0,none⟩) (A5 zs).length c') (A5 zs)/\Below w.heap.size w w':=by
 have e:A5 zs=Ak zs (Ae zs.length) 2 ⟨0,1,0⟩:=by unfold A5;rw[if_neg hz.n0]
 have hadd:=J6 g zs c hz hcc w.heap.size hg.lt 2 (by omega) ⟨0,1,0⟩ (.slice none 0 0) [];rw[<- e] at hadd;have hok:=PE zs hz;generalize A5 zs=ps at *;obtain⟨wb,hwb⟩:∃wb,wb=w.alloc (.cells #[.slice (some ⟨g,0,none⟩) zs.length c] 35):=⟨_,rfl⟩
 have hbb:Below w.heap.size w wb:=by rw[hwb];exact(Below.refl _ _).alloc (Nat.le_refl _) _
 have hzb:wb.heap.size=w.heap.size+1:=by rw[hwb];simp
 have h1:=hadd wb hok (hg.below hbb hg.lt) (by omega) (by simp) (World.ownsRow_nil _ _ _ _);have HBB:Hid (Below _ _ _):=hbb;have HWB:Hid (wb=_):=hwb;rw[hwb] at h1;clear hadd hbb hwb e hok hz;go_enter Tryz.func88,Tryz.ntmps88
 go_wp2_with fail
 refine h1.mono ?_;rintro e w2 ⟨g2,c2,rfl,hp2,hgr2,_⟩;have hgr2':wb.grownBy w2 none:=by rw[HWB.out];exact hgr2
 have hb2:Below wb.heap.size wb w2:=⟨hgr2'.os,hgr2'.tape,hgr2'.output,hgr2'.size,fun k hk=>hgr2'.block k hk (by simp)⟩;have HP2:Hid (Ab _ _ _ _):=hp2;have HB2:Hid (Below w.heap.size w w2):=HBB.out.trans (hb2.mono (by omega));clear hgr2 hgr2' hb2 hp2 h1;go_wp2_with fail
 go_ret;exact⟨g2,c2,rfl,HP2.out,HB2.out⟩
def Ai:Dc Int:=⟨3,1,fun x=>[.int .i64 x],0,by omega,fun _=>rfl⟩
theorem U6:(Tryz.prog.info? 3).map (fun i=>(i.zero,i.size,i.bytes))=some (some (.int .i64 0),1,8):=by kernel_rfl
theorem Fn {w:World} {b g c:Nat} {xs:List Int} (h:A6 Ai w b (.slice (some ⟨g,0,none⟩) xs.length c) xs) (i:Nat) (hi:i<xs.length):g<w.heap.size/\w.cell? ⟨g,i,none⟩=some (.int .i64 (AI Ai xs i)):=by
 obtain⟨a,c',e,h1⟩:=h.form;obtain⟨g',N,f,e2,_,hr,hN,hf⟩:=h1 (by omega);have hN':xs.length*1<=N:=hN;simp only[Value.slice.injEq] at e;obtain⟨e,_,_⟩:=e;rw[e2] at e;simp only[Option.some.injEq,Addr.mk.injEq,and_true] at e;subst e;have h5:=hf i hi 0 (by decide);have e5:i*Ai.sz+0=i:=by show i*1+0=i;omega
 rw[e5] at h5;exact⟨hr.lt,by rw[hr.cell (i:=i) (by omega)];exact congrArg some h5⟩
end Go.Proofs.YtnmhkgmmpkjjeaaGreat
namespace Go.Proofs.YtnmhkgmmpkjjeaaGreat
open Go.ChangeShapes Go.WideShapes Go.ChangeAt Go.RowKit
set_option linter.unusedVariables false
attribute [local go_sem ↓] Go.wp_at_zero Go.wp_at_succ
set_option maxHeartbeats 1000000 in
theorem RI (g:Nat) (zs:List Int) (c:Nat) (p:P3) (F:Nat) (hF:p.fr=F) (hF2:F*16+16<=zs.length) (hlen:zs.length<=8192) (hcc:zs.length<=c) (n:Int) (hn:n*16=zs.length) (hd:∀i,i<16->∀w,Calls Tryz.prog 151 #[.int .i64 p.lv,.int .u64 (A7 zs p.fr i)] w fun e w'=>e=.returned (.agg #[.int .i64 (AJ p.lv (A7 zs p.fr i)),.int .i64 (AV p.lv (A7 zs p.fr i)),.int .i64 (B6 p.lv (A7 zs p.fr i))])/\Below w.heap.size w w') (w:World) (hg:At w g zs) : Calls Tryz.prog 149 #[.agg #[.slice (some ⟨g,0,none⟩) zs.length c],.agg #[.int .i64 p.fr,.int .i64 p.lv,.int .i64 p.pg]] w fun e w'=>e=.returned (.bool (Cn zs n p))/\Below w.heap.size w w':=by
 obtain⟨w2,hw2⟩:∃w2,w2=(w.alloc (.cells #[.slice (some ⟨g,0,none⟩) zs.length c] 35)).alloc (.cells #[.int .i64 p.fr,.int .i64 p.lv,.int .i64 p.pg] 67):=⟨_,rfl⟩
 have hz2:w2.heap.size=w.heap.size+2:=by rw[hw2];simp
 have hb2:Below w.heap.size w w2:=by rw[hw2];exact((Below.refl _ _).alloc (Nat.le_refl _) _).alloc (by simp) _
 have q0:w2.cell? ⟨w.heap.size,0,none⟩=some (.slice (some ⟨g,0,none⟩) zs.length c):=by rw[hw2];simp[go_sem]
 have q2:w2.cell? ⟨w.heap.size+1,1,none⟩=some (.int .i64 p.lv):=by rw[hw2];simp[go_sem]
 have htab:=JC g zs c F hF2 hlen hcc w2 (hg.below hb2 hg.lt);rw[hw2,<- hF] at htab;have HQ:Hid (w2.cell? ⟨w.heap.size,0,none⟩=some (.slice (some ⟨g,0,none⟩) zs.length c)/\w2.cell? ⟨w.heap.size+1,1,none⟩=some (.int .i64 p.lv)):=⟨q0,q2⟩;have HZ:Hid (w2.heap.size=w.heap.size+2):=hz2;have HW2:Hid (w2=_):=hw2;have HB2:Hid (Below _ _ _):=hb2;have HD:Hid _:=hd;have HF:Hid (p.fr=F):=hF;clear hz2 hw2 hb2 q0 q2 hd hF hg;go_enter Tryz.func149,Tryz.ntmps149
 go_wp2_with fail
 refine htab.mono ?_;rintro e wt ⟨⟨T,rfl,hTs,hT⟩,hbt⟩;have hbt2:Below w2.heap.size w2 wt:=by rw[HW2.out];exact hbt
 have HT:Hid _:=hT;clear htab hT hTs hbt;go_wp2_with fail
 go_loopw [12] (fun iv wr=>∃k:Nat,k<=16/\iv=.int .i64 k/\(List.range k).all (D7 zs n p)=true/\Below w2.heap.size w2 wr) (fun iv _=>16-(intOf iv).toNat)
 case atStart=>exact⟨0,by omega,rfl,rfl,hbt2⟩
 case round =>
  obtain⟨k,hk,rfl,hall,hb⟩:=hrel;have hsz:=hb.size;have hz:=HZ.out;by_cases hlt:k<16
  ·obtain⟨q0,q2⟩:=HQ.out;have c0:=(hb.cell (p:=⟨w.heap.size,0,none⟩) (by simp;omega)).trans q0;have c2:=(hb.cell (p:=⟨w.heap.size+1,1,none⟩) (by simp;omega)).trans q2;have hTk:=HT.out k hlt;(have ew:zs.getD (F*16+k) 0=A7 zs p.fr k:=by simp[A7,HF.out];congr 1);rw[ew] at hTk;have hdk:=HD.out k hlt;have dO:=Cd p.lv (A7 zs p.fr k);have hsw:=Ei (D7 zs n p) k;rw[hall,Bool.true_and] at hsw;(have hfa:D7 zs n p k=false->Cn zs n p=false:=fun h=>by rw[Cn,EI _ k 16 hlt h]);have hsk:D7 zs n p k=!(decide (AJ p.lv (A7 zs p.fr k)=4)||(decide (AJ p.lv (A7 zs p.fr k)=1)&&decide (n<=AV p.lv (A7 zs p.fr k)))):=rfl;have HSW:Hid _:=hsw;have HFA:Hid _:=hfa;have HBk:Hid (Below _ _ _):=hb;(have N0:w.heap.size+2<=wr.heap.size:=by omega);clear ew hsw hfa hall hb q0 q2 hz hsz hbt2;generalize A7 zs p.fr k=X at *;generalize AJ p.lv X=K at *;generalize AV p.lv X=O at *;generalize B6 p.lv X=M at *;have HSK:Hid _:=hsk;have hix:=Gr T k hlt X hTk;have hfr:=Ft (some ⟨g,0,none⟩) zs.length c O n hn dO.1 hlen;(have L1:(0:Int)<=(k:Int):=by omega);(have L2:(k:Int)<16:=by omega);clear hsk hTk;(go_wp2_with fail);refine(hdk wr).mono ?_;rintro e w1 ⟨rfl,hb1⟩;have hs1:=hb1.size;have e0:=(hb1.cell (p:=⟨w.heap.size,0,none⟩) (by simp;omega)).trans c0;(have N1:w.heap.size<w1.heap.size:=by omega);have hbw:Below w2.heap.size w2 (w1.alloc (.cells #[.int .i64 K,.int .i64 O,.int .i64 M] 126)):=(HBk.out.trans (hb1.mono HBk.out.size)).alloc (by have:=HBk.out.size;omega) _;have HBW:Hid (Below _ _ _):=hbw;clear c0 c2 hdk hix hb1 hbw;by_cases hK4:K=4
   ·subst hK4;have HFA2:Hid (Cn zs n p=false):=HFA.out (by rw[HSK.out];simp);clear HFA HSW HSK;(go_wp2_with fail);go_ret;exact⟨by rw[HFA2.out];rfl,HB2.out.trans (HBW.out.mono (by have:=HZ.out;omega))⟩
   ·by_cases hK1:K=1
    ·subst hK1;by_cases hO:O<n
     ·(have hO':decide (O<n)=true:=by simpa using hO);rw[hO'] at hfr;have HST:Hid ((List.range (k+1)).all (D7 zs n p)=true):=by
       exact(show _=true by rw[HSW.out,HSK.out];simp;omega)
      clear HFA HSW HSK;(go_wp2_with (go_at_call 155;refine(hfr _).mono ?_;rintro e w4 ⟨rfl,hb4⟩));go_roundw;(case rel=>exact⟨k+1,by omega,by go_num,HST.out,HBW.out.trans (hb4.mono (by have:=HBW.out.size;omega))⟩);case measure=>simp[intOf];omega
     ·(have hO':decide (O<n)=false:=by simpa using hO);rw[hO'] at hfr;have HFA2:Hid (Cn zs n p=false):=HFA.out (by rw[HSK.out];simp;omega);clear HFA HSW HSK;(go_wp2_with (go_at_call 155;refine(hfr _).mono ?_;rintro e w4 ⟨rfl,hb4⟩));go_ret;exact⟨by rw[HFA2.out];rfl,HB2.out.trans ((HBW.out.trans (hb4.mono (by have:=HBW.out.size;omega))).mono (by have:=HZ.out;omega))⟩
    ·(have hK4':(K==4)=false:=by simpa using hK4);(have hK1':(K==1)=false:=by simpa using hK1);have HST:Hid ((List.range (k+1)).all (D7 zs n p)=true):=by
      exact(show _=true by rw[HSW.out,HSK.out];simp[hK4,hK1])
     clear HFA HSW HSK;(go_wp2_with fail);go_roundw;(case rel=>exact⟨k+1,by omega,by go_num,HST.out,HBW.out⟩);case measure=>simp[intOf];omega
  ·(have e:k=16:=by omega);subst e;have hS:Cn zs n p=true:=hall;have HS:Hid _:=hS;clear hS hall;(go_wp2_with fail);go_ret;exact⟨by rw[HS.out];rfl,HB2.out.trans (hb.mono (by omega))⟩
theorem Mt:Tryz.zeroCells237=Array.replicate 512 (.bool false):=by kernel_rfl
def JP (ps:List P3) (i:Nat) (f:Nat):Bool:=(List.range i).any fun j=>decide ((Ag ps j).fr=(f:Int))
theorem S3 (ps:List P3) (i f:Nat):JP ps (i+1) f=(JP ps i f||decide ((Ag ps i).fr=(f:Int))):=by
 simp[JP,List.range_succ,List.any_append]
theorem Oy (ps:List P3) (i F:Nat) (h:(Ag ps i).fr=F):EO ps i=!JP ps i F:=by
 simp only[EO,JP,h,List.not_any_eq_all_not];congr 1;funext j;by_cases e:(F:Int)=(Ag ps j).fr
 ·simp[e]
 ·simp[e];exact fun h=>e h.symm
set_option maxHeartbeats 1000000 in
set_option maxRecDepth 100000 in
theorem Q4 (g:Nat) (zs:List Int) (c:Nat) (ps:List P3) (hps:Ss zs ps) (hlen:zs.length<=8192) (hcc:zs.length<=c) (n:Int) (hn:n*16=zs.length) (hsd:∀i w,i<ps.length->At w g zs->Calls Tryz.prog 149 #[.agg #[.slice (some ⟨g,0,none⟩) zs.length c],.agg #[.int .i64 (Ag ps i).fr,.int .i64 (Ag ps i).lv,.int .i64 (Ag ps i).pg]] w fun e w'=>e=.returned (.bool (Cn zs n (Ag ps i)))/\Below w.heap.size w w') (v:Value) (bv:Nat) (w:World) (hg:At w g zs) (hv:Ab w bv v ps) : Calls Tryz.prog 89 #[.agg #[.slice (some ⟨g,0,none⟩) zs.length c],v] w fun e w'=>e=.returned (.bool (Bg zs n ps ps.length))/\Below w.heap.size w w':=by
 obtain⟨a3,c3,rfl,hform⟩:=hv.form;obtain⟨gp,N,f,rfl,_,hrw,hN,hpa⟩:=hform hps.pos;have hpl:=hps.le;obtain⟨wb,hwb⟩:∃wb,wb=w.alloc (.cells #[.slice (some ⟨g,0,none⟩) zs.length c] 35):=⟨_,rfl⟩
 have hzb:wb.heap.size=w.heap.size+1:=by rw[hwb];simp
 have hbb:Below w.heap.size w wb:=by rw[hwb];exact(Below.refl _ _).alloc (Nat.le_refl _) _
 have qb:wb.cell? ⟨w.heap.size,0,none⟩=some (.slice (some ⟨g,0,none⟩) zs.length c):=by rw[hwb];simp[go_sem]
 have HPR:Hid (w.rowIs gp 67 N f/\ps.length*3<=N/\∀i,i<ps.length->f (i*3)=.int .i64 (Ag ps i).fr/\f (i*3+1)=.int .i64 (Ag ps i).lv/\f (i*3+2)=.int .i64 (Ag ps i).pg):=⟨hrw,hN,hpa⟩;have HG:Hid (At w g zs):=hg;have HPS:Hid (Ss zs ps):=hps;have HSD:Hid _:=hsd;have HWB:Hid (wb=_):=hwb;have HZB:Hid (wb.heap.size=w.heap.size+1):=hzb;have HBB:Hid (Below _ _ _):=hbb;have HQB:Hid (wb.cell? ⟨w.heap.size,0,none⟩=some (.slice (some ⟨g,0,none⟩) zs.length c)):=qb;clear hv hform hrw hN hpa hg hps hsd hwb hzb hbb qb;go_enter Tryz.func89,Tryz.ntmps89
 go_wp2_with fail
 go_loopw [10] (fun iv wr=>∃i:Nat,i<=ps.length/\iv=.int .i64 i/\Bg zs n ps i=true/\wr.rowIs (w.heap.size+1) 237 512 (fun q=>.bool (JP ps i q))/\Below (w.heap.size+1) wb wr) (fun iv _=>ps.length-(intOf iv).toNat)
 case atStart =>
  refine⟨0,Nat.zero_le _,rfl,rfl,?_,?_⟩
  ·have h:=World.rowIs_alloc wb Tryz.zeroCells237 237 (fun q=>.bool (JP ps 0 q)) (by
    intro i hi
    rw[Mt] at hi ⊢
    rw[Array.getElem?_eq_getElem hi]
    simp[JP])
   rw[HZB.out,HWB.out] at h;rw[Mt,Array.size_replicate] at h;rw[Mt];exact h
  ·rw[HWB.out];exact(Below.refl (w.heap.size+1) _).alloc (by simp) _
 case round =>
  obtain⟨i,hi,rfl,htr,hrch,hb⟩:=hrel;by_cases hlt:i<ps.length
  ·obtain⟨hrw,hN,hpa⟩:=HPR.out;obtain⟨F,hF,hF2⟩:=HPS.out.ok i hlt;have hbw:Below w.heap.size w wr:=HBB.out.trans (hb.mono (by omega));have hr1:wr.rowIs gp _ N f:=hrw.of_block (hbw.block gp hrw.lt);obtain⟨x1,x2,x3⟩:=hpa i hlt;have k1:=hr1.cell (i:=i*3) (by omega);have k2:=hr1.cell (i:=i*3+1) (by omega);have k3:=hr1.cell (i:=i*3+2) (by omega);rw[x1,hF] at k1;rw[x2] at k2;rw[x3] at k3;have hgr:At wr g zs:=HG.out.below hbw HG.out.lt;have c0:=(hb.cell (p:=⟨w.heap.size,0,none⟩) (by simp)).trans HQB.out;have rF:=hrch.cell (i:=F) (by omega);have fF:=hrch.frozen F;have hsd:=HSD.out i;rw[hF] at hsd;have hfs:=Oy ps i F hF;have hsu:=JI zs n ps i;rw[htr,Bool.true_and,hfs] at hsu;have htf:(EO ps i&&Cn zs n (Ag ps i))=false->Bg zs n ps ps.length=false:=Fr zs n ps i _ hlt;rw[hfs] at htf;(have hss:∀q,JP ps (i+1) q=(JP ps i q||decide ((F:Int)=(q:Int))):=fun q=>by rw[S3,hF]);have hrl:=hrch.lt;have HRCH:Hid (wr.rowIs (w.heap.size+1) _ 512 _):=hrch;have HB:Hid (Below (w.heap.size+1) wb wr):=hb;have HSS:Hid _:=hss;have HSU:Hid _:=hsu;have HTF:Hid _:=htf;have HGR:Hid (At _ _ _):=hgr;have HSDI:Hid _:=hsd;(have I1:(0:Int)<=(i:Int):=by omega);(have I2:(i:Int)<(ps.length:Int):=by omega);(have F1:(F:Int)<512:=by omega);(have N1:w.heap.size<wr.heap.size:=by omega);clear hrw hpa x1 x2 x3 hr1 hgr hsd hfs hsu htf hss hrch hb hbw htr hF HPR HSD;generalize (Ag ps i).lv=L at *;generalize (Ag ps i).pg=G at *;generalize Cn zs n (Ag ps i)=S at *;cases hsn:JP ps i F
   ·rw[hsn] at rF;(go_wp2_with fail);refine(HSDI.out _ hlt ?_).mono ?_
    ·exact HGR.out.of_block (Below.heap_alloc _ _ _ HGR.out.lt)
    rintro e w4 ⟨rfl,hb4⟩;have hs4:=hb4.size;simp at hs4;have hrow4:w4.rowIs (w.heap.size+1) 237 512 (fun q=>.bool (JP ps i q)):=(HRCH.out.alloc (.cells #[.int .i64 F,.int .i64 L,.int .i64 G] 67)).of_block (hb4.block _ (by simp;omega));have hb5:Below (w.heap.size+1) wb w4:=(HB.out.alloc (by omega) (.cells #[.int .i64 F,.int .i64 L,.int .i64 G] 67)).trans (hb4.mono (by simp;omega));(have p1:w4.cell? ⟨wr.heap.size,0,none⟩=some (.int .i64 F):=by rw[hb4.cell (by simp)];simp[go_sem]);have r1:=hrow4.cell (i:=F) (by omega);have f1:=hrow4.frozen F;have HR4:Hid (w4.rowIs (w.heap.size+1) _ 512 _):=hrow4;have HB5:Hid (Below _ wb w4):=hb5;clear hrow4 hb5 hb4 k1 k2 k3 c0 rF fF;cases S
    ·have HFA2:Hid (Bg zs n ps ps.length=false):=HTF.out (by simp);(go_wp2_with fail);go_ret;exact⟨by rw[HFA2.out];rfl,HBB.out.trans (HB5.out.mono (by omega))⟩
    ·have HT2:Hid (Bg zs n ps (i+1)=true):=by
      exact(show _=true by rw[HSU.out,hsn];rfl)
     clear hsn;(go_wp2_with fail);go_roundw;case rel =>
      refine⟨i+1,by omega,by go_num,HT2.out,?_,HB5.out.setCell (by simp) _⟩;refine(HR4.out.set F _).congr ?_;intro q hq;rw[HSS.out q];by_cases e:q=F
      ·subst e;simp
      ·rw[if_neg e];simp[show ¬(F:Int)=(q:Int) by omega]
     case measure=>simp[intOf];omega
   ·rw[hsn] at rF;have HFA2:Hid (Bg zs n ps ps.length=false):=HTF.out (by rw[hsn];rfl);clear hsn;(go_wp2_with fail);go_ret;exact⟨by rw[HFA2.out];rfl,HBB.out.trans ((HB.out.mono (by omega)).alloc (by omega) _)⟩
  ·(have e:i=ps.length:=by omega);subst e;have HT:Hid _:=htr;clear htr;(go_wp2_with fail);go_ret;exact⟨by rw[HT.out];rfl,HBB.out.trans (hb.mono (by omega))⟩
theorem Kc (g:Nat) (zs:List Int) (c:Nat) (hn:zs.length<=1048576) (hcc:zs.length<=c) (hr:∀i,0<=zs.getD i 0/\zs.getD i 0<2 ^ 64) (w:World) (hg:At w g zs) : Calls Tryz.prog 26 #[.agg #[.slice (some ⟨g,0,none⟩) zs.length c]] w fun e w'=>Ca zs w e w':=by
 have hvm:=La (some ⟨g,0,none⟩) zs.length c (by omega);by_cases h0:Ae zs.length=0
 ·have e:A5 zs=[]:=by unfold A5;rw[if_pos h0]
  have et:BO zs=false:=by unfold BO;simp[h0]
  unfold Ca;rw[e,et];simp only[h0,decide_true,Bool.not_true] at hvm;clear h0 e et;go_enter Tryz.func26,Tryz.ntmps26
  go_wp2_with (go_at_call 87;refine(hvm _).mono ?_;rintro e w1 ⟨rfl,hb1⟩)
  go_ret2
  exact⟨_,_,rfl,World.ownsRow_nil _ _ _ _,((Below.refl _ _).alloc (Nat.le_refl _) _).trans (hb1.mono (by simp))⟩
 ·have hz:D3 zs:=⟨h0,hr⟩;have hm:=BS zs.length h0;have hle:=D9 zs.length;have e:A5 zs=Ak zs (Ae zs.length) 2 ⟨0,1,0⟩:=by unfold A5;rw[if_neg h0]
  have et:BO zs=Bg zs (Ae zs.length) (A5 zs) (A5 zs).length:=by unfold BO;simp[h0]
  have hps:=KJ zs hz;have hadd:=Fd g zs c hz hcc
  have htree:=Q4 g zs c (A5 zs) hps (by omega) hcc (Ae zs.length) hm.1 (by
   intro i w hi hg
   obtain⟨F,hF,hF2⟩:=hps.ok i hi
   exact RI g zs c (Ag (A5 zs) i) F hF hF2 (by omega) hcc (Ae zs.length) hm.1 (fun i hi w=>Cb _ _ (hr _).1 (hr _).2 w) w hg)
  rw[<- et] at htree;unfold Ca;simp only[h0,decide_false,Bool.not_false] at hvm;generalize BO zs=tr at *;generalize A5 zs=ps at *;clear e et hps hm hle hz h0;go_enter Tryz.func26,Tryz.ntmps26
  go_wp2_with (go_at_call 87;refine(hvm _).mono ?_;rintro e w1 ⟨rfl,hb1⟩;obtain⟨hc1,hf1⟩:=JB hb1)
  have hs1:=hb1.size;simp at hs1;have hbw1:Below w.heap.size w w1:=((Below.refl _ _).alloc (Nat.le_refl _) _).trans (hb1.mono (by simp));refine(hadd w1 (hg.below hbw1 hg.lt)).mono ?_;rintro e w2 ⟨g2,c2,rfl,hp2',hb2⟩;have hp2:Ab w2 w.heap.size (.slice (some ⟨g2,0,none⟩) ps.length c2) ps:=hp2'.rebase (by omega);have hbx:w2.cell? ⟨w.heap.size,0,none⟩=some (.slice (some ⟨g,0,none⟩) zs.length c):=by
   rw[hb2.cell (by simp;omega),hb1.cell (by simp)];simp[go_sem]
  have hbw2:Below w.heap.size w w2:=hbw1.trans (hb2.mono (by omega));have HP2:Hid (Ab _ _ _ _):=hp2;have HBW2:Hid (Below _ _ _):=hbw2;have hgw2:At w2 g zs:=hg.below hbw2 hg.lt;have ht:=htree (.slice (some ⟨g2,0,none⟩) ps.length c2) w.heap.size w2 hgw2 hp2;clear hadd hc1 hf1 hb1 hbw1 hp2 hp2' hb2 hbw2 hgw2 htree;go_wp2_with fail
  refine ht.mono ?_;rintro e w3 ⟨rfl,hb3⟩;go_wp2_with fail
  go_ret2
  exact⟨some ⟨g2,0,none⟩,c2,rfl,HP2.out.below hb3,HBW2.out.trans (hb3.mono HBW2.out.size)⟩
end Go.Proofs.YtnmhkgmmpkjjeaaGreat
namespace Go.Proofs.YtnmhkgmmpkjjeaaGreat
open Go.ChangeShapes Go.WideShapes Go.ChangeAt Go.RowKit
set_option linter.unusedVariables false
def Uw (zs:List Int):Prop:=∀i,0<=zs.getD i 0/\zs.getD i 0<2 ^ 64
theorem Od (zs:List Int) (i j:Nat) (v:Int):(zs.set i v).getD j 0=if j=i/\i<zs.length then v else zs.getD j 0:=by
 simp only[List.getD_eq_getElem?_getD,List.getElem?_set];by_cases e:i=j
 ·subst e;by_cases h:i<zs.length
  ·simp[h]
  ·simp[h]
 ·simp[e,Ne.symm e]
theorem Uw.set {zs:List Int} (h:Uw zs) (i:Nat) (v:Int) (h0:0<=v) (h1:v<2 ^ 64):Uw (zs.set i v):=by
 intro j;rw[Od];split
 ·exact⟨h0,h1⟩
 ·exact h j
structure DS where
 zs:List Int
 lv:List Int
 fr:List Int
 p:Nat
def dA (cs:List Int) (s:DS):Nat:=(Cq cs s.p s.lv.length).toNat
def XQ (cs:List Int) (s:DS):Nat:=(s.fr.getD (dA cs s) 0*16+Cq cs (s.p+1) 16).toNat
def XT (cs:List Int) (f:Nat) (s:DS):DS :=
 if s.lv.getD (dA cs s) 0<3/\s.zs.getD (XQ cs s) 0=0 then ⟨s.zs.set (XQ cs s) (BZ (s.lv.getD (dA cs s) 0) 1 f 0),s.lv++[s.lv.getD (dA cs s) 0+1],s.fr++[(f:Int)],s.p+2⟩ else ⟨s.zs,s.lv,s.fr,s.p+2⟩
def XO (cs:List Int) (s:DS):Nat->DS
 | 0=>s
 | k+1=>XT cs (k+1) (XO cs s k)
def dN (cs:List Int):Nat:=if 24<3+cs.length/6 then 24 else 3+cs.length/6
def dX (cs:List Int) (p:Nat):Nat:=(Cq cs p 3).toNat
def d0 (cs:List Int) (p:Nat):DS:=⟨List.replicate (16*(dN cs+dX cs p)) 0,[1],[0],p+1⟩
def d1 (cs:List Int) (p:Nat):DS:=XO cs (d0 cs p) (dN cs-1)
end Go.Proofs.YtnmhkgmmpkjjeaaGreat
namespace Go.Proofs.YtnmhkgmmpkjjeaaGreat
open Go.ChangeShapes Go.WideShapes Go.ChangeAt Go.RowKit
set_option linter.unusedVariables false
set_option maxRecDepth 100000
attribute [local go_sem ↓] Go.wp_at_zero Go.wp_at_succ
theorem A6.setW {w:World} {b g c i:Nat} {zs:List Int} {v:Int} (h:A6 Aa w b (.slice (some ⟨g,0,none⟩) zs.length c) zs) (hi:i<zs.length):A6 Aa (w.setCell ⟨g,i,none⟩ (.int .u64 v)) b (.slice (some ⟨g,0,none⟩) zs.length c) (zs.set i v):=by
 rcases h.2 with⟨e,h0⟩|⟨g',cap,cur,e,hb,hg,hn,hm,hs,ht⟩
 ·cases e
 ·simp only[Value.slice.injEq,Option.some.injEq,Addr.mk.injEq,and_true,true_and] at e;obtain⟨rfl,rfl⟩:=e;obtain⟨a,c',e',hf⟩:=Hh h;simp only[Value.slice.injEq,true_and] at e';obtain⟨rfl,rfl⟩:=e';have hr:w.rowIs g 75 cur.size (fun i=>cur.getD i (.bool false)):=⟨cur,hg,rfl,fun i hi=>by simp[hi]⟩;have hs':cur.size=c*Aa.sz:=hs;have hs1:cur.size=c:=by rw[hs'];show c*1=c;omega
  refine A6.of_row (cap:=c) (by simp) hb (hr.set i (.int .u64 v)) hs' (by simpa using hn) hm ?_;intro j hj l hl;have hl0:l=0:=by simp[Aa] at hl;omega
  subst hl0;have e1:j*Aa.sz+0=j:=by show j*1+0=j;omega
  rw[e1];have e2:C8 Aa (zs.set i v) j 0=.int .u64 ((zs.set i v).getD j 0):=by simp[C8,Aa,AI]
  rw[e2,Od];by_cases eij:j=i
  ·rw[if_pos eij,if_pos ⟨eij,hi⟩]
  ·rw[if_neg eij,if_neg (by simp[eij])];obtain⟨g2,N,f,p1,_,r,s,t⟩:=hf (by omega);simp only[Option.some.injEq,Addr.mk.injEq,and_true] at p1;subst p1;have h1:=r.cell (i:=j) (by omega);have h2:=hr.cell (i:=j) (by omega);rw[h1,t j (by simpa using hj)] at h2;exact(Option.some.inj h2).symm
theorem Jw {w:World} {b g c i:Nat} {zs:List Int} (h:A6 Aa w b (.slice (some ⟨g,0,none⟩) zs.length c) zs) (hi:i<zs.length):w.cell? ⟨g,i,none⟩=some (.int .u64 (zs.getD i 0))/\w.frozen? ⟨g,i,none⟩=false/\g<w.heap.size/\b<=g:=by
 obtain⟨a,c',e',hf⟩:=Hh h;simp only[Value.slice.injEq,true_and] at e';obtain⟨rfl,rfl⟩:=e';obtain⟨g2,N,f,p1,hb,r,s,t⟩:=hf (by omega);simp only[Option.some.injEq,Addr.mk.injEq,and_true] at p1;subst p1;exact⟨by rw[r.cell (i:=i) (by omega),t i hi],r.frozen i,r.lt,hb⟩
theorem A6.crow {w:World} {b g c:Nat} {zs:List Int} (h:A6 Aa w b (.slice (some ⟨g,0,none⟩) zs.length c) zs):At w g zs :=
 ⟨(h.own g rfl).2,fun i hi=>(Jw h hi).1⟩
end Go.Proofs.YtnmhkgmmpkjjeaaGreat
