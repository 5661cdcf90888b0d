import Derived.Test.YtnmhkgmmpkjjeaaGreatM11
import Derived.Test.YtnmhkgmmpkjjeaaGreatM14
namespace Go.Proofs.YtnmhkgmmpkjjeaaGreat
open ChangeShapes WideShapes ChangeAt RowKit Proofs.Tryz
set_option linter.all false
set_option maxRecDepth 100000
set_option maxHeartbeats 4000000
theorem G6(zs:List Int)(hz:Cu zs):Xd zs (A7 zs):=by
 have hm:=Bz zs.length hz.n0;refine⟨DD zs,?_,?_⟩
 ·unfold A7;rw[if_neg hz.n0];simp[Ax,Ar]
 ·intro i hi;have hmem:Aq (A7 zs) i∈A7 zs:=by
   unfold Aq;rw[List.getD_eq_getElem?_getD,List.getElem?_eq_getElem hi];exact List.getElem_mem hi
  have e:A7 zs=Ax zs (An zs.length) 2 ⟨0,1,0⟩:=by unfold A7;rw[if_neg hz.n0]
  rw[e] at hmem;obtain⟨d',h⟩:=JQ 2 ⟨0,1,0⟩ ⟨rfl,by simp,by simp,by show (0:Int)<_;omega,by simp,by simp⟩ _ hmem;obtain⟨_,_,a,b,_,_⟩:=h;refine⟨(Aq (A7 zs) i).fr.toNat,?_,?_⟩
  ·rw[e];omega
  ·rw[e];omega
theorem RR(zs:List Int)(hz:Cu zs):Yd zs 2 ⟨0,1,0⟩:=by
 have hm:=Bz zs.length hz.n0;exact⟨rfl,by simp,by simp,by show (0:Int)<_;omega,by simp,by simp⟩
def CI (zs:List Int) (w:World) (e:Ending) (w':World):Prop :=
 ∃a c',e=.returned (.tuple #[.slice a (A7 zs).length c',.bool (Be zs)])/\BE w' w.heap.size (.slice a (A7 zs).length c') (A7 zs)/\Bl w w'
theorem Dt(g:Nat)(zs:List Int)(c:Nat)(hn:zs.length<=1048576)(hr:∀i,0<=zs.getD i 0/\zs.getD i 0<2 ^ 64)(w:World)(hg:BQ w g zs):Calls prog 21 #[.agg #[.slice (some ⟨g,0,none⟩) zs.length c]] w fun e w'=>CI zs w e w':=by
 unfold CI Be;by_cases h0:An zs.length=0
 ·have e:A7 zs=[]:=by unfold A7;rw[if_pos h0]
  rw[e];simp only[h0,decide_true,Bool.not_true,Bool.false_and];exact MR g zs.length c hn h0 w
 ·have hz:Cu zs:=⟨h0,hr⟩;have hm:=Bz zs.length h0;have hle:=Dv zs.length;have e:A7 zs=Ax zs (An zs.length) 2 ⟨0,1,0⟩:=by unfold A7;rw[if_neg h0]
  simp only[h0,decide_false,Bool.not_false,Bool.true_and];refine LY g zs c (An zs.length) (A7 zs) rfl h0 (by omega) (G6 zs hz) ?_ ?_ w hg
  ·intro i k hi hk w;exact CJ _ _ (hr _).1 (hr _).2 w
  ·intro w hg;have:=IB g zs c hz 2 (by omega) ⟨0,1,0⟩ w (RR zs hz) hg;rw[<- e] at this;exact this
theorem GQ(g:Nat)(zs:List Int)(c:Nat)(hz:Cu zs)(hcc:zs.length<=c)(w:World)(hg:BQ w g zs):Calls prog 88 #[.agg #[.slice (some ⟨g,0,none⟩) zs.length c]] w fun e w'=>∃g' c',e=.returned (.slice (some ⟨g',0,none⟩) (A7 zs).length c')/\BE w' w.heap.size (.slice (some ⟨g',0,none⟩) (A7 zs).length c') (A7 zs)/\Bl w w':=by
 have e:A7 zs=Ax zs (An zs.length) 2 ⟨0,1,0⟩:=by unfold A7;rw[if_neg hz.n0]
 have hadd:=K6 g zs c hz hcc w.heap.size hg.lt 2 (by omega) ⟨0,1,0⟩ (.slice none 0 0) [];rw[<- e] at hadd;have hok:=RR zs hz;generalize A7 zs=ps at *;obtain⟨wb,hwb⟩:∃wb,wb=w.alloc (.cells #[.slice (some ⟨g,0,none⟩) zs.length c] 35):=⟨_,rfl⟩
 have hbb:Bl w wb:=by rw[hwb];exact AO
 have hzb:wb.heap.size=w.heap.size+1:=by rw[hwb];simp
 have h1:=hadd wb hok (hg.below hbb hg.lt) (by omega) (by simp) (World.ownsRow_nil _ _ _ _);have HBB:=A5 hbb;have HWB:=A5 hwb;rw[hwb] at h1;clear hadd hbb hwb e hok hz;go_enter func88,ntmps88
 go_wp2_with fail
 refine h1.mono ?_;rintro e w2 ⟨g2,c2,rfl,hp2,hgr2,_⟩;have hgr2':wb.grownBy w2 none:=by rw[HWB.out];exact hgr2
 have hb2:Bl wb w2:=⟨hgr2'.os,hgr2'.tape,hgr2'.output,hgr2'.size,fun k hk=>hgr2'.block k hk (by simp)⟩;have HP2:=A5 hp2;have HB2:Hid (Bl w w2):=HBB.out.trans (hb2.mono (by omega));clear hgr2 hgr2' hb2 hp2 h1;go_wp2_with fail
 go_ret;exact⟨g2,c2,rfl,HP2.out,HB2.out⟩
section
attribute [local go_sem ↓] wp_at_zero wp_at_succ
theorem Ki(g:Nat)(zs:List Int)(c:Nat)(f:Int)(hz:Cu zs)(hcc:zs.length<=c)(w:World)(hg:BQ w g zs):Calls prog 259 #[.agg #[.slice (some ⟨g,0,none⟩) zs.length c],.int .i64 f] w (AM w (.bool (OQ (A7 zs) f))):=by
 obtain⟨wb,hwb⟩:∃wb,wb=w.alloc (.cells #[.slice (some ⟨g,0,none⟩) zs.length c] 35):=⟨_,rfl⟩
 have hbb:Bl w wb:=by rw[hwb];exact AO
 have hpl:=GQ g zs c hz hcc wb (hg.below hbb hg.lt);have hle:=DD zs;rw[hwb] at hpl;have HWB:=A5 hwb;have HBB:=A5 hbb;clear hwb hbb hz hg;obtain⟨ps,hps⟩:∃ps,ps=A7 zs:=⟨_,rfl⟩
 rw[<- hps] at hpl hle ⊢;clear hps;go_enter func259,ntmps259
 go_wp2_with fail
 refine hpl.mono ?_;rintro e w1 ⟨g1,c1,rfl,hr,hb1'⟩;have hb1:Bl wb w1:=by rw[HWB.out];exact hb1'
 have b1:Bl w w1:=Ab HBB.out hb1;obtain⟨gp,hp1,hp2⟩:=Dg hr;have HP1:=A5 hp1;have HP2:=A5 hp2;have HB1:=A5 b1;clear hb1 hb1' hpl hr hp1 hp2 b1;go_wp2_with fail
 go_loopw [10] (fun i wr=>∃k:Nat,k<=ps.length/\i=.int .i64 k/\Hid (∀j,j<k->decide ((Aq ps j).fr=f)=false)/\Bl w1 wr) (fun i _=>ps.length-(intOf i).toNat)
 case atStart=>exact⟨0,Nat.zero_le _,rfl,fun j hj=>absurd hj (by omega),AH⟩
 case round =>
  obtain⟨k,hk,rfl,hall,hb⟩:=hrel;by_cases hlt:k<ps.length
  ·(obtain⟨E,hE⟩:∃E,Aq ps k=E:=⟨_,rfl⟩);obtain⟨F,L,P⟩:=E;obtain⟨hge,hgl⟩:=HP1.out (by omega);simp only[Option.some.injEq,Addr.mk.injEq,and_true] at hge;obtain rfl:=hge.symm;obtain⟨c0,c1,c2⟩:=HP2.out k F L P hlt hE wr hb;have HE:=A5 hE;(have L1:(0:Int)<=(k:Int):=by omega);(have L2:(k:Int)<(ps.length:Int):=by omega);have HB:=A5 hb;have hsz:=hb.size;clear hE hb hge;by_cases hf:F=f
   ·(have d:(F==f)=true:=by simpa using hf);have HR:Hid (OQ ps f=true):=Sr _ k _ hlt (by rw[HE.out];exact decide_eq_true hf);clear hf;(go_wp2_with fail);go_ret;refine⟨by rw[HR.out];rfl,HB1.out.trans ((HB.out.alloc hsz _).mono HB1.out.size)⟩
   ·(have d:(F==f)=false:=by simpa using hf);(have HN:Hid (decide ((Aq ps k).fr=f)=false):=by rw[HE.out];exact decide_eq_false hf);clear hf;(go_wp2_with fail);go_roundw;case rel =>
     refine⟨k+1,by omega,by go_num,fun j hj=>?_,HB.out.alloc hsz _⟩;by_cases e:j=k
     ·rw[e];exact HN.out
     ·exact hall.out j (by omega)
    case measure=>simp[intOf];omega
  ·have HR:Hid (OQ ps f=false):=Ko _ _ (fun j hj=>hall.out j (by omega));(go_wp2_with fail);go_ret;exact⟨by rw[HR.out];rfl,Ab HB1.out hb⟩
theorem T6(zs:List Int)(hz:Cu zs)(i:Nat)(hi:i<(A7 zs).length):(((Aq (A7 zs) i).lv=1\/(Aq (A7 zs) i).lv=2\/(Aq (A7 zs) i).lv=3)/\0<=(Aq (A7 zs) i).pg/\(Aq (A7 zs) i).pg<=20000):=by
 have hmem:Aq (A7 zs) i∈A7 zs:=by
  unfold Aq;rw[List.getD_eq_getElem?_getD,List.getElem?_eq_getElem hi];exact List.getElem_mem hi
 have e:A7 zs=Ax zs (An zs.length) 2 ⟨0,1,0⟩:=by unfold A7;rw[if_neg hz.n0]
 generalize Aq (A7 zs) i=q at hmem ⊢;rw[e] at hmem;obtain⟨d',h⟩:=JQ 2 ⟨0,1,0⟩ (RR zs hz) _ hmem;obtain⟨h1,h2,_,_,h5,h6⟩:=h;omega
theorem T8(g:Nat)(zs:List Int)(c:Nat)(p:P3)(F:Nat)(hF:p.fr=F)(hF2:F*16+16<=zs.length)(hlen:zs.length<=8192)(hcc:zs.length<=c)(n:Int)(hn:n*16=zs.length)(hd:∀i,i<16->∀w,Calls prog 151 #[.int .i64 p.lv,.int .u64 (AC zs p.fr i)] w (AM w (.agg #[.int .i64 (AG p.lv (AC zs p.fr i)),.int .i64 (AX p.lv (AC zs p.fr i)),.int .i64 (Ak p.lv (AC zs p.fr i))])))(w:World)(hg:BQ w g zs):Calls prog 149 #[.agg #[.slice (some ⟨g,0,none⟩) zs.length c],.agg #[.int .i64 p.fr,.int .i64 p.lv,.int .i64 p.pg]] w (AM w (.bool (Ct zs n p))):=by
 obtain⟨w2,hw2⟩:∃w2,w2=(w.alloc (.cells #[.slice (some ⟨g,0,none⟩) zs.length c] 35)).alloc (.cells #[.int .i64 p.fr,.int .i64 p.lv,.int .i64 p.pg] 67):=⟨_,rfl⟩
 have hz2:w2.heap.size=w.heap.size+2:=by rw[hw2];simp
 have hb2:Bl w w2:=by rw[hw2];exact AO.alloc (by simp) _
 have q0:w2.cell? ⟨w.heap.size,0,none⟩=some (.slice (some ⟨g,0,none⟩) zs.length c):=by rw[hw2];simp[go_sem]
 have q2:w2.cell? ⟨w.heap.size+1,1,none⟩=some (.int .i64 p.lv):=by rw[hw2];simp[go_sem]
 have htab:=Jw g zs c F hF2 hlen hcc w2 (hg.below hb2 hg.lt);rw[hw2,<- hF] at htab;have HQ:Hid (w2.cell? ⟨w.heap.size,0,none⟩=some (.slice (some ⟨g,0,none⟩) zs.length c)/\w2.cell? ⟨w.heap.size+1,1,none⟩=some (.int .i64 p.lv)):=⟨q0,q2⟩;have HZ:=A5 hz2;have HW2:=A5 hw2;have HB2:=A5 hb2;have HD:=A5 hd;have HF:=A5 hF;clear hz2 hw2 hb2 q0 q2 hd hF hg;go_enter func149,ntmps149
 go_wp2_with fail
 refine htab.mono ?_;rintro e wt ⟨⟨T,rfl,hTs,hT⟩,hbt⟩;have hbt2:Bl w2 wt:=by rw[HW2.out];exact hbt
 have HT:=A5 hT;clear htab hT hTs hbt;go_wp2_with fail
 go_loopw [12] (fun iv wr=>∃k:Nat,k<=16/\iv=.int .i64 k/\(List.range k).all (Cy zs n p)=true/\Bl w2 wr) (fun iv _=>16-(intOf iv).toNat)
 case atStart=>exact⟨0,by omega,rfl,rfl,hbt2⟩
 case round =>
  obtain⟨k,hk,rfl,hall,hb⟩:=hrel;have hsz:=hb.size;have hz:=HZ.out;by_cases hlt:k<16
  ·obtain⟨q0,q2⟩:=HQ.out;have c0:=(hb.cell (p:=⟨w.heap.size,0,none⟩) (by simp;omega)).trans q0;have c2:=(hb.cell (p:=⟨w.heap.size+1,1,none⟩) (by simp;omega)).trans q2;have hTk:=HT.out k hlt;(have ew:zs.getD (F*16+k) 0=AC zs p.fr k:=by simp[AC,HF.out];congr 1);rw[ew] at hTk;have hdk:=HD.out k hlt;have dO:=Ci p.lv (AC zs p.fr k);have hsw:=F8 (Cy zs n p) k;rw[hall,Bool.true_and] at hsw;(have hfa:Cy zs n p k=false->Ct zs n p=false:=fun h=>by rw[Ct,Er _ k 16 hlt h]);have hsk:Cy zs n p k=!(decide (AG p.lv (AC zs p.fr k)=4)||(decide (AG p.lv (AC zs p.fr k)=1)&&decide (n<=AX p.lv (AC zs p.fr k)))):=rfl;have HSW:=A5 hsw;have HFA:=A5 hfa;have HBk:=A5 hb;(have N0:w.heap.size+2<=wr.heap.size:=by omega);clear ew hsw hfa hall hb q0 q2 hz hsz hbt2;generalize AC zs p.fr k=X at *;generalize AG p.lv X=K at *;generalize AX p.lv X=O at *;generalize Ak p.lv X=M at *;have HSK:=A5 hsk;have hix:=I9 T k hlt X hTk;have hfr:=Ey (some ⟨g,0,none⟩) zs.length c O n hn dO.1 hlen;(have L2:(k:Int)<16:=by omega);clear hsk hTk;(go_wp2_with fail);refine(hdk wr).mono ?_;rintro e w1 ⟨rfl,hb1⟩;have hs1:=hb1.size;have e0:=(hb1.cell (p:=⟨w.heap.size,0,none⟩) (by simp;omega)).trans c0;(have N1:w.heap.size<w1.heap.size:=by omega);have hbw:Bl w2 (w1.alloc (.cells #[.int .i64 K,.int .i64 O,.int .i64 M] 126)):=(Ab HBk.out hb1).alloc (by have:=HBk.out.size;omega) _;have HBW:=A5 hbw;clear c0 c2 hdk hix hb1 hbw;by_cases hK4:K=4
   ·subst hK4;have HFA2:Hid (Ct zs n p=false):=HFA.out (by rw[HSK.out];simp);clear HFA HSW HSK;(go_wp2_with fail);go_ret;exact⟨by rw[HFA2.out];rfl,HB2.out.trans (HBW.out.mono (by have:=HZ.out;omega))⟩
   ·by_cases hK1:K=1
    ·subst hK1;by_cases hO:O<n
     ·(have hO':decide (O<n)=true:=by simpa using hO);rw[hO'] at hfr;have HST:Hid ((List.range (k+1)).all (Cy zs n p)=true):=by
       exact(show _=true by rw[HSW.out,HSK.out];simp;omega)
      clear HFA HSW HSK;(go_wp2_with (go_at_call 155;refine(hfr _).mono ?_;rintro e w4 ⟨rfl,hb4⟩));go_roundw;(case rel=>exact⟨k+1,by omega,by go_num,HST.out,HBW.out.trans (hb4.mono (by have:=HBW.out.size;omega))⟩);case measure=>simp[intOf];omega
     ·(have hO':decide (O<n)=false:=by simpa using hO);rw[hO'] at hfr;have HFA2:Hid (Ct zs n p=false):=HFA.out (by rw[HSK.out];simp;omega);clear HFA HSW HSK;(go_wp2_with (go_at_call 155;refine(hfr _).mono ?_;rintro e w4 ⟨rfl,hb4⟩));go_ret;exact⟨by rw[HFA2.out];rfl,HB2.out.trans ((HBW.out.trans (hb4.mono (by have:=HBW.out.size;omega))).mono (by have:=HZ.out;omega))⟩
    ·(have hK4':(K==4)=false:=by simpa using hK4);(have hK1':(K==1)=false:=by simpa using hK1);have HST:Hid ((List.range (k+1)).all (Cy zs n p)=true):=by
      exact(show _=true by rw[HSW.out,HSK.out];simp[hK4,hK1])
     clear HFA HSW HSK;(go_wp2_with fail);go_roundw;(case rel=>exact⟨k+1,by omega,by go_num,HST.out,HBW.out⟩);case measure=>simp[intOf];omega
  ·(have e:k=16:=by omega);subst e;have hS:Ct zs n p=true:=hall;have HS:=A5 hS;clear hS hall;(go_wp2_with fail);go_ret;exact⟨by rw[HS.out];rfl,HB2.out.trans (hb.mono (by omega))⟩
theorem Nh:Tryz.zeroCells237=Array.replicate 512 (.bool false):=by kernel_rfl
def KM (ps:List P3) (i:Nat) (f:Nat):Bool:=(List.range i).any fun j=>decide ((Aq ps j).fr=(f:Int))
theorem Sa(ps:List P3)(i f:Nat):KM ps (i+1) f=(KM ps i f||decide ((Aq ps i).fr=(f:Int))):=by
 simp[KM,List.range_succ,List.any_append]
theorem QR(ps:List P3)(i F:Nat)(h:(Aq ps i).fr=F):EQ ps i=!KM ps i F:=by
 simp only[EQ,KM,h,List.not_any_eq_all_not];congr 1;funext j;by_cases e:(F:Int)=(Aq ps j).fr
 ·simp[e]
 ·simp[e];exact fun h=>e h.symm
set_option maxRecDepth 100000 in
theorem RL(g:Nat)(zs:List Int)(c:Nat)(ps:List P3)(hps:Xd zs ps)(hlen:zs.length<=8192)(hcc:zs.length<=c)(n:Int)(hn:n*16=zs.length)(hsd:∀i w,i<ps.length->BQ w g zs->Calls prog 149 #[.agg #[.slice (some ⟨g,0,none⟩) zs.length c],.agg #[.int .i64 (Aq ps i).fr,.int .i64 (Aq ps i).lv,.int .i64 (Aq ps i).pg]] w (AM w (.bool (Ct zs n (Aq ps i)))))(v:Value)(bv:Nat)(w:World)(hg:BQ w g zs)(hv:BE w bv v ps):Calls prog 89 #[.agg #[.slice (some ⟨g,0,none⟩) zs.length c],v] w (AM w (.bool (C0 zs n ps ps.length))):=by
 obtain⟨a3,c3,rfl,hform⟩:=hv.form;obtain⟨gp,N,f,rfl,_,hrw,hN,hpa⟩:=hform hps.pos;have hpl:=hps.le;obtain⟨wb,hwb⟩:∃wb,wb=w.alloc (.cells #[.slice (some ⟨g,0,none⟩) zs.length c] 35):=⟨_,rfl⟩
 have hzb:wb.heap.size=w.heap.size+1:=by rw[hwb];simp
 have hbb:Bl w wb:=by rw[hwb];exact AO
 have qb:wb.cell? ⟨w.heap.size,0,none⟩=some (.slice (some ⟨g,0,none⟩) zs.length c):=by rw[hwb];simp[go_sem]
 have HPR:Hid (w.rowIs gp 67 N f/\ps.length*3<=N/\∀i,i<ps.length->f (i*3)=.int .i64 (Aq ps i).fr/\f (i*3+1)=.int .i64 (Aq ps i).lv/\f (i*3+2)=.int .i64 (Aq ps i).pg):=⟨hrw,hN,hpa⟩;have HG:=A5 hg;have HPS:=A5 hps;have HSD:=A5 hsd;have HWB:=A5 hwb;have HZB:=A5 hzb;have HBB:=A5 hbb;have HQB:=A5 qb;clear hv hform hrw hN hpa hg hps hsd hwb hzb hbb qb;go_enter func89,ntmps89
 go_wp2_with fail
 go_loopw [10] (fun iv wr=>∃i:Nat,i<=ps.length/\iv=.int .i64 i/\C0 zs n ps i=true/\wr.rowIs (w.heap.size+1) 237 512 (fun q=>.bool (KM ps i q))/\Below (w.heap.size+1) wb wr) (fun iv _=>ps.length-(intOf iv).toNat)
 case atStart =>
  refine⟨0,Nat.zero_le _,rfl,rfl,?_,?_⟩
  ·have h:=World.rowIs_alloc wb Tryz.zeroCells237 237 (fun q=>.bool (KM ps 0 q)) (by
    intro i hi
    rw[Nh] at hi ⊢
    rw[Array.getElem?_eq_getElem hi]
    simp[KM])
   rw[HZB.out,HWB.out] at h;rw[Nh,Array.size_replicate] at h;rw[Nh];exact h
  ·rw[HWB.out];exact(Below.refl (w.heap.size+1) _).alloc (by simp) _
 case round =>
  obtain⟨i,hi,rfl,htr,hrch,hb⟩:=hrel;by_cases hlt:i<ps.length
  ·obtain⟨hrw,hN,hpa⟩:=HPR.out;obtain⟨F,hF,hF2⟩:=HPS.out.ok i hlt;have hbw:Bl w wr:=HBB.out.trans (hb.mono (by omega));have hr1:wr.rowIs gp _ N f:=hrw.of_block (hbw.block gp hrw.lt);obtain⟨x1,x2,x3⟩:=hpa i hlt;have k1:=hr1.cell (i:=i*3) (by omega);have k2:=hr1.cell (i:=i*3+1) (by omega);have k3:=hr1.cell (i:=i*3+2) (by omega);rw[x1,hF] at k1;rw[x2] at k2;rw[x3] at k3;have hgr:BQ wr g zs:=HG.out.below hbw HG.out.lt;have c0:=(hb.cell (p:=⟨w.heap.size,0,none⟩) (by simp)).trans HQB.out;have rF:=hrch.cell (i:=F) (by omega);have hsd:=HSD.out i;rw[hF] at hsd;have hfs:=QR ps i F hF;have hsu:=KA zs n ps i;rw[htr,Bool.true_and,hfs] at hsu;have htf:(EQ ps i&&Ct zs n (Aq ps i))=false->C0 zs n ps ps.length=false:=GC zs n ps i _ hlt;rw[hfs] at htf;(have hss:∀q,KM ps (i+1) q=(KM ps i q||decide ((F:Int)=(q:Int))):=fun q=>by rw[Sa,hF]);have hrl:=hrch.lt;have HRCH:=A5 hrch;have HB:=A5 hb;have HSS:=A5 hss;have HSU:=A5 hsu;have HTF:=A5 htf;have HGR:=A5 hgr;have HSDI:=A5 hsd;(have I1:(0:Int)<=(i:Int):=by omega);(have I2:(i:Int)<(ps.length:Int):=by omega);(have F1:(F:Int)<512:=by omega);(have N1:w.heap.size<wr.heap.size:=by omega);clear hrw hpa x1 x2 x3 hr1 hgr hsd hfs hsu htf hss hrch hb hbw htr hF HPR HSD;generalize (Aq ps i).lv=L at *;generalize (Aq ps i).pg=G at *;generalize Ct zs n (Aq ps i)=S at *;cases hsn:KM ps i F
   ·rw[hsn] at rF;(go_wp2_with fail);refine(HSDI.out _ hlt ?_).mono ?_
    ·exact HGR.out.of_block (Below.heap_alloc _ _ _ HGR.out.lt)
    rintro e w4 ⟨rfl,hb4⟩;have hs4:=hb4.size;simp at hs4;have hrow4:w4.rowIs (w.heap.size+1) 237 512 (fun q=>.bool (KM ps i q)):=(HRCH.out.alloc (.cells #[.int .i64 F,.int .i64 L,.int .i64 G] 67)).of_block (hb4.block _ (by simp;omega));have hb5:Below (w.heap.size+1) wb w4:=(HB.out.alloc (by omega) (.cells #[.int .i64 F,.int .i64 L,.int .i64 G] 67)).trans (hb4.mono (by simp;omega));(have p1:w4.cell? ⟨wr.heap.size,0,none⟩=some (.int .i64 F):=by rw[hb4.cell (by simp)];simp[go_sem]);have r1:=hrow4.cell (i:=F) (by omega);have f1:=hrow4.frozen F;have HR4:=A5 hrow4;have HB5:=A5 hb5;clear hrow4 hb5 hb4 k1 k2 k3 c0 rF;cases S
    ·have HFA2:Hid (C0 zs n ps ps.length=false):=HTF.out (by simp);(go_wp2_with fail);go_ret;exact⟨by rw[HFA2.out];rfl,HBB.out.trans (HB5.out.mono (by omega))⟩
    ·have HT2:Hid (C0 zs n ps (i+1)=true):=by
      exact(show _=true by rw[HSU.out,hsn];rfl)
     clear hsn;(go_wp2_with fail);go_roundw;case rel =>
      refine⟨i+1,by omega,by go_num,HT2.out,?_,HB5.out.setCell (by simp) _⟩;refine(HR4.out.set F _).congr ?_;intro q hq;rw[HSS.out q];by_cases e:q=F
      ·subst e;simp
      ·rw[if_neg e];simp[show ¬(F:Int)=(q:Int) by omega]
     case measure=>simp[intOf];omega
   ·rw[hsn] at rF;have HFA2:Hid (C0 zs n ps ps.length=false):=HTF.out (by rw[hsn];rfl);clear hsn;(go_wp2_with fail);go_ret;exact⟨by rw[HFA2.out];rfl,HBB.out.trans ((HB.out.mono (by omega)).alloc (by omega) _)⟩
  ·(have e:i=ps.length:=by omega);subst e;have HT:=A5 htr;clear htr;(go_wp2_with fail);go_ret;exact⟨by rw[HT.out];rfl,HBB.out.trans (hb.mono (by omega))⟩
theorem H8(g:Nat)(zs:List Int)(c:Nat)(hn:zs.length<=1048576)(hcc:zs.length<=c)(hr:∀i,0<=zs.getD i 0/\zs.getD i 0<2 ^ 64)(w:World)(hg:BQ w g zs):Calls prog 26 #[.agg #[.slice (some ⟨g,0,none⟩) zs.length c]] w fun e w'=>CI zs w e w':=by
 have hvm:=Ji (some ⟨g,0,none⟩) zs.length c (by omega);by_cases h0:An zs.length=0
 ·have e:A7 zs=[]:=by unfold A7;rw[if_pos h0]
  have et:Be zs=false:=by unfold Be;simp[h0]
  unfold CI;rw[e,et];simp only[h0,decide_true,Bool.not_true] at hvm;clear h0 e et;go_enter func26,ntmps26
  go_wp2_with (go_at_call 87;refine(hvm _).mono ?_;rintro e w1 ⟨rfl,hb1⟩)
  go_ret2
  exact⟨_,_,rfl,World.ownsRow_nil _ _ _ _,AO.trans (hb1.mono (by simp))⟩
 ·have hz:Cu zs:=⟨h0,hr⟩;have hm:=Bz zs.length h0;have hle:=Dv zs.length;have e:A7 zs=Ax zs (An zs.length) 2 ⟨0,1,0⟩:=by unfold A7;rw[if_neg h0]
  have et:Be zs=C0 zs (An zs.length) (A7 zs) (A7 zs).length:=by unfold Be;simp[h0]
  have hps:=G6 zs hz;have hadd:=GQ g zs c hz hcc
  have htree:=RL g zs c (A7 zs) hps (by omega) hcc (An zs.length) hm.1 (by
   intro i w hi hg
   obtain⟨F,hF,hF2⟩:=hps.ok i hi
   exact T8 g zs c (Aq (A7 zs) i) F hF hF2 (by omega) hcc (An zs.length) hm.1 (fun i hi w=>Cb _ _ (hr _).1 (hr _).2 w) w hg)
  rw[<- et] at htree;unfold CI;simp only[h0,decide_false,Bool.not_false] at hvm;generalize Be zs=tr at *;generalize A7 zs=ps at *;clear e et hps hm hle hz h0;go_enter func26,ntmps26
  go_wp2_with (go_at_call 87;refine(hvm _).mono ?_;rintro e w1 ⟨rfl,hb1⟩;obtain⟨hc1,hf1⟩:=Fr hb1)
  have hs1:=hb1.size;simp at hs1;have hbw1:Bl w w1:=AO.trans (hb1.mono (by simp));refine(hadd w1 (hg.below hbw1 hg.lt)).mono ?_;rintro e w2 ⟨g2,c2,rfl,hp2',hb2⟩;have hp2:BE w2 w.heap.size (.slice (some ⟨g2,0,none⟩) ps.length c2) ps:=hp2'.rebase (by omega);have hbx:w2.cell? ⟨w.heap.size,0,none⟩=some (.slice (some ⟨g,0,none⟩) zs.length c):=by
   rw[hb2.cell (by simp;omega),hb1.cell (by simp)];simp[go_sem]
  have hbw2:Bl w w2:=hbw1.trans (hb2.mono (by omega));have HP2:=A5 hp2;have HBW2:=A5 hbw2;have hgw2:BQ w2 g zs:=hg.below hbw2 hg.lt;have ht:=htree (.slice (some ⟨g2,0,none⟩) ps.length c2) w.heap.size w2 hgw2 hp2;clear hadd hc1 hf1 hb1 hbw1 hp2 hp2' hb2 hbw2 hgw2 htree;go_wp2_with fail
  refine ht.mono ?_;rintro e w3 ⟨rfl,hb3⟩;go_wp2_with fail
  go_ret2
  exact⟨some ⟨g2,0,none⟩,c2,rfl,HP2.out.below hb3,Ab HBW2.out hb3⟩
def YO (zs:List Int) (at_:Nat) (x:Int):Int:=bits .xor .u64 (zs.getD at_ 0) (1+2*(x%2)+64*(x%3))
def Sw (zs:List Int) (at_:Nat) (x:Int):Nat:=if (A7 zs).length=0 then at_ else ((Aq (A7 zs) (x.toNat%(A7 zs).length)).fr*16+((at_%16:Nat):Int)).toNat
def G9 (zs:List Int) (a:Int) (at_:Nat) (x:Int):List Int :=
 if a=0 then zs++[0] else if a=1 then [] else if a<5 then zs.set (Sw zs at_ x) (Aw 1 1 ((x+a)%((zs.length/16:Nat)+1)) 0)
 else zs.set at_ (YO zs at_ x)
def Gy (cs:List Int) (p:Nat) (zs:List Int):List Int:=G9 zs (Bh cs p 8) (Bh cs (p+1) zs.length).toNat (Bh cs (p+2) 64)
theorem Tn(zs:List Int)(at_:Nat)(x:Int):0<=YO zs at_ x/\YO zs at_ x<2 ^ 64:=by
 unfold YO;have e:∀u v:Int,bits .xor .u64 u v=IntKind.u64.wrap ((BitVec.ofInt 64 u ^^^ BitVec.ofInt 64 v).toNat:Int):=fun u v=>rfl
 rw[e,IntKind.wrap_u64];omega
theorem SH(zs:List Int)(a:Int)(at_:Nat)(x:Int)(h:Pt zs):Pt (G9 zs a at_ x)/\(G9 zs a at_ x).length<=zs.length+1:=by
 unfold G9;split
 ·refine⟨fun i=>?_,by simp⟩;rw[LG];split
  ·omega
  ·exact h i
 ·split
  ·exact⟨fun i=>by simp,by simp⟩
  ·split
   ·exact⟨h.set _ _ (Ir _ _ _ _).1 (Ir _ _ _ _).2,by simp⟩
   ·exact⟨h.set _ _ (Tn _ _ _).1 (Tn _ _ _).2,by simp⟩
theorem A8.setW{w:World}{b g c i:Nat}{zs:List Int}{v:Int}(h:A8 AY w b (.slice (some ⟨g,0,none⟩) zs.length c) zs)(hi:i<zs.length):A8 AY (w.setCell ⟨g,i,none⟩ (.int .u64 v)) b (.slice (some ⟨g,0,none⟩) zs.length c) (zs.set i v):=by
 rcases h.2 with⟨e,h0⟩|⟨g',cap,cur,e,hb,hg,hn,hm,hs,ht⟩
 ·cases e
 ·simp only[Value.slice.injEq,Option.some.injEq,Addr.mk.injEq,and_true,true_and] at e;obtain⟨rfl,rfl⟩:=e;obtain⟨a,c',e',hf⟩:=IF h;simp only[Value.slice.injEq,true_and] at e';obtain⟨rfl,rfl⟩:=e';have hr:w.rowIs g 75 cur.size (fun i=>cur.getD i (.bool false)):=⟨cur,hg,rfl,fun i hi=>by simp[hi]⟩;have hs':cur.size=c*AY.sz:=hs;have hs1:cur.size=c:=by rw[hs'];show c*1=c;omega
  refine A8.of_row (cap:=c) (by simp) hb (hr.set i (.int .u64 v)) hs' (by simpa using hn) hm ?_;intro j hj l hl;have hl0:l=0:=by simp[AY] at hl;omega
  subst hl0;have e1:j*AY.sz+0=j:=by show j*1+0=j;omega
  rw[e1];have e2:CM AY (zs.set i v) j 0=.int .u64 ((zs.set i v).getD j 0):=by simp[CM,AY,AQ]
  rw[e2,DQ];by_cases eij:j=i
  ·rw[if_pos eij,if_pos ⟨eij,hi⟩]
  ·rw[if_neg eij,if_neg (by simp[eij])];obtain⟨g2,N,f,p1,_,r,s,t⟩:=hf (by omega);simp only[Option.some.injEq,Addr.mk.injEq,and_true] at p1;subst p1;have h1:=r.cell (i:=j) (by omega);have h2:=hr.cell (i:=j) (by omega);rw[h1,t j (by simpa using hj)] at h2;exact(Option.some.inj h2).symm
theorem FL{w:World}{b g c i:Nat}{zs:List Int}(h:A8 AY w b (.slice (some ⟨g,0,none⟩) zs.length c) zs)(hi:i<zs.length):w.cell? ⟨g,i,none⟩=some (.int .u64 (zs.getD i 0))/\w.frozen? ⟨g,i,none⟩=false/\g<w.heap.size/\b<=g:=by
 obtain⟨a,c',e',hf⟩:=IF h;simp only[Value.slice.injEq,true_and] at e';obtain⟨rfl,rfl⟩:=e';obtain⟨g2,N,f,p1,hb,r,s,t⟩:=hf (by omega);simp only[Option.some.injEq,Addr.mk.injEq,and_true] at p1;subst p1;exact⟨by rw[r.cell (i:=i) (by omega),t i hi],r.frozen i,r.lt,hb⟩
theorem A8.crow{w:World}{b g c:Nat}{zs:List Int}(h:A8 AY w b (.slice (some ⟨g,0,none⟩) zs.length c) zs):BQ w g zs :=
 ⟨(h.own g rfl).2,fun i hi=>(FL h hi).1⟩
structure CW (w wr:World) (g c k:Nat) (zs:List Int):Prop where
 bel:Bl w wr
 row:wr.ownsRow w.heap.size 75 1 (.slice (some ⟨g,0,none⟩) k c) k (AK AY (zs.take k))
 le:k<=zs.length
theorem CW.all{w wr:World}{g c k:Nat}{zs:List Int}(h:CW w wr g c k zs)(hk:k=zs.length):A8 AY wr w.heap.size (.slice (some ⟨g,0,none⟩) zs.length c) zs:=by
 subst hk;have:=h.row;rw[List.take_length] at this;exact this
theorem CW.push{w wr wn:World}{g c k g1 c1:Nat}{zs:List Int}{o:Obj}(h:CW w wr g c k zs)(hk:k<zs.length)(hown:wn.ownsRow w.heap.size 75 1 (.slice (some ⟨g1,0,none⟩) (k+1) c1) (k+1) (AK AY (zs.take k)++[.int .u64 (zs.getD k 0)]))(hgrow:(wr.alloc o).grownBy wn (Value.ownBlock (.slice (some ⟨g,0,none⟩) k c))):CW w wn g1 c1 (k+1) zs:=by
 refine⟨(h.bel.alloc h.bel.size _).grown hgrow (by have:=h.bel.size;simp;omega) (fun q hq=>(World.ownsRow.lt h.row q hq).1),?_,hk⟩;rw[D6 AY zs k hk,CC];exact hown
end
end Go.Proofs.YtnmhkgmmpkjjeaaGreat
