import Derived.Test.YtnmhkgmmpkjjeabGreatE51
namespace Go.Proofs.YtnmhkgmmpkjjeabGreat
open ChangeShapes WideShapes ChangeAt RowKit Proofs.Tryz
set_option linter.all false
set_option maxRecDepth 100000
set_option maxHeartbeats 4000000
attribute [local go_sem ↓] wp_at_zero wp_at_succ
theorem E8(K P N C:Int)(w:World):Calls prog 119 #[.agg #[.int .i64 K,.int .i64 P,.int .i64 N,.int .i64 C]] w fun e w'=>e=.returned (.bool (Ay ⟨K,P,N,C⟩))/\Below w.heap.size w w':=by
 have hpk:=BU P;have hck:=Dv C;have hnk:=Ee N;by_cases k0:K<0
 ·have d0:decide (K<0)=true:=by simpa using k0
  have hr:Ay ⟨K,P,N,C⟩=false:=by unfold Ay;dsimp only;rw[if_neg (by omega)];simp;omega
  rw[hr];clear hr k0;go_enter func119,ntmps119
  go_wp2_with (first|(go_at_call 48;refine(hpk _).mono ?_;rintro e wE ⟨rfl,hwE⟩;obtain rfl:=hwE.symm)|(go_at_call 50;refine(hck _).mono ?_;rintro e wE ⟨rfl,hwE⟩;obtain rfl:=hwE.symm)|(go_at_call 49;refine(hnk _).mono ?_;rintro e wE ⟨rfl,hwE⟩;obtain rfl:=hwE.symm))
  go_ret;exact⟨rfl,(Below.refl _ _).alloc (Nat.le_refl _) _⟩
 ·have d0:decide (K<0)=false:=by simpa using k0
  by_cases k1:4<K
  ·(have d1:decide (4<K)=true:=by simpa using k1);(have hr:Ay ⟨K,P,N,C⟩=false:=by unfold Ay;dsimp only;rw[if_neg (by omega)];simp;omega);rw[hr];clear hr k0 k1;(go_enter func119,ntmps119);(go_wp2_with (first|(go_at_call 48;refine(hpk _).mono ?_;rintro e wE ⟨rfl,hwE⟩;obtain rfl:=hwE.symm)|(go_at_call 50;refine(hck _).mono ?_;rintro e wE ⟨rfl,hwE⟩;obtain rfl:=hwE.symm)|(go_at_call 49;refine(hnk _).mono ?_;rintro e wE ⟨rfl,hwE⟩;obtain rfl:=hwE.symm)));go_ret;exact⟨rfl,(Below.refl _ _).alloc (Nat.le_refl _) _⟩
  ·(have d1:decide (4<K)=false:=by simpa using k1);cases hp:AP P
   ·(have hr:Ay ⟨K,P,N,C⟩=false:=by unfold Ay;dsimp only;rw[hp];simp);rw[hr];rw[hp] at hpk;clear hr k0 k1 hp;(go_enter func119,ntmps119);(go_wp2_with (first|(go_at_call 48;refine(hpk _).mono ?_;rintro e wE ⟨rfl,hwE⟩;obtain rfl:=hwE.symm)|(go_at_call 50;refine(hck _).mono ?_;rintro e wE ⟨rfl,hwE⟩;obtain rfl:=hwE.symm)|(go_at_call 49;refine(hnk _).mono ?_;rintro e wE ⟨rfl,hwE⟩;obtain rfl:=hwE.symm)));go_ret;exact⟨rfl,(Below.refl _ _).alloc (Nat.le_refl _) _⟩
   ·cases hc:Ax C
    ·(have hr:Ay ⟨K,P,N,C⟩=false:=by unfold Ay;dsimp only;rw[hc];simp);rw[hr];rw[hp] at hpk;rw[hc] at hck;clear hr k0 k1 hp hc;(go_enter func119,ntmps119);(go_wp2_with (first|(go_at_call 48;refine(hpk _).mono ?_;rintro e wE ⟨rfl,hwE⟩;obtain rfl:=hwE.symm)|(go_at_call 50;refine(hck _).mono ?_;rintro e wE ⟨rfl,hwE⟩;obtain rfl:=hwE.symm)|(go_at_call 49;refine(hnk _).mono ?_;rintro e wE ⟨rfl,hwE⟩;obtain rfl:=hwE.symm)));go_ret;exact⟨rfl,(Below.refl _ _).alloc (Nat.le_refl _) _⟩
    ·by_cases k4:K=4
     ·subst k4;(have hr:Ay ⟨4,P,N,C⟩=Ap N:=by unfold Ay;dsimp only;rw[hp,hc,if_pos rfl];simp);rw[hr];rw[hp] at hpk;rw[hc] at hck;clear hr k0 k1 hp hc d0 d1;(go_enter func119,ntmps119);(go_wp2_with (first|(go_at_call 48;refine(hpk _).mono ?_;rintro e wE ⟨rfl,hwE⟩;obtain rfl:=hwE.symm)|(go_at_call 50;refine(hck _).mono ?_;rintro e wE ⟨rfl,hwE⟩;obtain rfl:=hwE.symm)|(go_at_call 49;refine(hnk _).mono ?_;rintro e wE ⟨rfl,hwE⟩;obtain rfl:=hwE.symm)));go_ret;exact⟨rfl,(Below.refl _ _).alloc (Nat.le_refl _) _⟩
     ·(have d4:(K==4)=false:=by simpa using k4);by_cases kn:N=0
      ·(have hr:Ay ⟨K,P,N,C⟩=true:=by unfold Ay;dsimp only;rw[hp,hc,if_neg k4];simp;omega);(have d5:(N==0)=true:=by simpa using kn);rw[hr];rw[hp] at hpk;rw[hc] at hck;clear hr k0 k1 hp hc k4 kn;(go_enter func119,ntmps119);(go_wp2_with (first|(go_at_call 48;refine(hpk _).mono ?_;rintro e wE ⟨rfl,hwE⟩;obtain rfl:=hwE.symm)|(go_at_call 50;refine(hck _).mono ?_;rintro e wE ⟨rfl,hwE⟩;obtain rfl:=hwE.symm)|(go_at_call 49;refine(hnk _).mono ?_;rintro e wE ⟨rfl,hwE⟩;obtain rfl:=hwE.symm)));go_ret;exact⟨rfl,(Below.refl _ _).alloc (Nat.le_refl _) _⟩
      ·(have hr:Ay ⟨K,P,N,C⟩=false:=by unfold Ay;dsimp only;rw[hp,hc,if_neg k4];simp;omega);(have d5:(N==0)=false:=by simpa using kn);rw[hr];rw[hp] at hpk;rw[hc] at hck;clear hr k0 k1 hp hc k4 kn;(go_enter func119,ntmps119);(go_wp2_with (first|(go_at_call 48;refine(hpk _).mono ?_;rintro e wE ⟨rfl,hwE⟩;obtain rfl:=hwE.symm)|(go_at_call 50;refine(hck _).mono ?_;rintro e wE ⟨rfl,hwE⟩;obtain rfl:=hwE.symm)|(go_at_call 49;refine(hnk _).mono ?_;rintro e wE ⟨rfl,hwE⟩;obtain rfl:=hwE.symm)));go_ret;exact⟨rfl,(Below.refl _ _).alloc (Nat.le_refl _) _⟩
def DT (evs:List AW):Bool:=(List.range evs.length).all (fun i=>Ay (A8 AC evs i))
theorem Fp(ea:Option Addr)(ec be:Nat)(evs:List AW)(w:World)(hl:evs.length<=1048576)(hr:A6 AC w be (.slice ea evs.length ec) evs):Calls prog 77 #[.slice ea evs.length ec] w fun e w'=>e=.returned (.bool (decide (evs.length<=10000)&&DT evs))/\Below w.heap.size w w':=by
 by_cases h0:10000<evs.length
 ·have d0:decide ((10000:Int)<(evs.length:Int))=true:=by simp;omega
  have hz:(decide (evs.length<=10000)&&DT evs)=false:=by simp;omega
  rw[hz];clear hz h0 hr;go_enter func77,ntmps77
  go_wp2_with fail
  go_ret;exact⟨rfl,Below.refl _ _⟩
 ·have d0:decide ((10000:Int)<(evs.length:Int))=false:=by simp;omega
  have hz:(decide (evs.length<=10000)&&DT evs)=DT evs:=by simp;omega
  rw[hz];obtain⟨g,hg1,hg2⟩:=ER hr;have HG:Hid (∀k K P N C,k<evs.length->A8 AC evs k=⟨K,P,N,C⟩->∀wX:World,wX.heap[g]?=w.heap[g]?->wX.cell? ⟨g,k*4,none⟩=some (.int .i64 K)/\wX.cell? ⟨g,k*4+1,none⟩=some (.int .i64 P)/\wX.cell? ⟨g,k*4+2,none⟩=some (.int .i64 N)/\wX.cell? ⟨g,k*4+3,none⟩=some (.int .i64 C)):=hg2;have HG1:Hid (0<evs.length->ea=some ⟨g,0,none⟩/\g<w.heap.size):=hg1;clear hz h0 hr hg1 hg2;go_enter func77,ntmps77
  go_wp2_with fail
  go_loopw [10] (fun i wr=>∃k:Nat,k<=evs.length/\i=.int .i64 k/\(∀j,j<k->Ay (A8 AC evs j)=true)/\Below w.heap.size w wr) (fun i _=>evs.length-(intOf i).toNat)
  case atStart=>exact⟨0,Nat.zero_le _,rfl,fun j hj=>absurd hj (by omega),Below.refl _ _⟩
  case round =>
   obtain⟨k,hk,rfl,hall,hb⟩:=hrel;by_cases hlt:k<evs.length
   ·obtain⟨rfl,hgl⟩:=HG1.out (by omega);(obtain⟨EE,hEE⟩:∃EE,A8 AC evs k=EE:=⟨_,rfl⟩);obtain⟨K,P,N,C⟩:=EE;obtain⟨c0,c1,c2,c3⟩:=HG.out k K P N C hlt hEE wr (hb.block g hgl);have hgr:g<wr.heap.size:=Nat.lt_of_lt_of_le hgl hb.size;(have L1:(0:Int)<=(k:Int):=by omega);(have L2:(k:Int)<(evs.length:Int):=by omega);have HB:Hid (Below w.heap.size w wr):=hb;have HA:Hid (∀j,j<k->Ay (A8 AC evs j)=true):=hall;have HEE:Hid (A8 AC evs k=⟨K,P,N,C⟩):=hEE;clear hb hall hEE;cases hev:Ay ⟨K,P,N,C⟩
    ·have hve:=E8 K P N C;rw[hev] at hve;have HZ:Hid (DT evs=false):=B9 <| by
      unfold DT;rw[List.all_eq_false];exact⟨k,List.mem_range.2 hlt,by rw[HEE.out,hev];decide⟩
     clear hev;(go_wp2_with fail);refine(hve _).mono ?_;rintro e w1 ⟨rfl,hb1⟩;have HB1:Hid (Below w.heap.size w w1):=HB.out.trans (((Below.refl _ _).alloc (Nat.le_refl _) _).trans (hb1.mono (by simp)) |>.mono HB.out.size);clear hb1;(go_wp2_with fail);go_ret;exact⟨by rw[HZ.out];rfl,HB1.out⟩
    ·have hve:=E8 K P N C;rw[hev] at hve;have HA':Hid (∀j,j<k+1->Ay (A8 AC evs j)=true):=fun j hj=>by
      by_cases hjk:j=k
      ·rw[hjk,HEE.out,hev]
      ·exact HA.out j (by omega)
     clear hev;(go_wp2_with fail);refine(hve _).mono ?_;rintro e w1 ⟨rfl,hb1⟩;have HB1:Hid (Below w.heap.size w w1):=HB.out.trans (((Below.refl _ _).alloc (Nat.le_refl _) _).trans (hb1.mono (by simp)) |>.mono HB.out.size);clear hb1;(go_wp2_with fail);go_roundw;(case rel=>exact⟨k+1,by omega,by go_num,HA'.out,HB1.out⟩);case measure=>simp[intOf];omega
   ·have hz:DT evs=true:=by
     unfold DT;rw[List.all_eq_true];exact fun j hj=>hall j (by have:=List.mem_range.1 hj;omega)
    have HZ:Hid (DT evs=true):=hz;have HB:Hid (Below w.heap.size w wr):=hb;clear hall hz hb;(go_wp2_with fail);go_ret;exact⟨by rw[HZ.out];rfl,HB.out⟩
theorem G1{ops:List Bi}{evs:List AW}{x:XS}{k:Nat}(h:¬(Ae ops evs k x).code=0):∀j,Ae ops evs (k+j) x=Ae ops evs k x
 | 0=>rfl
 | j+1=>by
  rw[show k+(j+1)=(k+j)+1 by omega,CR,G1 h j,if_neg h]
theorem IZ(gx gu b0 bo:Nat)(oa:Option Addr)(oc:Nat)(ops:List Bi)(v:XV)(x:XS)(e:AW)(w:World)(ho:∀i,CM (Cb ops i))(hn:ops.length<=20000)(hx:Fx ops x)(hops:A6 CH w bo (.slice oa ops.length oc) ops)(hgo:∀k,Al oa=some k->¬v.all gx gu k)(hB:b0<=w.heap.size)(h:XM w gx gu b0 oa oc ops v x)(he:Ay e=true)(hsl:x.seen.length<=20000):Calls prog 120 #[.pointer (some ⟨gx,0,none⟩),.agg #[.int .i64 e.kind,.int .i64 e.page,.int .i64 e.need,.int .i64 e.choice]] w fun r w'=>r=.returned (.tuple #[])/\∃v',AU w w' gx gu b0 oa oc ops v v' (AR ops x e):=by
 obtain⟨⟨p0,p1⟩,⟨c0,c1⟩,k0,k1,n0,_⟩:=FL he;obtain⟨K,P,N,C⟩:=e;dsimp only at p0 p1 c0 c1 k0 k1 n0 ⊢;rcases(by omega:K=0\/K=1\/K=2\/K=3\/K=4) with rfl|rfl|rfl|rfl|rfl
 ·exact Ht gx gu b0 bo oa oc ops v x P N C w ho hn hx hops hgo hB h
 ·exact Hv gx gu b0 bo oa oc ops v x P N C w ho hn hx hops hgo hB h p0 p1 c0 c1
 ·exact Hw gx gu b0 bo oa oc ops v x P N C w ho hn hx hops hgo hB h
 ·exact I8 gx gu b0 bo oa oc ops v x P N C w ho hn hx hops hgo hB h
 ·exact Hz gx gu b0 bo oa oc ops v x P N C w ho hn hx hops hgo hB h p0 p1 c0 c1 (n0 rfl) hsl
theorem Kk(gx gu b0 bo:Nat)(oa:Option Addr)(oc:Nat)(ops:List Bi)(v:XV)(x:XS)(ea:Option Addr)(ec be:Nat)(evs:List AW)(w:World)(ho:∀i,CM (Cb ops i))(hn:ops.length<=20000)(hx:Fx ops x)(hops:A6 CH w bo (.slice oa ops.length oc) ops)(hgo:∀k,Al oa=some k->¬v.all gx gu k)(hB:b0<=w.heap.size)(h:XM w gx gu b0 oa oc ops v x)(hc:x.code=0)(hs:x.seen.length=0)(hel:evs.length<=10000)(he:∀i,i<evs.length->Ay (A8 AC evs i)=true)(hr:A6 AC w be (.slice ea evs.length ec) evs)(hge:∀k,Al ea=some k->¬v.all gx gu k):Calls prog 78 #[.pointer (some ⟨gx,0,none⟩),.slice ea evs.length ec] w fun r w'=>r=.returned (.tuple #[])/\∃v',AU w w' gx gu b0 oa oc ops v v' (Ae ops evs evs.length x):=by
 obtain⟨g,hg1,hg2⟩:=ER hr;have HG:Hid (∀k K P N C,k<evs.length->A8 AC evs k=⟨K,P,N,C⟩->∀wX:World,wX.heap[g]?=w.heap[g]?->wX.cell? ⟨g,k*4,none⟩=some (.int .i64 K)/\wX.cell? ⟨g,k*4+1,none⟩=some (.int .i64 P)/\wX.cell? ⟨g,k*4+2,none⟩=some (.int .i64 N)/\wX.cell? ⟨g,k*4+3,none⟩=some (.int .i64 C)):=hg2;have HG1:Hid (0<evs.length->ea=some ⟨g,0,none⟩/\g<w.heap.size/\¬v.all gx gu g):=fun h0=>⟨(hg1 h0).1,(hg1 h0).2,hge g (by rw[(hg1 h0).1];rfl)⟩
 have hlt0:=h.lt;have HPK:Hid (∀k,k<=evs.length->Fx ops (Ae ops evs k x)/\(Ae ops evs k x).seen.length<=20000):=fun k hk=>⟨Ct ho he hx k hk,by have:=Dt ops evs x k;omega⟩
 have HOL:Hid (∀k,Al oa=some k->k<w.heap.size):=fun k hk=>(hops.ownA k hk).2
 have HHP:Hid (∀(k:Nat) (wr:World) (v':XV),k<evs.length->AU w wr gx gu b0 oa oc ops v v' (Ae ops evs k x)->∀wX,Below wr.heap.size wr wX->Calls prog 120 #[.pointer (some ⟨gx,0,none⟩),.agg #[.int .i64 (A8 AC evs k).kind,.int .i64 (A8 AC evs k).page,.int .i64 (A8 AC evs k).need,.int .i64 (A8 AC evs k).choice]] wX fun r w'=>r=.returned (.tuple #[])/\∃v2,AU wX w' gx gu b0 oa oc ops v' v2 (AR ops (Ae ops evs k x) (A8 AC evs k))):=fun k wr v' hk hst wX hX=>by
  have ht:=hst.tch.size;have hXs:=hX.size;refine IZ gx gu b0 bo oa oc ops v' (Ae ops evs k x) (A8 AC evs k) wX ho hn (HPK.out k (by omega)).1 ?_ ?_ (by omega) (hst.xm.below hX) (he k hk) (HPK.out k (by omega)).2
  ·exact(hops.touchA hst.tch hgo).below hX
  ·intro i hi hh;rcases hst.old i hh with h'|h'
   ·exact hgo i hi h'
   ·have:=HOL.out i hi;omega
 have HX:Hid (XM w gx gu b0 oa oc ops v x):=h;have HC0:Hid (x.code=0):=hc;clear hr hg1 hg2 h hx hops hgo hge ho hs he hc;go_enter func78,ntmps78
 go_wp2_with fail
 go_loopw [8] (fun i wr=>∃k:Nat,k<=evs.length/\i=.int .i64 k/\(Ae ops evs k x).code=0/\∃v',AU w wr gx gu b0 oa oc ops v v' (Ae ops evs k x)) (fun i _=>evs.length-(intOf i).toNat)
 case atStart=>exact⟨0,Nat.zero_le _,rfl,HC0.out,v,AU.refl HX.out (Below.refl _ _)⟩
 case round =>
  obtain⟨k,hk,rfl,hcd,v',hst⟩:=hrel;by_cases hlt:k<evs.length
  ·obtain⟨rfl,hgl,hgn⟩:=HG1.out (by omega);have hH:=HHP.out k wr v' hlt hst (wr.alloc (.cells #[.int .i64 (A8 AC evs k).kind,.int .i64 (A8 AC evs k).page,.int .i64 (A8 AC evs k).need,.int .i64 (A8 AC evs k).choice] 120)) ((Below.refl _ _).alloc (Nat.le_refl _) _);(obtain⟨EE,hEE⟩:∃EE,A8 AC evs k=EE:=⟨_,rfl⟩);have HNX:Hid (Ae ops evs (k+1) x=AR ops (Ae ops evs k x) EE):=B9 <| by
    rw[CR,if_pos hcd,hEE]
   rw[hEE] at hH;obtain⟨K,P,N,C⟩:=EE;dsimp only at hH;obtain⟨c0,c1,c2,c3⟩:=HG.out k K P N C hlt hEE wr (hst.tch.block g hgl hgn);have hgr:g<wr.heap.size:=Nat.lt_of_lt_of_le hgl hst.tch.size;(have L1:(0:Int)<=(k:Int):=by omega);(have L2:(k:Int)<(evs.length:Int):=by omega);have HS:Hid (AU w wr gx gu b0 oa oc ops v v' (Ae ops evs k x)):=hst;clear hEE hst hcd;(go_wp2_with fail);refine hH.mono ?_;rintro r w2 ⟨rfl,v2,hst2⟩;have hst3:AU w w2 gx gu b0 oa oc ops v v2 (Ae ops evs (k+1) x):=by
    rw[HNX.out];exact(HS.out.trans (AU.refl HS.out.xm ((Below.refl _ _).alloc (Nat.le_refl _) _))).trans hst2
   have q3:=hst3.xm.q3;have hl2:=hst3.xm.lt;have HST3:Hid (AU w w2 gx gu b0 oa oc ops v v2 (Ae ops evs (k+1) x)):=hst3;(obtain⟨cd,hcd⟩:∃cd,cd=(Ae ops evs (k+1) x).code:=⟨_,rfl⟩);rw[<- hcd] at q3;have HCD:Hid (cd=(Ae ops evs (k+1) x).code):=hcd;clear hst3 hst2 hH hcd c0 c1 c2 c3;by_cases hc:cd=0
   ·(have dc:(cd != 0)=false:=by simpa using hc);have HZ:Hid (cd=0):=hc;clear hc;(go_wp2_with fail);go_roundw;(case rel=>exact⟨k+1,by omega,by go_num,by rw[<- HCD.out,HZ.out],v2,HST3.out⟩);case measure=>simp[intOf];omega
   ·(have dc:(cd != 0)=true:=by simpa using hc);have HZ:Hid (Ae ops evs evs.length x=Ae ops evs (k+1) x):=B9 <| by
     have:=G1 (k:=k+1) (evs:=evs) (ops:=ops) (x:=x) (by rw[<- HCD.out];exact hc) (evs.length-(k+1));rw[show k+1+(evs.length-(k+1))=evs.length by omega] at this;exact this
    clear hc;(go_wp2_with fail);exact bodyPost_ret (v:=.tuple #[]) (by simp[results,results78,go_sem]) rfl ⟨rfl,v2,by rw[HZ.out];exact HST3.out⟩
  ·(have e:k=evs.length:=by omega);subst e;have HS:Hid (AU w wr gx gu b0 oa oc ops v v' (Ae ops evs evs.length x)):=hst;clear hst hcd;(go_wp2_with fail);exact bodyPost_end (v:=.tuple #[]) (by simp[results,results78,go_sem]) rfl ⟨rfl,v',HS.out⟩
def Ff (gx n:Nat) (w:World):Nat :=
 (match w.cell? ⟨gx,2,none⟩ with|some (.int _ a)=>2*(n-a.toNat)|_=>0)+(match w.cell? ⟨gx,3,none⟩ with|some (.int _ c)=>if c=0 then 1 else 0|_=>0)
theorem XM.meas{W:World}{gx gu b0:Nat}{oa:Option Addr}{oc:Nat}{ops:List Bi}{v:XV}{x:XS}(h:XM W gx gu b0 oa oc ops v x):Ff gx ops.length W=2*(ops.length-x.at')+(if x.code=0 then 1 else 0):=by
 unfold Ff;rw[h.q2,h.q3];simp
theorem Gz{ops:List Bi}{x:XS}{k:Nat}(h:Ir ops (B7 ops k x)):B7 ops ops.length x=B7 ops k x:=by
 have h1:=G0 (ops:=ops) (x:=x);rcases Nat.le_total k ops.length with hk|hk
 ·have:=Dn h (ops.length-k);rw[show k+(ops.length-k)=ops.length by omega] at this;exact this
 ·have:=Dn h1 (k-ops.length);rw[show ops.length+(k-ops.length)=k by omega] at this;exact this.symm
theorem IU(gx gu b0 bo:Nat)(oa:Option Addr)(oc:Nat)(ops:List Bi)(v:XV)(x:XS)(w:World)(ho:∀i,CM (Cb ops i))(hn:ops.length<=20000)(hx:Fx ops x)(hops:A6 CH w bo (.slice oa ops.length oc) ops)(hgo:∀k,Al oa=some k->¬v.all gx gu k)(hB:b0<=w.heap.size)(h:XM w gx gu b0 oa oc ops v x):Calls prog 79 #[.pointer (some ⟨gx,0,none⟩)] w fun r w'=>r=.returned (.tuple #[])/\∃v',AU w w' gx gu b0 oa oc ops v v' (B7 ops ops.length x):=by
 have HPK:Hid (∀k,Fx ops (B7 ops k x)):=fun k=>Dc ho hx k
 have HOL:Hid (∀k,Al oa=some k->k<w.heap.size):=fun k hk=>(hops.ownA k hk).2
 have HNX:Hid (∀(k:Nat) (wr:World) (v':XV),AU w wr gx gu b0 oa oc ops v v' (B7 ops k x)->∀wX,Below wr.heap.size wr wX->Calls prog 121 #[.pointer (some ⟨gx,0,none⟩)] wX fun r w'=>r=.returned (.tuple #[])/\∃v2,AU wX w' gx gu b0 oa oc ops v' v2 (Bt ops (B7 ops k x))):=fun k wr v' hst wX hX=>by
  have ht:=hst.tch.size;have hXs:=hX.size;refine Gw gx gu b0 bo oa oc ops v' (B7 ops k x) wX ho hn (HPK.out k) ?_ ?_ (by omega) (hst.xm.below hX)
  ·exact(hops.touchA hst.tch hgo).below hX
  ·intro i hi hh;rcases hst.old i hh with h'|h'
   ·exact hgo i hi h'
   ·have:=HOL.out i hi;omega
 have HX:Hid (XM w gx gu b0 oa oc ops v x):=h;clear h hx hops hgo ho;go_enter func79,ntmps79
 go_wp2_with fail
 go_loopw [] (fun wr=>∃k:Nat,∃v',AU w wr gx gu b0 oa oc ops v v' (B7 ops k x)) (fun wr=>Ff gx ops.length wr)
 case atStart=>exact⟨0,v,AU.refl HX.out (Below.refl _ _)⟩
 case round =>
  obtain⟨k,v',hst⟩:=hrel;have q1:=hst.xm.q1;have q2:=hst.xm.q2;have q3:=hst.xm.q3;have hl:=hst.xm.lt;have hm:=hst.xm.meas;have hok:=HPK.out k;have hat:=hok.at';obtain⟨Y,hY⟩:∃Y,Y=B7 ops k x:=⟨_,rfl⟩
  have HY:Hid (Y=B7 ops k x):=hY;have HS:Hid (AU w wr gx gu b0 oa oc ops v v' (B7 ops k x)):=hst;rw[<- hY] at q2 q3 hm hat;clear hst hok hY;by_cases hc:Y.code=0
  ·by_cases ha:Y.at'<ops.length
   ·(have d1:(Y.code==0)=true:=by simpa using hc);(have d2:decide (Y.at'<ops.length)=true:=by simpa using ha);have hN:=HNX.out k wr v' HS.out wr.drew ((Below.refl _ _).drew);have HR:Hid (B7 ops (k+1) x=Bt ops (B7 ops k x)):=B9 <| by
     rw[Df,if_pos (by rw[<- HY.out];exact hc)]
    (have HM:Hid (Ff gx ops.length wr=2*(ops.length-Y.at')+1):=B9 <| by rw[hm,if_pos hc]);have HC:Hid (Y.code=0/\Y.at'<ops.length):=⟨hc,ha⟩;clear hc hm;(go_wp2_with fail);refine wp_region_held_drew (S:=(fun wX=>wX.cell? ⟨gx,1,none⟩=some (.slice oa ops.length oc)/\wX.cell? ⟨gx,2,none⟩=some (.int .i64 (Y.at':Int))/\wX.cell? ⟨gx,3,none⟩=some (.int .i64 Y.code))) (by kernel_rfl) (⟨q1,q2,q3⟩) (fun hHeld=>?_);refine tk 0 ?_;refine tk 1 ?_;refine tk 2 ?_;refine tk 3 ?_;refine tk 4 ?_;refine tk 5 ?_;refine tk 6 ?_;refine tk 7 ?_;refine tk 8 ?_;refine tk 9 ?_;refine tk 10 ?_;refine tk 11 ?_;refine tk 12 ?_;refine tk 13 ?_;refine tk 14 ?_;refine tk 15 ?_;refine tk 16 ?_;refine wpAnyH_done (by kernel_rfl) ?_ _;(go_wp2_with fail);refine hN.mono ?_;rintro r w2 ⟨rfl,v2,hst2⟩;have hst3:AU w w2 gx gu b0 oa oc ops v v2 (B7 ops (k+1) x):=by
     rw[HR.out];exact(HS.out.trans (AU.refl HS.out.xm ((Below.refl _ _).drew))).trans hst2
    have hme:Ff gx ops.length w2<Ff gx ops.length wr:=by
     rw[hst3.xm.meas,HM.out,HR.out,<- HY.out];obtain⟨h1,h2⟩:=HC.out;by_cases h3:(Bt ops Y).code=0
     ·rw[Ih h2 h3,if_pos h3];omega
     ·rw[if_neg h3];have h4:(Bt ops Y).at' ≥ Y.at':=by
       unfold Bt;(repeat' split);all_goals (dsimp only;omega)
      omega
    have HS3:Hid (AU w w2 gx gu b0 oa oc ops v v2 (B7 ops (k+1) x)):=hst3;have HME:Hid (Ff gx ops.length w2<Ff gx ops.length wr):=hme;clear hst3 hst2 hme;(go_wp2_with fail);go_roundw;(case rel=>exact⟨k+1,v2,HS3.out⟩);case measure=>exact HME.out
   ·(have d1:(Y.code==0)=true:=by simpa using hc);(have d2:decide (Y.at'<ops.length)=false:=by simpa using ha);have HF:Hid (AU w wr.drew gx gu b0 oa oc ops v v' (B7 ops ops.length x)):=B9 <| by
     rw[Gz (k:=k) (.inr (by rw[<- HY.out];exact ha))];exact HS.out.trans (AU.refl HS.out.xm ((Below.refl _ _).drew))
    clear hc hm;(go_wp2_with fail);refine wp_region_held_drew (S:=(fun wX=>wX.cell? ⟨gx,1,none⟩=some (.slice oa ops.length oc)/\wX.cell? ⟨gx,2,none⟩=some (.int .i64 (Y.at':Int))/\wX.cell? ⟨gx,3,none⟩=some (.int .i64 Y.code))) (by kernel_rfl) (⟨q1,q2,q3⟩) (fun hHeld=>?_);refine tk 0 ?_;refine tk 1 ?_;refine tk 2 ?_;refine tk 3 ?_;refine tk 4 ?_;refine tk 5 ?_;refine tk 6 ?_;refine tk 7 ?_;refine tk 8 ?_;refine tk 9 ?_;refine tk 10 ?_;refine tk 11 ?_;refine tk 12 ?_;refine tk 13 ?_;refine tk 14 ?_;refine tk 15 ?_;refine tk 16 ?_;refine wpAnyH_done (by kernel_rfl) ?_ _;(go_wp2_with fail);exact bodyPost_end (v:=.tuple #[]) (by simp[results,results79,go_sem]) rfl ⟨rfl,v',HF.out⟩
  ·(have d1:(Y.code==0)=false:=by simpa using hc);have HF:Hid (AU w wr.drew gx gu b0 oa oc ops v v' (B7 ops ops.length x)):=B9 <| by
    rw[Gz (k:=k) (.inl (by rw[<- HY.out];exact hc))];exact HS.out.trans (AU.refl HS.out.xm ((Below.refl _ _).drew))
   clear hc hm;(go_wp2_with fail);refine wp_region_held_drew (S:=(fun wX=>wX.cell? ⟨gx,1,none⟩=some (.slice oa ops.length oc)/\wX.cell? ⟨gx,2,none⟩=some (.int .i64 (Y.at':Int))/\wX.cell? ⟨gx,3,none⟩=some (.int .i64 Y.code))) (by kernel_rfl) (⟨q1,q2,q3⟩) (fun hHeld=>?_);refine tk 0 ?_;refine tk 1 ?_;refine tk 2 ?_;refine tk 3 ?_;refine tk 4 ?_;refine tk 5 ?_;refine sk 6 ?_;refine sk 7 ?_;refine sk 8 ?_;refine sk 9 ?_;refine sk 10 ?_;refine sk 11 ?_;refine sk 12 ?_;refine sk 13 ?_;refine sk 14 ?_;refine sk 15 ?_;refine tk 16 ?_;refine wpAnyH_done (by kernel_rfl) ?_ _;(go_wp2_with fail);exact bodyPost_end (v:=.tuple #[]) (by simp[results,results79,go_sem]) rfl ⟨rfl,v',HF.out⟩
end Go.Proofs.YtnmhkgmmpkjjeabGreat
