import Derived.Test.YtnmhkgmmpkjjeaaGreatL40
import Derived.Test.YtnmhkgmmpkjjeaaGreatL39
namespace Go.Proofs.YtnmhkgmmpkjjeaaGreat
set_option linter.unusedVariables false
set_option maxRecDepth 100000
open Go.ChangeShapes Go.WideShapes Go.ChangeAt Go.RowKit
theorem KN {a b:P3} (h1:a.fr=b.fr) (h2:a.lv=b.lv) (h3:a.pg=b.pg):a=b:=by
 cases a;cases b;simp_all
theorem Cu.mem {H:Nat->Ht} {n:Nat} {all:List P3} {A:List Int} (h:Cu H n all A) (q:P3):q∈A5 A↔q∈all:=by
 have hn0:Ae A.length≠0:=by rw[h.len];have:=h.n1;omega
 have lw:∀l x,EA (n:Int) l x=true↔AJ l x=1/\AV l x<n:=by
  intro l x;unfold EA;simp
 rw[Bl A hn0,h.len];constructor
 ·rintro(e|⟨i,hi,l1,e|⟨j,hj,l2,e⟩⟩)
  ·rw[e];exact h.tb.root
  ·rcases h.l1 i hi with⟨_,hk⟩|⟨_,hk,t,ht,t1,t2,t3,_,_⟩
   ·have:=((lw _ _).1 l1).1;omega
   ·have:q=t:=by
     rw[e,D8];exact KN t3 t1.symm (by dsimp only;rw[t2];omega)
    rw[this];exact ht
  ·rcases h.l1 i hi with⟨_,hk⟩|⟨_,hk,t,ht,t1,t2,t3,_,_⟩
   ·have:=((lw _ _).1 l1).1;omega
   ·rw[t3] at l2;have hk2:=((lw _ _).1 l2).1;rcases h.l2 i j hi hj t ht t1 t2 with⟨_,k2,_⟩|⟨_,_,k2⟩|⟨_,_,_,u,hu,u1,u2,u3,_,_⟩
    ·omega
    ·omega
    ·have:q=u:=by
      rw[e,Hi,t3];exact KN u3 u1.symm (by dsimp only;rw[u2];omega)
     rw[this];exact hu
 ·intro hq;obtain⟨s,hs,e1,e2⟩:=h.tb.seat q hq;obtain⟨w1,w2,w3,w4,w5,w6⟩:=Be hs;obtain⟨hl,hm,hb⟩:=KK hs;have huq:=h.tb.uniq q hq;obtain⟨L,P⟩:=s;dsimp only at *;have same:∀t,t∈all->t.lv=q.lv->t.pg=q.pg->t=q:=fun t ht a b=>by
   have:=h.tb.uniq t ht;rw[a,b,huq] at this;exact KN this.symm a b
  rcases hl with rfl|rfl|rfl
  ·left;have:=same _ h.tb.root (by rw[e1];rfl) (by rw[e2,w5 rfl];rfl);exact this.symm
  ·right;have hm':P%256=0:=hm;have hb':P+256<=4096:=hb;(have hP:P/256*256=P:=by omega);rcases h.l1 (P/256) (by omega) with⟨hd,_⟩|⟨hd,hk,t,ht,t1,t2,t3,t4,t5⟩
   ·rw[hP,w4] at hd;cases hd
   ·refine⟨P/256,by omega,(lw _ _).2 ⟨hk,by omega⟩,.inl ?_⟩;have hq2:=same t ht (by rw[t1,e1];rfl) (by rw[t2,e2,hP]);rw[<- hq2,D8];exact KN t3.symm t1 (by dsimp only;rw[t2];omega)
  ·right;have hm':P%16=0:=hm;have hb':P+16<=4096:=hb;(have hP:P/256*256+P/16%16*16=P:=by omega);have hnd2:nd H 2 (P/256*256)=true:=Tb (j:=P/16%16) (by omega) (by rw[hP];exact w4);rcases h.l1 (P/256) (by omega) with⟨hd,_⟩|⟨hd,hk,t,ht,t1,t2,t3,t4,t5⟩
   ·rw[hnd2] at hd;cases hd
   ·have h2:=h.l2 (P/256) (P/16%16) (by omega) (by omega) t ht t1 t2;rw[hP] at h2;refine⟨P/256,by omega,(lw _ _).2 ⟨hk,by omega⟩,.inr ⟨P/16%16,by omega,?_⟩⟩;rw[t3];rcases h2 with⟨hs16,_⟩|⟨_,hd3,_⟩|⟨_,_,k2,u,hu,u1,u2,u3,u4,u5⟩
    ·have:=Sc h.lay P (by omega) hm' hs16;rw[w4] at this;cases this
    ·rw[w4] at hd3;cases hd3
    ·refine⟨(lw _ _).2 ⟨k2,by omega⟩,?_⟩;have hq2:=same u hu (by rw[u1,e1];rfl) (by rw[u2,e2]);rw[<- hq2,Hi,t3];exact KN u3.symm u1 (by dsimp only;rw[u2];omega)
theorem Cu.sorted {H:Nat->Ht} {n:Nat} {all:List P3} {A:List Int} (h:Cu H n all A):(A5 A).Pairwise (fun a b=>key a<key b):=by
 have hn0:Ae A.length≠0:=by rw[h.len];have:=h.n1;omega
 unfold A5;rw[if_neg hn0];exact(ED A _).sorted
theorem Cu.dis {H:Nat->Ht} {n:Nat} {all:List P3} {A:List Int} (h:Cu H n all A):E9 (A5 A):=by
 refine List.Pairwise.imp_of_mem (fun {a b} ha hb hlt e=>?_) h.sorted;have:=h.tb.dis.eq ((h.mem a).1 ha) ((h.mem b).1 hb) e;rw[this] at hlt;omega
theorem MS {ps:List P3} (h:E9 ps) (i:Nat) (hi:i<ps.length):EO ps i=true:=by
 unfold EO;rw[List.all_eq_true];intro j hj;have hj':=List.mem_range.1 hj;have:=List.pairwise_iff_getElem.1 h j i (by omega) hi hj';have ei:Ag ps i=ps[i]:=by unfold Ag;rw[List.getD_eq_getElem?_getD,List.getElem?_eq_getElem hi];rfl
 have ej:Ag ps j=ps[j]'(by omega):=by unfold Ag;rw[List.getD_eq_getElem?_getD,List.getElem?_eq_getElem (by omega)];rfl
 rw[ei,ej];simp;exact fun e=>this e.symm
theorem Cu.tree {H:Nat->Ht} {n:Nat} {all:List P3} {A:List Int} (h:Cu H n all A):BO A=true:=by
 have hn0:Ae A.length≠0:=by rw[h.len];have:=h.n1;omega
 rw[PD A hn0,Bool.and_eq_true];constructor
 ·unfold Ok;rw[List.all_eq_true];intro p hp;have hp':=List.mem_range.1 hp;unfold Ww;rw[h.walk p hp'];have:(H p).k≠3:=by
   by_cases hk:(H p).k=1
   ·omega
   ·rw[h.lay.zero p hp' hk];decide
  simp[this]
 ·unfold Ox;rw[List.all_eq_true];intro i hi;exact MS h.dis i (List.mem_range.1 hi)
theorem Cu.count {H:Nat->Ht} {n:Nat} {all:List P3} {A:List Int} (h:Cu H n all A):(A5 A).length=(AA H 256).length:=by
 have hsn:∀q∈A5 A,((q.lv.toNat:Nat):Int)=q.lv/\((q.pg.toNat:Nat):Int)=q.pg/\(q.lv.toNat,q.pg.toNat)∈AA H 256:=by
  intro q hq;obtain⟨s,hs,e1,e2⟩:=h.tb.seat q ((h.mem q).1 hq);have a:q.lv.toNat=s.1:=by omega
  have b:q.pg.toNat=s.2:=by omega
  refine⟨by omega,by omega,?_⟩;rw[a,b];exact hs
 apply Nat.le_antisymm
 ·have:=Jd ((A5 A).map (fun q=>(q.lv.toNat,q.pg.toNat))) (AA H 256) (by
   rw[List.pairwise_map]
   refine List.Pairwise.imp_of_mem (fun {a b} ha hb hlt e=>?_) h.sorted
   obtain⟨a1,a2,_⟩:=hsn a ha
   obtain⟨b1,b2,_⟩:=hsn b hb
   simp only[Prod.mk.injEq] at e
   unfold key at hlt
   omega) (fun x hx=>by
   obtain⟨q,hq,rfl⟩:=List.mem_map.1 hx
   exact(hsn q hq).2.2)
  rwa [List.length_map] at this
 ·have:=Jd (AA H 256) ((A5 A).map (fun q=>(q.lv.toNat,q.pg.toNat))) (by
   refine List.Pairwise.imp (fun {a b} hlt e=>?_) (GA H 256)
   rw[e] at hlt
   omega) (fun x hx=>by
   obtain⟨t,ht,a,b⟩:=h.tb.has x hx
   refine List.mem_map.2 ⟨t,(h.mem t).2 ht,?_⟩
   rw[a,b]
   rfl)
  rwa [List.length_map] at this
theorem VV {xs:List AF} (hv:VS xs) (i:Nat) (hi:i<xs.length) (q:Int) (h:Hl (AI A8 xs i) q=true):DH xs q=H8 (AI A8 xs i) q:=by
 refine Mx q xs i hi (fun j hj=>?_) h;have h1:=hv.lt j i hj hi;unfold Hl at h ⊢;simp only[decide_eq_true_eq] at h;rw[decide_eq_false_iff_not];omega
theorem Qq {xs:List AF} (hv:VS xs) {H:Nat->Ht} (hH:∀p,p<4096->H p=DH xs p):O5 H:=by
 have hcase:∀p:Nat,p<4096->H p=Qe\/∃i,i<xs.length/\Hl (AI A8 xs i) p=true/\H p=H8 (AI A8 xs i) p:=by
  intro p hp;rw[hH p hp];by_cases h:∃i,i<xs.length/\Hl (AI A8 xs i) p=true
  ·obtain⟨i,hi,hin⟩:=h;exact .inr ⟨i,hi,hin,VV hv i hi p hin⟩
  ·left;refine NC p xs (fun j hj=>?_);cases hc:Hl (AI A8 xs j) p
   ·rfl
   ·exact absurd ⟨j,hj,hc⟩ h
 refine⟨fun p hp hk=>?_,fun p hp hk=>?_,fun p hp hs=>?_⟩
 ·rcases hcase p hp with e|⟨i,hi,hin,e⟩
  ·exact e
  ·rw[e] at hk;exact absurd rfl hk
 ·rcases hcase p hp with e|⟨i,hi,hin,e⟩
  ·rw[e] at hk;exact absurd hk (by decide)
  ·have hso:=BF.1 (hv.1 i hi);unfold Hl at hin;simp only[decide_eq_true_eq] at hin;rw[e];unfold H8;dsimp only;refine⟨by omega,by omega,by omega,by omega,?_⟩;split
   ·right;rfl
   ·left;rfl
 ·rcases hcase p hp with e|⟨i,hi,hin,e⟩
  ·rw[e] at hs;exact absurd hs (by decide)
  ·rw[e] at hs;have hb:Cy (AI A8 xs i) p=true:=by
    unfold H8 at hs;dsimp only at hs;cases hc:Cy (AI A8 xs i) p
    ·rw[hc] at hs;exact absurd hs (by decide)
    ·rfl
   have hb2:=hb;unfold Cy at hb2;simp only[Bool.and_eq_true,decide_eq_true_eq] at hb2;obtain⟨hh,b1,b2,b3⟩:=hb2;have hso:=BF.1 (hv.1 i hi);have hgrp:∀j:Nat,j<16->H (p-p%16+j)=⟨1,(AI A8 xs i).out+((p-p%16+j:Nat):Int)-(AI A8 xs i).page,(AI A8 xs i).perm,16⟩:=by
    intro j hj;(have hlt:p-p%16+j<4096:=by omega);have hinj:Hl (AI A8 xs i) ((p-p%16+j:Nat):Int)=true:=by
     unfold Hl;rw[decide_eq_true_eq];omega
    rw[hH _ hlt,VV hv i hi _ hinj];unfold H8;have hbj:Cy (AI A8 xs i) ((p-p%16+j:Nat):Int)=true:=by
     unfold Cy;(have e16:((p-p%16+j:Nat):Int)-((p-p%16+j:Nat):Int)%16=(p:Int)-(p:Int)%16:=by omega);rw[hh,e16];simp only[Bool.true_and,decide_eq_true_eq];exact⟨b1,b2,b3⟩
    rw[hbj];rfl
   have h0:=hgrp 0 (by omega);rw[Nat.add_zero] at h0;refine⟨?_,fun j hj=>?_⟩
   ·rw[h0];dsimp only;omega
   ·rw[hgrp j hj,h0];dsimp only;congr 1;omega
theorem KY {zs:List Int} {n:Nat} {H:Nat->Ht} (hlay:O5 H) (hz:Ae zs.length=n) (hn:1<=n) (ht:BO zs=true) (hw:(AA H 256).length<=n):Cu H n (AY H (A5 zs)) (Bu zs (AO zs n H (A5 zs))):=by
 have hn0:Ae zs.length≠0:=by omega
 have hm:=BS zs.length hn0;have hle:=D9 zs.length;have hlen:zs.length=n*16:=by omega
 have hpo:BI n (A5 zs):=by
  unfold A5;rw[if_neg hn0,hz];exact ED zs n
 have hd:=Ke zs ht;have hall:=Mv (H:=H) (by omega) hpo hd hw;refine⟨hlay,hall,by rw[CI];exact hz,hn,by omega,fun t htm i hi=>?_⟩;have:=OJ (H:=H) hlen (by omega) hpo hd hw htm hi;have hf:=(hall.fr t htm).1;have e:A7 (Bu zs (AO zs n H (A5 zs))) t.fr i=(Bu zs (AO zs n H (A5 zs))).getD (t.fr*16+i).toNat 0:=by
  unfold A7;congr 1;omega
 rw[e];exact this
structure DP (zs:List Int) (n:Nat) (H:Nat->Ht):Prop where
 lay:O5 H
 nf:Ae zs.length=n
 pos:1<=n
 tree:BO zs=true
 room:(AA H 256).length<=n
 nn:∀i,0<=zs.getD i 0
theorem DP.plc {zs:List Int} {n:Nat} {H:Nat->Ht} (h:DP zs n H):BI n (A5 zs):=by
 have hn0:Ae zs.length≠0:=by rw[h.nf];have:=h.pos;omega
 unfold A5;rw[if_neg hn0,h.nf];exact ED zs n
theorem DP.all {zs:List Int} {n:Nat} {H:Nat->Ht} (h:DP zs n H):KA H n (AY H (A5 zs)) :=
 Mv (by have:=h.pos;omega) h.plc (Ke zs h.tree) h.room
theorem DP.n2 {zs:List Int} {n:Nat} {H:Nat->Ht} (h:DP zs n H):n<=512:=by
 have:=D9 zs.length;have:=h.nf;omega
theorem Nk (n l x:Int):EA n l x=true↔AJ l x=1/\AV l x<n:=by unfold EA;simp
theorem DP.now {zs:List Int} {n:Nat} {H:Nat->Ht} (h:DP zs n H) {l P:Nat} (h0:0<=AH (AY H (A5 zs)) l P):nd H l P=true:=by
 obtain⟨q,hq,e1,e2,e3⟩:=E8 h0;obtain⟨s,hs,a,b⟩:=h.all.seat q hq;have:=(Be hs).2.2.2.1;have e1':s.1=l:=by omega
 have e2':s.2=P:=by omega
 rwa [e1',e2'] at this
theorem XK (H:Nat->Ht) (all:List P3) (p:Nat):Bv H all 1 p=if AH all 2 p<0 then 0 else BZ 1 1 (AH all 2 p) 0:=by
 unfold Bv;rw[if_neg (by decide),if_neg (fun h=>absurd h.1 (by decide))];rfl
theorem XJ (H:Nat->Ht) (all:List P3) (p:Nat):Bv H all 2 p=if (H p).s=16 then BZ 2 2 (H p).o (H p).p else if AH all 3 p<0 then 0 else BZ 2 1 (AH all 3 p) 0:=by
 unfold Bv;rw[if_neg (by decide),Int.toNat_natCast];by_cases h:(H p).s=16
 ·rw[if_pos ⟨rfl,h⟩,if_pos h]
 ·rw[if_neg (fun hh=>h hh.2),if_neg h];rfl
theorem DP.k16 {zs:List Int} {n:Nat} {H:Nat->Ht} (h:DP zs n H) {p:Nat} (hp:p<4096) (hs:(H p).s=16):(H p).k=1:=by
 by_cases hk:(H p).k=1
 ·exact hk
 ·have:=h.lay.zero p hp hk;rw[this] at hs;exact absurd hs (by decide)
structure YS where
 m:List Int
 l:List Int
 k:Nat
def CL (s:YS) (o:Ay):YS:=if o.kind=1 then ⟨s.m,s.l.set o.a.toNat o.word,s.k+1⟩ else if o.kind=2 then ⟨s.l,s.l,0⟩ else s
def DQ (s:YS) (l:List Ay):YS:=l.foldl CL s
def Sx (L:List Int) (o:Ay):Prop:=o.word%2=0\/o.word=L.getD o.a.toNat 0\/L.getD o.a.toNat 0%2=0\/∀q∈A5 L,q.fr≠o.a/16
def VK (n:Nat) (s:YS) (o:Ay):Prop :=
 (o.kind=1/\0<=o.a/\o.a<(n*16:Nat)/\o.b=0/\s.k<10000/\Sx s.l o)\/(o.kind=2/\o.a=0/\o.b=0/\o.word=0) \/
 (o.kind=3/\0<=o.a/\1<=o.b/\o.a+o.b<=4096/\o.word=0) \/
 (o.kind=4/\0<=o.a/\o.a<n/\o.b=0/\o.word=0/\(∀q∈A5 s.m,q.fr≠o.a)/\∀q∈A5 s.l,q.fr≠o.a)
def Iy (n:Nat):YS->List Ay->Prop
 | _,[]=>True
 | s,o :: r=>VK n s o/\Iy n (CL s o) r
theorem Ek (s:YS) (l m:List Ay):DQ s (l++m)=DQ (DQ s l) m:=by unfold DQ;exact List.foldl_append
theorem E0 (n:Nat):∀(l m:List Ay) (s:YS),Iy n s (l++m)↔Iy n s l/\Iy n (DQ s l) m
 | [],m,s=>⟨fun h=>⟨trivial,h⟩,fun h=>h.2⟩
 | o :: l,m,s=>by
  show VK n s o/\Iy n (CL s o) (l++m)↔(VK n s o/\Iy n (CL s o) l)/\Iy n (DQ (CL s o) l) m;rw[E0 n l m (CL s o),and_assoc]
theorem Jk (n:Nat) (C:List Int):∀(r a:List Ay) (M:List Int) (k:Nat),(∀o∈r,o.kind=1/\0<=o.a/\o.a<(n*16:Nat)/\o.b=0)->k+r.length<=10000->(∀a' o r',a'++o :: r'=a++r->Sx (Bu C a') o)->Iy n ⟨M,Bu C a,k⟩ r/\DQ ⟨M,Bu C a,k⟩ r=⟨M,Bu C (a++r),k+r.length⟩
 | [],a,M,k,_,_,_=>⟨trivial,by rw[List.append_nil];rfl⟩
 | o :: r,a,M,k,h1,h2,h3=>by
  obtain⟨k1,k2,k3,k4⟩:=h1 o List.mem_cons_self;rw[List.length_cons] at h2;have e:CL ⟨M,Bu C a,k⟩ o=⟨M,Bu C (a++[o]),k+1⟩:=by
   unfold CL;rw[if_pos k1,GT];show _=YS.mk M (LQ (Bu C a) o) (k+1);unfold LQ;rw[if_pos k1]
  obtain⟨i1,i2⟩:=Jk n C r (a++[o]) M (k+1) (fun x hx=>h1 x (List.mem_cons_of_mem _ hx)) (by omega) (fun a' x r' he=>h3 a' x r' (by rw[he,List.append_assoc];rfl));refine⟨⟨.inl ⟨k1,k2,k3,k4,by show k<10000;omega,h3 a o r rfl⟩,by rw[e];exact i1⟩,?_⟩;show DQ (CL ⟨M,Bu C a,k⟩ o) r=_;rw[e,i2,List.append_assoc,List.length_cons];show YS.mk _ _ _=YS.mk _ _ _;rw[show k+1+r.length=k+(r.length+1) by omega];rfl
theorem Je (n:Nat) (C:List Int) (l:List Ay) (h1:∀o∈l,o.kind=1/\0<=o.a/\o.a<(n*16:Nat)/\o.b=0) (h2:l.length<=10000) (h3:∀a' o r',a'++o :: r'=l->Sx (Bu C a') o):Iy n ⟨C,C,0⟩ (BB l)/\DQ ⟨C,C,0⟩ (BB l)=⟨Bu C l,Bu C l,0⟩:=by
 by_cases hl:l=[]
 ·subst hl;exact⟨trivial,rfl⟩
 ·obtain⟨i1,i2⟩:=Jk n C l [] C 0 h1 (by omega) h3;rw[Dq hl,E0,Ek];have i2':DQ ⟨C,C,0⟩ l=⟨C,Bu C l,0+l.length⟩:=i2;rw[i2'];exact⟨⟨i1,.inr (.inl ⟨rfl,rfl,rfl,rfl⟩),trivial⟩,rfl⟩
theorem Ia (n:Nat) (s:YS):∀l:List Ay,(∀o∈l,o.kind≠1/\o.kind≠2/\VK n s o)->Iy n s l/\DQ s l=s
 | [],_=>⟨trivial,rfl⟩
 | o :: l,h=>by
  obtain⟨h1,h2,h3⟩:=h o List.mem_cons_self;have e:CL s o=s:=by unfold CL;rw[if_neg h1,if_neg h2]
  obtain⟨i1,i2⟩:=Ia n s l (fun x hx=>h x (List.mem_cons_of_mem _ hx));exact⟨⟨h3,by rw[e];exact i1⟩,by show DQ (CL s o) l=s;rw[e];exact i2⟩
theorem Pj (kept:List P3):∀n,(BW kept n).length<=n+(n+15)/16+(n+255)/256
 | 0=>by simp[BW]
 | n+1=>by
  rw[Ij,List.length_append];have ih:=Pj kept n;have h3:=GB kept n 3;have h2:(EK kept n 2).length<=if n%16=0 then 1 else 0:=by
   unfold EK;split
   ·rename_i h;rw[if_pos (show n%16=0 from h.1)];exact Nat.le_refl _
   ·exact Nat.zero_le _
  have h1:(EK kept n 1).length<=if n%256=0 then 1 else 0:=by
   unfold EK;split
   ·rename_i h;rw[if_pos (show n%256=0 from h.1)];exact Nat.le_refl _
   ·exact Nat.zero_le _
  unfold LU;rw[List.length_append,List.length_append];split at h1<;>split at h2<;>omega
theorem P7 (f:Int) (i:Nat) (h:0<=f):(f*16+(i:Nat)).toNat=(f*16).toNat+i:=by omega
def Cp (zs:List Int) (H:Nat->Ht):List Int:=Bu zs (AR zs H (AY H (A5 zs)) (Bk H (A5 zs)))
theorem DP.kfr {zs:List Int} {n:Nat} {H:Nat->Ht} (h:DP zs n H) {t:P3} (ht:t∈AC H (A5 zs)):t∈AY H (A5 zs)/\0<=t.fr/\t.fr<n:=by
 have ha:t∈AY H (A5 zs):=List.mem_append_left _ ht;exact⟨ha,h.all.fr t ha⟩
theorem DP.len {zs:List Int} {n:Nat} {H:Nat->Ht} (h:DP zs n H):zs.length=n*16:=by
 have h1:=h.pos;have h2:=BS zs.length (by rw[h.nf];omega);rw[h.nf] at h2;omega
theorem DP.brk_at {zs:List Int} {n:Nat} {H:Nat->Ht} (h:DP zs n H) {t:P3} (ht:t∈AC H (A5 zs)) {i:Nat} (hi:i<16):A7 (Cp zs H) t.fr i=if JT zs H (AY H (A5 zs)) (Bd t i)=true then 0 else A7 zs t.fr i:=by
 obtain⟨ha,f0,f1⟩:=h.kfr ht;have hp:=h.pos;have hl:=h.len;unfold A7 Cp;rw[<- P7 t.fr i f0];by_cases hb:JT zs H (AY H (A5 zs)) (Bd t i)=true
 ·rw[if_pos hb];refine Ic _ _ _ _ (by omega) (fun o ho _ _=>?_) ?_
  ·unfold AR at ho;obtain⟨e,_,rfl⟩:=List.mem_map.1 ho;rfl
  ·refine⟨⟨1,(Bd t i).ad,0,0⟩,?_,rfl,rfl⟩;unfold AR;exact List.mem_map.2 ⟨Bd t i,List.mem_filter.2 ⟨QZ (by omega) h.plc ht hi,hb⟩,rfl⟩
 ·rw[if_neg hb];refine Ea _ _ _ (fun o ho _ he=>hb ?_);unfold AR at ho;obtain⟨e,he1,rfl⟩:=List.mem_map.1 ho;obtain⟨he2,he3⟩:=List.mem_filter.1 he1;obtain⟨u,hu,j,hj,rfl⟩:=Im (by omega) h.plc he2;obtain⟨hua,u0,_⟩:=h.kfr hu;obtain⟨rfl,rfl⟩:=In (n:=n) h.all.dis hua ha hj hi u0 f0 he;exact he3
theorem DP.brk_odd {zs:List Int} {n:Nat} {H:Nat->Ht} (h:DP zs n H) {t:P3} (ht:t∈AC H (A5 zs)) {i:Nat} (hi:i<16) (ho:A7 (Cp zs H) t.fr i%2=1):A7 (Cp zs H) t.fr i=A7 zs t.fr i/\A7 zs t.fr i=Bv H (AY H (A5 zs)) t.lv (t.pg+i*Bj t.lv):=by
 obtain⟨ha,f0,f1⟩:=h.kfr ht;rw[h.brk_at ht hi] at ho ⊢;by_cases hb:JT zs H (AY H (A5 zs)) (Bd t i)=true
 ·rw[if_pos hb] at ho;cases ho
 ·rw[if_neg hb] at ho ⊢;refine⟨rfl,?_⟩;have e:IV zs (Bd t i).ad=A7 zs t.fr i:=by
   unfold IV A7;rw[<- P7 t.fr i f0];rfl
  unfold JT at hb;rw[e] at hb;by_cases hr:A7 zs t.fr i=Bv H (AY H (A5 zs)) t.lv (t.pg+i*Bj t.lv)
  ·exact hr
  ·exact absurd (decide_eq_true ⟨ho,hr⟩) hb
theorem IU {n l x:Int} (h:EA n l x=true):x%2=1:=by
 have:=(Nk n l x).1 h;unfold AJ at this;split at this
 ·omega
 ·split at this<;>omega
theorem DP.brk_kept {zs:List Int} {n:Nat} {H:Nat->Ht} (h:DP zs n H):∀q∈A5 (Cp zs H),q∈AC H (A5 zs):=by
 have hn0:Ae zs.length≠0:=by rw[h.nf];have:=h.pos;omega
 have hbl:(Cp zs H).length=zs.length:=CI _ _;have hroot:root∈AC H (A5 zs):=BE.2 ⟨(Bl zs hn0 root).2 (.inl rfl),rfl⟩;have h2:∀i,i<16->EA n 1 (A7 (Cp zs H) 0 i)=true->EA n 1 (A7 zs 0 i)=true/\A7 (Cp zs H) 0 i=A7 zs 0 i/\AT zs root i∈AC H (A5 zs):=fun i hi hl=>by
  obtain⟨e1,e2⟩:=h.brk_odd hroot hi (IU hl);have e1':A7 (Cp zs H) 0 i=A7 zs 0 i:=e1;have hl':=hl;rw[e1'] at hl';refine⟨hl',e1',BE.2 ⟨(Bl zs hn0 _).2 (.inr ⟨i,hi,by rw[h.nf];exact hl',.inl rfl⟩),?_⟩⟩;have e3:A7 zs 0 i=Bv H (AY H (A5 zs)) 1 ((i*256:Nat):Int):=by
   (have e4:root.pg+(i:Int)*Bj root.lv=((i*256:Nat):Int):=by show (0:Int)+(i:Int)*256=_;omega);rw[<- e4];exact e2
  rw[XK] at e3;have hod:=IU hl';have hf:0<=AH (AY H (A5 zs)) 2 ((i*256:Nat):Int):=by
   by_cases hc:AH (AY H (A5 zs)) 2 ((i*256:Nat):Int)<0
   ·rw[if_pos hc] at e3;rw[e3] at hod;cases hod
   ·omega
  have hnd:=h.now (l:=2) (P:=i*256) hf;rw[D8];show nd H (2:Int).toNat ((i:Int)*256).toNat=true;rw[show ((i:Int)*256).toNat=i*256 by omega];exact hnd
 intro q hq;have hq':=(Bl (Cp zs H) (by rw[hbl];exact hn0) q).1 hq;rw[hbl,h.nf] at hq';rcases hq' with rfl|⟨i,hi,hl,hq'⟩
 ·exact hroot
 obtain⟨z1,z2,z3⟩:=h2 i hi hl;have eu:AT (Cp zs H) root i=AT zs root i:=by rw[D8,D8,z2]
 rcases hq' with rfl|⟨j,hj,hl2,rfl⟩
 ·rw[eu];exact z3
 ·rw[z2] at hl2;have eF:(AT zs root i).fr=AV 1 (A7 zs 0 i):=by rw[D8]
  have eL:(AT zs root i).lv=2:=by rw[D8]
  have eP:(AT zs root i).pg=(i:Int)*256:=by rw[D8]
  rw[<- eF] at hl2;obtain⟨e1,e2⟩:=h.brk_odd z3 hj (IU hl2);have hl3:=hl2;rw[e1] at hl3;have ee:AT (Cp zs H) (AT (Cp zs H) root i) j=AT zs (AT zs root i) j:=by
   rw[eu];unfold AT at e1 ⊢;dsimp only at e1 ⊢;rw[e1]
  rw[ee];refine BE.2 ⟨(Bl zs hn0 _).2 (.inr ⟨i,hi,by rw[h.nf];exact z1,.inr ⟨j,hj,by rw[h.nf,<- eF];exact hl3,rfl⟩⟩),?_⟩;rw[eL,eP] at e2;have e3:A7 zs (AT zs root i).fr j=Bv H (AY H (A5 zs)) 2 ((i*256+j*16:Nat):Int):=by
   (have e4:(i:Int)*256+(j:Int)*Bj 2=((i*256+j*16:Nat):Int):=by show (i:Int)*256+(j:Int)*16=_;omega);rw[<- e4];exact e2
  rw[XJ] at e3;have hod:=IU hl3;have hk:=((Nk _ _ _).1 hl3).1;have hP:i*256+j*16<4096:=by omega
  have hnd:nd H 3 (i*256+j*16)=true:=by
   by_cases hs:(H (i*256+j*16)).s=16
   ·rw[if_pos hs] at e3;have k1:(H (i*256+j*16)).k=1:=h.k16 hP hs;obtain⟨o0,o1,p0,p1,_⟩:=h.lay.one _ hP k1;have hb:=(h.lay.big _ hP hs).1;rw[show i*256+j*16-(i*256+j*16)%16=i*256+j*16 by omega] at hb;rw[e3,(LZ _ _ o0 o1 hb p0 p1).1] at hk;cases hk
   ·rw[if_neg hs] at e3;by_cases hc:AH (AY H (A5 zs)) 3 ((i*256+j*16:Nat):Int)<0
    ·rw[if_pos hc] at e3;rw[e3] at hod;cases hod
    ·exact h.now (l:=3) (P:=i*256+j*16) (Int.not_lt.1 hc)
  rw[Hi];show nd H (3:Int).toNat ((i:Int)*256+(j:Int)*16).toNat=true;rw[show ((i:Int)*256+(j:Int)*16).toNat=i*256+j*16 by omega];exact hnd
end Go.Proofs.YtnmhkgmmpkjjeaaGreat
namespace Go.Proofs.YtnmhkgmmpkjjeaaGreat
open Go.ChangeShapes Go.WideShapes Go.ChangeAt Go.RowKit
set_option linter.unusedVariables false
set_option linter.unusedSimpArgs false
set_option maxRecDepth 100000
attribute [local go_sem ↓] Go.wp_at_zero Go.wp_at_succ
set_option maxHeartbeats 2000000 in
theorem OF (gu:Nat) (F L Q ix:Int) (w:World) (hg:gu<w.heap.size) (hl:L=1\/L=2\/L=3) (hq0:0<=Q) (hq1:Q<=20000) (hi0:0<=ix) (hi1:ix<16) (q3:w.cell? ⟨gu,3,none⟩=some (.slice none 0 0)) (q4:w.cell? ⟨gu,4,none⟩=some (.slice none 0 0)) : Calls Tryz.prog 258 #[.pointer (some ⟨gu,0,none⟩),.agg #[.int .i64 F,.int .i64 L,.int .i64 Q],.int .i64 ix] w fun e w'=>e=.returned (.bool false)/\Below w.heap.size w w':=by
 have hcb:1<=Bj L/\Bj L<=256:=by rcases hl with rfl|rfl|rfl<;>decide
 have hmul:0<=ix*Bj L/\ix*Bj L<=3840:=by rcases hl with rfl|rfl|rfl<;>(simp only[Bj];constructor<;>(simp;omega))
 obtain⟨wb,hwb⟩:∃wb,wb=w.alloc (.cells #[.int .i64 F,.int .i64 L,.int .i64 Q] 67):=⟨_,rfl⟩
 have hbb:Below w.heap.size w wb:=by rw[hwb];exact Ao
 have hep:=CE L;have y3:=(hbb.cell (p:=⟨gu,3,none⟩) hg).trans q3;have y4:=(hbb.cell (p:=⟨gu,4,none⟩) hg).trans q4;have HWB:Hid (wb=_):=hwb;have HBB:Hid (Below w.heap.size w wb):=hbb;generalize Bj L=cL at *;have hW1:IntKind.i64.wrap (ix*cL)=ix*cL:=by rw[IntKind.wrap_i64];omega
 have hW2:IntKind.i64.wrap (Q+ix*cL)=Q+ix*cL:=by rw[IntKind.wrap_i64];omega
 clear hwb hbb;go_enter Tryz.func258,Tryz.ntmps258
 go_wp2_with (go_at_call 168;refine(hep _).mono ?_;rintro e w1 ⟨rfl,hw1⟩;obtain rfl:=hw1.symm)
 rw[<- HWB.out];go_loopw [27] (fun i wr=>i=.int .i64 0/\wr=wb) (fun _ _=>0)
 case atStart=>exact⟨rfl,rfl⟩
 case round =>
  obtain⟨rfl,rfl⟩:=hrel;go_wp2_with fail
  go_loopw [41] (fun i wr'=>i=.int .i64 0/\wr'=wr) (fun _ _=>0)
  case atStart=>exact⟨rfl,rfl⟩
  case round =>
   obtain⟨rfl,rfl⟩:=hrel;(go_wp2_with fail);go_ret;exact⟨rfl,HBB.out⟩
set_option maxHeartbeats 4000000 in
theorem Kq (gu g2 c2 A:Nat) (L:List Int) (Wd:Int) (w:World) (hg:gu<w.heap.size) (hA:A<L.length) (hw0:0<=Wd) (hw1:Wd<18446744073709551616) (hz:D3 L) (hcc:L.length<=c2) (hcr:At w g2 L) (hok:Sx L ⟨1,A,0,Wd⟩) (q1:w.cell? ⟨gu,1,none⟩=some (.slice (some ⟨g2,0,none⟩) L.length c2)) (q3:w.cell? ⟨gu,3,none⟩=some (.slice none 0 0)) (q4:w.cell? ⟨gu,4,none⟩=some (.slice none 0 0)) : Calls Tryz.prog 237 #[.pointer (some ⟨gu,0,none⟩),.int .i64 (A:Int),.int .u64 Wd] w fun e w'=>e=.returned (.int .i64 0)/\Below w.heap.size w w':=by
 obtain⟨X,hX⟩:∃X,L.getD A 0=X:=⟨_,rfl⟩
 have hxc:=hcr.cell hA;have hxr:=hz.2 A;rw[hX] at hxc hxr;have hx1:X<18446744073709551616:=by have:=hxr.2;omega
 have HOK:Hid (Wd%2=0\/Wd=X\/X%2=0\/∀q∈A5 L,q.fr≠(A:Int)/16):=A2 (by
  have e:L.getD ((A:Int)).toNat 0=X:=by rw[Int.toNat_natCast];exact hX
  unfold Sx at hok
  dsimp only at hok
  rw[e] at hok
  exact hok)
 have hpl:=Fd g2 L c2 hz hcc w hcr;have hle:=DZ L;have HPK:Hid (∀i,i<(A5 L).length->_):=Rz L hz;have HMP:Hid (∀i,i<(A5 L).length->Ag (A5 L) i∈A5 L):=A2 fun i hi=>KG _ i hi
 have HCA:Hid (∀F LV Q wX,Below w.heap.size w wX->(LV=1\/LV=2\/LV=3)->0<=Q->Q<=20000->Calls Tryz.prog 258 #[.pointer (some ⟨gu,0,none⟩),.agg #[.int .i64 F,.int .i64 LV,.int .i64 Q],.int .i64 ((A:Int)%16)] wX fun e w'=>e=.returned (.bool false)/\Below wX.heap.size wX w'):=A2 fun F LV Q wX hX h1 h2 h3=>OF gu F LV Q _ wX (Nat.lt_of_lt_of_le hg hX.size) h1 h2 h3 (by omega) (by omega) ((hX.cell (p:=⟨gu,3,none⟩) hg).trans q3) ((hX.cell (p:=⟨gu,4,none⟩) hg).trans q4)
 have and1:=Gn Wd hw0 hw1;have and2:=Gn X hxr.1 hx1;have hq:wrap64 ((A:Int)/16)=(A:Int)/16:=by have:=BS L.length hz.n0;have:=D9 L.length;unfold wrap64;omega
 have g2l:=hcr.lt;have L0:(0:Int)<=(A:Int):=by omega
 have L1:(A:Int)<(L.length:Int):=by omega
 generalize A5 L=ps at *;clear hok hX hz hcr hxr q3 q4;by_cases hwz:Wd%2=0
 ·have d0:(Wd%2==0)=true:=by simpa using hwz
  clear hwz hpl HOK;go_enter Tryz.func237,Tryz.ntmps237
  go_wp2_with fail
  go_ret;exact⟨rfl,Below.refl _ _⟩
 ·have d0:(Wd%2==0)=false:=by simpa using hwz
  by_cases hwx:Wd=X
  ·(have d1:(Wd==X)=true:=by simpa using hwx);clear hwz hwx hpl HOK;(go_enter Tryz.func237,Tryz.ntmps237);(go_wp2_with fail);go_ret;exact⟨rfl,Below.refl _ _⟩
  ·have d1:(Wd==X)=false:=by simpa using hwx
   have HO2:Hid (X%2=0\/∀q∈ps,q.fr≠(A:Int)/16):=A2 (by
    rcases HOK.out with h|h|h
    ·exact absurd h hwz
    ·exact absurd h hwx
    ·exact h)
   clear hwz hwx HOK;(go_enter Tryz.func237,Tryz.ntmps237);(go_wp2_with fail);refine hpl.mono ?_;rintro e w1 ⟨g1,c1,rfl,hr,hb1⟩;obtain⟨gp,hp1,hp2⟩:=Ef hr;have HP1:Hid _:=hp1;have HP2:Hid _:=hp2;have HB1:Hid (Below w.heap.size w w1):=hb1;clear hb1 hpl hr hp1 hp2 hxc q1 and1 d0 d1;(go_wp2_with fail);(go_loopw [32] (fun i wr=>∃k:Nat,k<=ps.length/\i=.int .i64 k/\Below w1.heap.size w1 wr) (fun i _=>ps.length-(intOf i).toNat));(case atStart=>exact⟨0,Nat.zero_le _,rfl,Below.refl _ _⟩);case round =>
    obtain⟨k,hk,rfl,hb⟩:=hrel;by_cases hlt:k<ps.length
    ·have hmem:=HMP.out k hlt;have hpk:=HPK.out k hlt;(obtain⟨E,hE⟩:∃E,Ag ps k=E:=⟨_,rfl⟩);obtain⟨F,LV,Q⟩:=E;rw[hE] at hmem hpk;obtain⟨hge,hgl2⟩:=HP1.out (by omega);simp only[Option.some.injEq,Addr.mk.injEq,and_true] at hge;obtain rfl:=hge.symm;obtain⟨c0,c1,c2⟩:=HP2.out k F LV Q hlt hE wr hb;(have M1:(0:Int)<=(k:Int):=by omega);(have M2:(k:Int)<(ps.length:Int):=by omega);have hsz:=hb.size;(obtain⟨wx,hwx⟩:∃wx,wx=wr.alloc (.cells #[.int .i64 F,.int .i64 LV,.int .i64 Q] 67):=⟨_,rfl⟩);(have bx1:Below w1.heap.size w1 wx:=by rw[hwx];exact hb.alloc hsz _);have bx:Below w.heap.size w wx:=HB1.out.trans (bx1.mono HB1.out.size);have hca:=HCA.out F LV Q wx bx hpk.1 hpk.2.1 hpk.2.2;rw[hwx] at hca;have HWXX:Hid (wx=_):=hwx;have HBX1:Hid (Below w1.heap.size w1 wx):=bx1;by_cases hF:F=(A:Int)/16
     ·(have dF:(F != (A:Int)/16)=false:=by simpa using hF);have dX:(X%2 != 0)=false:=by
       rcases HO2.out with h|h
       ·simp[h]
       ·exact absurd hF (h _ hmem)
      clear hE hb hge hpk hwx bx bx1 hF hmem;(go_wp2_with fail);refine hca.mono ?_;rintro e w2 ⟨rfl,hb2⟩;(go_wp2_with fail);rw[<- HWXX.out] at hb2;go_roundw;(case rel=>exact⟨k+1,by omega,by go_num,HBX1.out.trans (hb2.mono HBX1.out.size)⟩);case measure=>simp[intOf];omega
     ·(have dF:(F != (A:Int)/16)=true:=by simpa using hF);clear hE hb hge hpk hwx bx bx1 hF hca hmem;(go_wp2_with fail);rw[<- HWXX.out];go_roundw;(case rel=>exact⟨k+1,by omega,by go_num,HBX1.out⟩);case measure=>simp[intOf];omega
    ·(go_wp2_with fail);go_ret;exact⟨rfl,HB1.out.trans (hb.mono HB1.out.size)⟩
set_option maxHeartbeats 2000000 in
theorem NE (gu g1 c1 g2 c2:Nat) (f:Int) (M L:List Int) (w:World) (hg:gu<w.heap.size) (hm:D3 M) (hl:D3 L) (hcm:M.length<=c1) (hcl:L.length<=c2) (hrm:At w g1 M) (hrl:At w g2 L) (h1:∀q∈A5 M,q.fr≠f) (h2:∀q∈A5 L,q.fr≠f) (q0:w.cell? ⟨gu,0,none⟩=some (.slice (some ⟨g1,0,none⟩) M.length c1)) (q1:w.cell? ⟨gu,1,none⟩=some (.slice (some ⟨g2,0,none⟩) L.length c2)) (q4:w.cell? ⟨gu,4,none⟩=some (.slice none 0 0)) : Calls Tryz.prog 238 #[.pointer (some ⟨gu,0,none⟩),.int .i64 f] w fun e w'=>e=.returned (.int .i64 0)/\Below w.heap.size w w':=by
 have no:∀ps:List P3,(∀q∈ps,q.fr≠f)->MU ps f=false:=fun ps h=>Kh _ _ (fun j hj=>decide_eq_false (h _ (KG ps j hj)))
 have t1:=KB g1 M c1 f hm hcm w hrm;rw[no _ h1] at t1;have HT:Hid (∀wX,Below w.heap.size w wX->Calls Tryz.prog 259 #[.agg #[.slice (some ⟨g2,0,none⟩) L.length c2],.int .i64 f] wX fun e w'=>e=.returned (.bool false)/\Below wX.heap.size wX w'):=A2 fun wX hX=>by
  have:=KB g2 L c2 f hl hcl wX (hrl.below hX hrl.lt);rw[no _ h2] at this;exact this
 have HQ:Hid (∀wX,Below w.heap.size w wX->wX.cell? ⟨gu,1,none⟩=some (.slice (some ⟨g2,0,none⟩) L.length c2)/\wX.cell? ⟨gu,4,none⟩=some (.slice none 0 0)):=A2 fun wX hX=>⟨(hX.cell (p:=⟨gu,1,none⟩) hg).trans q1,(hX.cell (p:=⟨gu,4,none⟩) hg).trans q4⟩
 clear hm hl hrm hrl h1 h2 no q1 q4;go_enter Tryz.func238,Tryz.ntmps238
 go_wp2_with fail
 refine t1.mono ?_;rintro e w1 ⟨rfl,hb1⟩;obtain⟨y1,_⟩:=HQ.out w1 hb1;have HB1:Hid (Below w.heap.size w w1):=hb1;clear t1 hb1 q0;go_wp2_with fail
 refine(HT.out w1 HB1.out).mono ?_;rintro e w2 ⟨rfl,hb2⟩;have HB2:Hid (Below w.heap.size w w2):=A2 (HB1.out.trans (hb2.mono HB1.out.size));obtain⟨_,y4⟩:=HQ.out w2 HB2.out;clear hb2 y1;go_wp2_with fail
 go_loopw [26] (fun i wr=>i=.int .i64 0/\wr=w2) (fun _ _=>0)
 case atStart=>exact⟨rfl,rfl⟩
 case round =>
  obtain⟨rfl,rfl⟩:=hrel;go_wp2_with fail
  go_ret;exact⟨rfl,HB2.out⟩
end Go.Proofs.YtnmhkgmmpkjjeaaGreat
namespace Go.Proofs.YtnmhkgmmpkjjeaaGreat
open Go.ChangeShapes Go.WideShapes Go.ChangeAt Go.RowKit
set_option linter.unusedVariables false
set_option maxRecDepth 100000
theorem Cu.plan_none {H:Nat->Ht} {n:Nat} {all:List P3} {A:List Int} (h:Cu H n all A):AO A n H (A5 A)=[]:=by
 have hn1:=h.n1;have hnf:Ae A.length≠0:=by rw[h.len];omega
 have hpo:BI n (A5 A):=by unfold A5;rw[if_neg hnf,h.len];exact ED A n
 have hnd:∀q∈A5 A,Rw H q=true:=fun q hq=>by
  obtain⟨s,hs,e1,e2⟩:=h.tb.seat q ((h.mem q).1 hq);unfold Rw;rw[e1,e2,Int.toNat_natCast,Int.toNat_natCast];exact(Be hs).2.2.2.1
 have hk:AC H (A5 A)=A5 A:=by unfold AC;exact List.filter_eq_self.2 hnd
 have hg:CH H (A5 A)=[]:=by
  unfold CH;rw[List.filter_eq_nil_iff];intro q hq;rw[hnd q hq];decide
 have hfr:∀lv pg:Int,AH (A5 A) lv pg=AH all lv pg:=fun lv pg=>by
  by_cases hx:∃t∈all,t.lv=lv/\t.pg=pg
  ·obtain⟨t,ht,rfl,rfl⟩:=hx;rw[h.tb.uniq t ht,EZ h.sorted ((h.mem t).2 ht)]
  ·rw[GO (fun q hq e=>hx ⟨q,(h.mem q).1 hq,e⟩),GO (fun q hq e=>hx ⟨q,hq,e⟩)]
 have hnew:CM H (A5 A)=[]:=by
  unfold CM;rw[hk];have hc:=HI (A5 A) (AA H 256) (AA H 256).length (Nat.le_refl _);rw[List.take_length] at hc;have hall:(AA H 256).countP (Nj (A5 A))=(AA H 256).length:=by
   rw[List.countP_eq_length];intro s hs;obtain⟨t,ht,e1,e2,e3,f0,_⟩:=h.tb.of (lv:=s.1) (pg:=s.2) hs;unfold Nj;rw[hfr,e3];exact decide_eq_true f0
  rw[hall] at hc;exact List.length_eq_zero_iff.1 (by omega)
 have hall:AY H (A5 A)=A5 A:=by unfold AY;rw[hk,hnew,List.append_nil]
 have hrg:∀lv pg:Int,Bv H (A5 A) lv pg=Bv H all lv pg:=fun lv pg=>by unfold Bv;rw[hfr]
 have hent:∀e∈Bk H (A5 A),NV (IV A e.ad) (Bv H (A5 A) e.lv e.pg):=fun e he=>by
  obtain⟨t,ht,i,hi,rfl⟩:=Im (by omega) hpo he;rw[hk] at ht;have hta:=(h.mem t).1 ht;have f0:=(h.tb.fr t hta).1;have hw:=h.word t hta i hi;rw[hrg];have e:IV A (Bd t i).ad=A7 A t.fr i:=by
   unfold IV A7;show A.getD (t.fr*16+(i:Nat)).toNat 0=_;rw[show (t.fr*16+(i:Nat)).toNat=(t.fr*16).toNat+i by omega]
  rw[e];exact hw
 have hb:AR A H (AY H (A5 A)) (Bk H (A5 A))=[]:=by
  unfold AR;rw[hall,List.filter_eq_nil_iff.2,List.map_nil];intro e he hc;have hr:=hent e he;unfold JT at hc;have:=of_decide_eq_true hc;rcases hr with hr|hr
  ·exact this.2 hr
  ·omega
 have hl:AZ A H (AY H (A5 A)) (Bk H (A5 A))=[]:=by
  unfold AZ;rw[hall,List.filter_eq_nil_iff.2,List.map_nil];intro e he hc;have hr:=hent e he;unfold SH at hc;have:=of_decide_eq_true hc;rcases hr with hr|hr
  ·exact this.2 hr.symm
  ·exact this.1 hr.1
 have ht:=(Ma A H (A5 A)).1 hb;have hf:Ah n ([]:List P3)=[]:=by
  unfold Ah;rw[List.filter_eq_nil_iff.2,List.map_nil];intro f hf;simp[Aw]
 unfold AO;rw[hb,hl,ht,hg,hnew,hf];rfl
end Go.Proofs.YtnmhkgmmpkjjeaaGreat
