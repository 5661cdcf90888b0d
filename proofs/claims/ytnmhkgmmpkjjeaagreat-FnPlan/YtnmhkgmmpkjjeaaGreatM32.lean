import Derived.Test.YtnmhkgmmpkjjeaaGreatM31
namespace Go.Proofs.YtnmhkgmmpkjjeaaGreat
open  Proofs.Tryz
set_option linter.all false
set_option maxRecDepth 100000
theorem La{a b:P3}(h1:a.fr=b.fr)(h2:a.lv=b.lv)(h3:a.pg=b.pg):a=b:=by
 cases a;cases b;simp_all
theorem Dd.mem{H:Nat->Ht}{n:Nat}{all:List P3}{A:List Int}(h:Dd H n all A)(q:P3):q∈A7 A↔q∈all:=by
 have hn0:An A.length≠0:=by rw[h.len];have:=h.n1;omega
 have lw:∀l x,Av (n:Int) l x=true↔AG l x=1/\AX l x<n:=by
  intro l x;unfold Av;simp
 rw[BI A hn0,h.len];constructor
 ·rintro(e|⟨i,hi,l1,e|⟨j,hj,l2,e⟩⟩)
  ·rw[e];exact h.tb.root
  ·rcases h.l1 i hi with⟨_,hk⟩|⟨_,hk,t,ht,t1,t2,t3,_,_⟩
   ·have:=((lw _ _).1 l1).1;omega
   ·have:q=t:=by
     rw[e,Cr];exact La t3 t1.symm (by dsimp only;rw[t2];omega)
    rw[this];exact ht
  ·rcases h.l1 i hi with⟨_,hk⟩|⟨_,hk,t,ht,t1,t2,t3,_,_⟩
   ·have:=((lw _ _).1 l1).1;omega
   ·rw[t3] at l2;have hk2:=((lw _ _).1 l2).1;rcases h.l2 i j hi hj t ht t1 t2 with⟨_,k2,_⟩|⟨_,_,k2⟩|⟨_,_,_,u,hu,u1,u2,u3,_,_⟩
    ·omega
    ·omega
    ·have:q=u:=by
      rw[e,Fh,t3];exact La u3 u1.symm (by dsimp only;rw[u2];omega)
     rw[this];exact hu
 ·intro hq;obtain⟨s,hs,e1,e2⟩:=h.tb.seat q hq;obtain⟨w1,w2,w3,w4,w5,w6⟩:=BY hs;obtain⟨hl,hm,hb⟩:=Kr hs;have huq:=h.tb.uniq q hq;obtain⟨L,P⟩:=s;dsimp only at *;have same:∀t,t∈all->t.lv=q.lv->t.pg=q.pg->t=q:=fun t ht a b=>by
   have:=h.tb.uniq t ht;rw[a,b,huq] at this;exact La this.symm a b
  rcases hl with rfl|rfl|rfl
  ·left;have:=same _ h.tb.root (by rw[e1];rfl) (by rw[e2,w5 rfl];rfl);exact this.symm
  ·right;have hm':P%256=0:=hm;have hb':P+256<=4096:=hb;(have hP:P/256*256=P:=by omega);rcases h.l1 (P/256) (by omega) with⟨hd,_⟩|⟨hd,hk,t,ht,t1,t2,t3,t4,t5⟩
   ·rw[hP,w4] at hd;cases hd
   ·refine⟨P/256,by omega,(lw _ _).2 ⟨hk,by omega⟩,.inl ?_⟩;have hq2:=same t ht (by rw[t1,e1];rfl) (by rw[t2,e2,hP]);rw[<- hq2,Cr];exact La t3.symm t1 (by dsimp only;rw[t2];omega)
  ·right;have hm':P%16=0:=hm;have hb':P+16<=4096:=hb;(have hP:P/256*256+P/16%16*16=P:=by omega);have hnd2:nd H 2 (P/256*256)=true:=VQ (j:=P/16%16) (by omega) (by rw[hP];exact w4);rcases h.l1 (P/256) (by omega) with⟨hd,_⟩|⟨hd,hk,t,ht,t1,t2,t3,t4,t5⟩
   ·rw[hnd2] at hd;cases hd
   ·have h2:=h.l2 (P/256) (P/16%16) (by omega) (by omega) t ht t1 t2;rw[hP] at h2;refine⟨P/256,by omega,(lw _ _).2 ⟨hk,by omega⟩,.inr ⟨P/16%16,by omega,?_⟩⟩;rw[t3];rcases h2 with⟨hs16,_⟩|⟨_,hd3,_⟩|⟨_,_,k2,u,hu,u1,u2,u3,u4,u5⟩
    ·have:=Pr h.lay P (by omega) hm' hs16;rw[w4] at this;cases this
    ·rw[w4] at hd3;cases hd3
    ·refine⟨(lw _ _).2 ⟨k2,by omega⟩,?_⟩;have hq2:=same u hu (by rw[u1,e1];rfl) (by rw[u2,e2]);rw[<- hq2,Fh,t3];exact La u3.symm u1 (by dsimp only;rw[u2];omega)
theorem Dd.sorted{H:Nat->Ht}{n:Nat}{all:List P3}{A:List Int}(h:Dd H n all A):(A7 A).Pairwise (fun a b=>key a<key b):=by
 have hn0:An A.length≠0:=by rw[h.len];have:=h.n1;omega
 unfold A7;rw[if_neg hn0];exact(Ek A _).sorted
theorem Dd.dis{H:Nat->Ht}{n:Nat}{all:List P3}{A:List Int}(h:Dd H n all A):Ei (A7 A):=by
 refine List.Pairwise.imp_of_mem (fun {a b} ha hb hlt e=>?_) h.sorted;have:=h.tb.dis.eq ((h.mem a).1 ha) ((h.mem b).1 hb) e;rw[this] at hlt;omega
theorem Nk{ps:List P3}(h:Ei ps)(i:Nat)(hi:i<ps.length):EQ ps i=true:=by
 unfold EQ;rw[List.all_eq_true];intro j hj;have hj':=List.mem_range.1 hj;have:=List.pairwise_iff_getElem.1 h j i (by omega) hi hj';have ei:Aq ps i=ps[i]:=by unfold Aq;rw[List.getD_eq_getElem?_getD,List.getElem?_eq_getElem hi];rfl
 have ej:Aq ps j=ps[j]'(by omega):=by unfold Aq;rw[List.getD_eq_getElem?_getD,List.getElem?_eq_getElem (by omega)];rfl
 rw[ei,ej];simp;exact fun e=>this e.symm
theorem Dd.tree{H:Nat->Ht}{n:Nat}{all:List P3}{A:List Int}(h:Dd H n all A):Be A=true:=by
 have hn0:An A.length≠0:=by rw[h.len];have:=h.n1;omega
 rw[LH A hn0,Bool.and_eq_true];constructor
 ·unfold QV;rw[List.all_eq_true];intro p hp;have hp':=List.mem_range.1 hp;unfold Zl;rw[h.walk p hp'];have:(H p).k≠3:=by
   by_cases hk:(H p).k=1
   ·omega
   ·rw[h.lay.zero p hp' hk];decide
  simp[this]
 ·unfold Q9;rw[List.all_eq_true];intro i hi;exact Nk h.dis i (List.mem_range.1 hi)
theorem Y7{xs:List AE}(hv:VS xs)(i:Nat)(hi:i<xs.length)(q:Int)(h:ID (AQ AA xs i) q=true):Dz xs q=IM (AQ AA xs i) q:=by
 refine Nd q xs i hi (fun j hj=>?_) h;have h1:=hv.lt j i hj hi;unfold ID at h ⊢;simp only[decide_eq_true_eq] at h;rw[decide_eq_false_iff_not];omega
theorem Vj{xs:List AE}(hv:VS xs){H:Nat->Ht}(hH:∀p,p<4096->H p=Dz xs p):P8 H:=by
 have hcase:∀p:Nat,p<4096->H p=Ru\/∃i,i<xs.length/\ID (AQ AA xs i) p=true/\H p=IM (AQ AA xs i) p:=by
  intro p hp;rw[hH p hp];by_cases h:∃i,i<xs.length/\ID (AQ AA xs i) p=true
  ·obtain⟨i,hi,hin⟩:=h;exact .inr ⟨i,hi,hin,Y7 hv i hi p hin⟩
  ·left;refine Nl p xs (fun j hj=>?_);cases hc:ID (AQ AA xs j) p
   ·rfl
   ·exact absurd ⟨j,hj,hc⟩ h
 refine⟨fun p hp hk=>?_,fun p hp hk=>?_,fun p hp hs=>?_⟩
 ·rcases hcase p hp with e|⟨i,hi,hin,e⟩
  ·exact e
  ·rw[e] at hk;exact absurd rfl hk
 ·rcases hcase p hp with e|⟨i,hi,hin,e⟩
  ·rw[e] at hk;exact absurd hk (by decide)
  ·have hso:=BC.1 (hv.1 i hi);unfold ID at hin;simp only[decide_eq_true_eq] at hin;rw[e];unfold IM;dsimp only;refine⟨by omega,by omega,by omega,by omega,?_⟩;split
   ·right;rfl
   ·left;rfl
 ·rcases hcase p hp with e|⟨i,hi,hin,e⟩
  ·rw[e] at hs;exact absurd hs (by decide)
  ·rw[e] at hs;have hb:DO (AQ AA xs i) p=true:=by
    unfold IM at hs;dsimp only at hs;cases hc:DO (AQ AA xs i) p
    ·rw[hc] at hs;exact absurd hs (by decide)
    ·rfl
   have hb2:=hb;unfold DO at hb2;simp only[Bool.and_eq_true,decide_eq_true_eq] at hb2;obtain⟨hh,b1,b2,b3⟩:=hb2;have hgrp:∀j:Nat,j<16->H (p-p%16+j)=⟨1,(AQ AA xs i).out+((p-p%16+j:Nat):Int)-(AQ AA xs i).page,(AQ AA xs i).perm,16⟩:=by
    intro j hj;(have hlt:p-p%16+j<4096:=by omega);have hinj:ID (AQ AA xs i) ((p-p%16+j:Nat):Int)=true:=by
     unfold ID;rw[decide_eq_true_eq];omega
    rw[hH _ hlt,Y7 hv i hi _ hinj];unfold IM;have hbj:DO (AQ AA xs i) ((p-p%16+j:Nat):Int)=true:=by
     unfold DO;(have e16:((p-p%16+j:Nat):Int)-((p-p%16+j:Nat):Int)%16=(p:Int)-(p:Int)%16:=by omega);rw[hh,e16];simp only[Bool.true_and,decide_eq_true_eq];exact⟨b1,b2,b3⟩
    rw[hbj];rfl
   have h0:=hgrp 0 (by omega);rw[Nat.add_zero] at h0;refine⟨?_,fun j hj=>?_⟩
   ·rw[h0];dsimp only;omega
   ·rw[hgrp j hj,h0];dsimp only;congr 1;omega
theorem Kk{zs:List Int}{n:Nat}{H:Nat->Ht}(hlay:P8 H)(hz:An zs.length=n)(hn:1<=n)(ht:Be zs=true)(hw:(AJ H 256).length<=n):Dd H n (AW H (A7 zs)) (D8 zs (Ao zs n H (A7 zs))):=by
 have hn0:An zs.length≠0:=by omega
 have hm:=Bz zs.length hn0;have hle:=Dv zs.length;have hlen:zs.length=n*16:=by omega
 have hpo:Bc n (A7 zs):=by
  unfold A7;rw[if_neg hn0,hz];exact Ek zs n
 have hd:=LN zs ht;have hall:=NK (H:=H) (by omega) hpo hd hw;refine⟨hlay,hall,by rw[DB];exact hz,hn,by omega,fun t htm i hi=>?_⟩;have:=PZ (H:=H) hlen (by omega) hpo hd hw htm hi;have hf:=(hall.fr t htm).1;have e:AC (D8 zs (Ao zs n H (A7 zs))) t.fr i=(D8 zs (Ao zs n H (A7 zs))).getD (t.fr*16+i).toNat 0:=by
  unfold AC;congr 1;omega
 rw[e];exact this
structure Ap (zs:List Int) (n:Nat) (H:Nat->Ht):Prop where
 lay:P8 H
 nf:An zs.length=n
 pos:1<=n
 tree:Be zs=true
 room:(AJ H 256).length<=n
 nn:∀i,0<=zs.getD i 0
theorem Ap.plc{zs:List Int}{n:Nat}{H:Nat->Ht}(h:Ap zs n H):Bc n (A7 zs):=by
 have hn0:An zs.length≠0:=by rw[h.nf];have:=h.pos;omega
 unfold A7;rw[if_neg hn0,h.nf];exact Ek zs n
theorem Ap.all{zs:List Int}{n:Nat}{H:Nat->Ht}(h:Ap zs n H):Kq H n (AW H (A7 zs)) :=
 NK (by have:=h.pos;omega) h.plc (LN zs h.tree) h.room
theorem Ap.n2{zs:List Int}{n:Nat}{H:Nat->Ht}(h:Ap zs n H):n<=512:=by
 have:=Dv zs.length;have:=h.nf;omega
theorem Rs(l x:Int)(hx:0<=x)(h:AG l x=1\/AG l x=2\/AG l x=3):x=Aw l (AG l x) (AX l x) (Ak l x)/\0<=AX l x/\AX l x<65536/\x%2=1:=by
 have hO:AX l x=x/4096%65536:=by unfold AX;rw[if_neg (by omega)]
 have hP:Ak l x=x/4%8:=by unfold Ak;rw[if_neg (by omega)]
 have key:Cs (AG l x) (AX l x) (Ak l x)=x/\x%2=1:=by
  rw[hO,hP];revert h;unfold AG;split
  ·intro h;omega
  ·split
   ·intro h;omega
   ·split
    ·intro h;omega
    ·rename_i h1 h2 h3;split
     ·intro _;unfold Cs;rw[if_neg (by decide)];omega
     ·split
      ·intro _;unfold Cs;rw[if_pos rfl];omega
      ·split
       ·intro _;unfold Cs;rw[if_neg (by decide)];omega
       ·intro h;omega
 refine⟨?_,by omega,by omega,key.2⟩;unfold Aw;rw[if_pos ⟨h,by omega,by omega,by omega,by omega,by unfold Qo;rw[key.1];exact⟨rfl,rfl,rfl⟩⟩,key.1]
theorem Ub(l x:Int)(h1:1<=l)(h3:l<=3)(h:x%2=1):AG l x≠0:=by
 unfold AG;rw[if_neg (by omega),if_neg (by omega)];repeat' split
 all_goals decide
theorem Xr(l x:Int)(h:AG l x=1):Ak l x=0:=by
 have hP:Ak l x=x/4%8:=by unfold Ak;rw[if_neg (by omega)]
 rw[hP];revert h;unfold AG;repeat' split
 all_goals intro h
 all_goals first|omega|(exact absurd h (by decide))
theorem YL(x:Int):AG 1 x=0\/AG 1 x=1\/AG 1 x=4:=by
 unfold AG;repeat' split
 all_goals first|omega|decide
theorem Ye(x:Int):AG 2 x=0\/AG 2 x=1\/AG 2 x=2\/AG 2 x=4:=by
 unfold AG;repeat' split
 all_goals first|omega|decide
theorem Z4(x:Int):AG 3 x=0\/AG 3 x=3\/AG 3 x=4:=by
 unfold AG;repeat' split
 all_goals first|omega|decide
theorem JV(l x:Int)(h1:1<=l)(h3:l<=3)(h:AG l x=0):x%2=0:=by
 by_cases he:x%2=1
 ·exact absurd h (Ub l x h1 h3 he)
 ·omega
theorem Ap.w1{zs:List Int}{n:Nat}{H:Nat->Ht}(h:Ap zs n H)(p:Nat)(hp:p<4096):GI n 1 (DG zs p)=false/\(Av n 1 (DG zs p)=true->GI n 2 (DW zs p)=false/\(Av n 2 (DW zs p)=true->GI n 3 (JD zs p)=false)):=by
 have hn0:An zs.length≠0:=by rw[h.nf];have:=h.pos;omega
 have ht:=h.tree;rw[LH zs hn0,Bool.and_eq_true] at ht;have hk:=List.all_eq_true.1 ht.1 p (List.mem_range.2 hp);have hne:¬(BG zs (p:Nat)).kind=3:=by
  unfold Zl at hk;simpa using hk
 rw[Gt zs p hn0 hp,h.nf] at hne;refine⟨?_,fun h1=>⟨?_,fun h2=>?_⟩⟩
 ·cases hb:GI (n:Int) 1 (DG zs p)
  ·rfl
  ·exact absurd (.inl hb) hne
 ·cases hb:GI (n:Int) 2 (DW zs p)
  ·rfl
  ·exact absurd (.inr ⟨h1,.inl hb⟩) hne
 ·cases hb:GI (n:Int) 3 (JD zs p)
  ·rfl
  ·exact absurd (.inr ⟨h1,.inr ⟨h2,hb⟩⟩) hne
theorem aK{zs:List Int}{n:Nat}{H:Nat->Ht}(h:Ap zs n H)(f:Int)(i:Nat):0<=AC zs f i:=by unfold AC;exact h.nn _
theorem G1(n l x:Int):Av n l x=true↔AG l x=1/\AX l x<n:=by unfold Av;simp
theorem Qi{n l x:Int}(h:GI n l x=false):AG l x≠4/\(AG l x=1->AX l x<n):=by
 unfold GI at h;simp at h;exact⟨h.1,h.2⟩
theorem Ap.c1{zs:List Int}{n:Nat}{H:Nat->Ht}(h:Ap zs n H)(p:Nat)(hp:p<4096):(DG zs p%2=0/\AG 1 (DG zs p)=0/\Av n 1 (DG zs p)=false)\/(Av n 1 (DG zs p)=true/\DG zs p=Aw 1 1 (AX 1 (DG zs p)) 0/\0<=AX 1 (DG zs p)):=by
 have hb:=Qi (h.w1 p hp).1;have hx:0<=DG zs p:=aK h _ _;generalize DG zs p=x at *;rcases YL x with e|e|e
 ·left;refine⟨JV 1 x (by omega) (by omega) e,e,?_⟩;unfold Av;rw[e];rfl
 ·right;obtain⟨a,b,c,d⟩:=Rs 1 x hx (.inl e);rw[Xr 1 x e,e] at a;exact⟨(G1 _ _ _).2 ⟨e,hb.2 e⟩,a,b⟩
 ·exact absurd e hb.1
theorem Ap.c2{zs:List Int}{n:Nat}{H:Nat->Ht}(h:Ap zs n H)(p:Nat)(hp:p<4096)(hl:Av n 1 (DG zs p)=true):(DW zs p%2=0/\AG 2 (DW zs p)=0/\Av n 2 (DW zs p)=false)\/(Av n 2 (DW zs p)=true/\DW zs p=Aw 2 1 (AX 2 (DW zs p)) 0/\0<=AX 2 (DW zs p)) \/ (AG 2 (DW zs p)=2/\Av n 2 (DW zs p)=false/\DW zs p=Aw 2 2 (AX 2 (DW zs p)) (Ak 2 (DW zs p))):=by
 have hb:=Qi ((h.w1 p hp).2 hl).1;have hx:0<=DW zs p:=aK h _ _;generalize DW zs p=x at *;rcases Ye x with e|e|e|e
 ·left;refine⟨JV 2 x (by omega) (by omega) e,e,?_⟩;unfold Av;rw[e];rfl
 ·right;left;obtain⟨a,b,c,d⟩:=Rs 2 x hx (.inl e);rw[Xr 2 x e,e] at a;exact⟨(G1 _ _ _).2 ⟨e,hb.2 e⟩,a,b⟩
 ·right;right;obtain⟨a,b,c,d⟩:=Rs 2 x hx (.inr (.inl e));rw[e] at a;refine⟨e,?_,a⟩;unfold Av;rw[e];rfl
 ·exact absurd e hb.1
theorem Ap.c3{zs:List Int}{n:Nat}{H:Nat->Ht}(h:Ap zs n H)(p:Nat)(hp:p<4096)(hl:Av n 1 (DG zs p)=true)(hl2:Av n 2 (DW zs p)=true):(JD zs p%2=0/\AG 3 (JD zs p)=0)\/(AG 3 (JD zs p)=3/\JD zs p=Aw 3 3 (AX 3 (JD zs p)) (Ak 3 (JD zs p))):=by
 have hb:=Qi (((h.w1 p hp).2 hl).2 hl2);have hx:0<=JD zs p:=aK h _ _;generalize JD zs p=x at *;rcases Z4 x with e|e|e
 ·left;exact⟨JV 3 x (by omega) (by omega) e,e⟩
 ·right;obtain⟨a,b,c,d⟩:=Rs 3 x hx (.inr (.inr e));rw[e] at a;exact⟨e,a⟩
 ·exact absurd e hb.1
theorem Ap.neg{zs:List Int}{n:Nat}{H:Nat->Ht}(h:Ap zs n H){l P:Int}(hf:AI (A7 zs) l P<0):∀q∈A7 zs,¬(q.lv=l/\q.pg=P):=fun q hq e=>by
 have h1:=Cg h.plc.sorted hq;have h2:=(h.plc.fr (by have:=h.pos;omega) hq).1;rw[e.1,e.2] at h1;omega
theorem Ap.o2{zs:List Int}{n:Nat}{H:Nat->Ht}(h:Ap zs n H)(p:Nat)(hp:p<4096)(hm:p%256=0):(Av n 1 (DG zs p)=true->AI (A7 zs) 2 p=AX 1 (DG zs p))/\(0<=AI (A7 zs) 2 p->Av n 1 (DG zs p)=true):=by
 have hn0:An zs.length≠0:=by rw[h.nf];have:=h.pos;omega
 constructor
 ·intro hl;have hm2:Af zs root (p/256)∈A7 zs:=by
   rw[BI zs hn0,h.nf];exact .inr ⟨p/256,by omega,hl,.inl rfl⟩
  have:=Cg h.plc.sorted hm2;rw[Cr] at this;dsimp only at this;rw[show ((p/256:Nat):Int)*256=(p:Int) by omega] at this;exact this
 ·intro h0;obtain⟨q,hq,e1,e2,_⟩:=Co h0;rw[BI zs hn0,h.nf] at hq;rcases hq with rfl|⟨i,hi,hl,rfl|⟨j,hj,hl2,rfl⟩⟩
  ·exact absurd e1 (by decide)
  ·rw[Cr] at e2;dsimp only at e2;unfold DG;rw[show p/256=i by omega];exact hl
  ·rw[Fh] at e1;exact absurd (show (3:Int)=2 from e1) (by decide)
theorem Ap.o3{zs:List Int}{n:Nat}{H:Nat->Ht}(h:Ap zs n H)(p:Nat)(hp:p<4096)(hm:p%16=0):(Av n 1 (DG zs p)=true->Av n 2 (DW zs p)=true->AI (A7 zs) 3 p=AX 2 (DW zs p))/\(0<=AI (A7 zs) 3 p->Av n 1 (DG zs p)=true/\Av n 2 (DW zs p)=true):=by
 have hn0:An zs.length≠0:=by rw[h.nf];have:=h.pos;omega
 constructor
 ·intro hl hl2;have hm2:Af zs (Af zs root (p/256)) (p/16%16)∈A7 zs:=by
   rw[BI zs hn0,h.nf];exact .inr ⟨p/256,by omega,hl,.inr ⟨p/16%16,by omega,hl2,rfl⟩⟩
  have:=Cg h.plc.sorted hm2;rw[Fh] at this;dsimp only at this;rw[show ((p/256:Nat):Int)*256+((p/16%16:Nat):Int)*16=(p:Int) by omega] at this;exact this
 ·intro h0;obtain⟨q,hq,e1,e2,_⟩:=Co h0;rw[BI zs hn0,h.nf] at hq;rcases hq with rfl|⟨i,hi,hl,rfl|⟨j,hj,hl2,rfl⟩⟩
  ·exact absurd e1 (by decide)
  ·rw[Cr] at e1;exact absurd (show (2:Int)=3 from e1) (by decide)
  ·rw[Fh] at e2;dsimp only at e2;(have a1:p/256=i:=by omega);(have a2:p/16%16=j:=by omega);unfold DW DG;rw[a1,a2];exact⟨hl,hl2⟩
theorem Ap.kp{zs:List Int}{n:Nat}{H:Nat->Ht}(h:Ap zs n H)(l P:Nat):AI (AF H (A7 zs)) l P=if nd H l P=true then AI (A7 zs) l P else -1:=by
 split
 ·rename_i hd;by_cases h0:0<=AI (A7 zs) l P
  ·obtain⟨q,hq,e1,e2,e3⟩:=Co h0
   have hk:q∈AF H (A7 zs):=BB.2 ⟨hq,by
    unfold PP
    rw[e1,e2,Int.toNat_natCast,Int.toNat_natCast]
    exact hd⟩
   have:=Cg (D3 H h.plc) hk;rw[e1,e2] at this;rw[this,e3]
  ·have hno:=h.neg (l:=l) (P:=P) (by omega);rw[Em (fun q hq=>hno q (BB.1 hq).1),Em hno]
 ·rename_i hd;refine Em (fun q hq e=>hd ?_);have:=(BB.1 hq).2;unfold PP at this;rwa [e.1,e.2,Int.toNat_natCast,Int.toNat_natCast] at this
theorem Ap.al{zs:List Int}{n:Nat}{H:Nat->Ht}(h:Ap zs n H)(l P:Nat)(h0:0<=AI (AF H (A7 zs)) l P):AI (AW H (A7 zs)) l P=AI (AF H (A7 zs)) l P:=by
 unfold AW;rw[KF];obtain⟨q,hq,e1,e2,e3⟩:=Co h0;have hsome:((AF H (A7 zs)).find? (B5 (l:Int) (P:Int))).isSome:=by
  rw[List.find?_isSome];exact⟨q,hq,by unfold B5;simp[e1,e2]⟩
 rw[if_pos hsome]
theorem Ap.now{zs:List Int}{n:Nat}{H:Nat->Ht}(h:Ap zs n H){l P:Nat}(h0:0<=AI (AW H (A7 zs)) l P):nd H l P=true:=by
 obtain⟨q,hq,e1,e2,e3⟩:=Co h0;obtain⟨s,hs,a,b⟩:=h.all.seat q hq;have:=(BY hs).2.2.2.1;have e1':s.1=l:=by omega
 have e2':s.2=P:=by omega
 rwa [e1',e2'] at this
theorem Ap.n2'{zs:List Int}{n:Nat}{H:Nat->Ht}(h:Ap zs n H){P:Nat}(hP:P<4096)(hm:P%256=0)(hd:nd H 2 P=true):0<=AI (AW H (A7 zs)) 2 P:=by
 have e:P/256*256=P:=by omega
 have:=h.all.of (Lg (i:=P/256) (by omega) (by rw[e];exact hd));rw[e] at this;obtain⟨t,_,_,_,a,b,_⟩:=this;rw[show ((2:Nat):Int)=2 from rfl] at a;omega
theorem Ap.n3'{zs:List Int}{n:Nat}{H:Nat->Ht}(h:Ap zs n H){P:Nat}(hP:P<4096)(hm:P%16=0)(hd:nd H 3 P=true):0<=AI (AW H (A7 zs)) 3 P:=by
 have e:P/16*16=P:=by omega
 have:=h.all.of (L9 (g:=P/16) (by omega) (by rw[e];exact hd));rw[e] at this;obtain⟨t,_,_,_,a,b,_⟩:=this;rw[show ((3:Nat):Int)=3 from rfl] at a;omega
end Go.Proofs.YtnmhkgmmpkjjeaaGreat
