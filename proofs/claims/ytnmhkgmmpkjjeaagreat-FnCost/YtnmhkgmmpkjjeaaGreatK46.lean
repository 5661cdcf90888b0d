import Derived.Test.YtnmhkgmmpkjjeaaGreatK45
namespace Go.Proofs.YtnmhkgmmpkjjeaaGreat
set_option linter.unusedVariables false
set_option maxRecDepth 100000
theorem LJ {a b:P3} (h1:a.fr=b.fr) (h2:a.lv=b.lv) (h3:a.pg=b.pg):a=b:=by
 cases a;cases b;simp_all
theorem Gl.mem {H:Nat->Ht} {n:Nat} {all:List P3} {A:List Int} (h:Gl H n all A) (q:P3):q∈A8 A↔q∈all:=by
 have hn0:An A.length≠0:=by rw[h.len];have:=h.n1;omega
 have lw:∀l x,At (n:Int) l x=true↔AF l x=1/\AQ l x<n:=by
  intro l x;unfold At;simp
 rw[Cs A hn0,h.len];constructor
 ·rintro(e|⟨i,hi,l1,e|⟨j,hj,l2,e⟩⟩)
  ·rw[e];exact h.tb.root
  ·rcases h.l1 i hi with⟨_,hk⟩|⟨_,hk,t,ht,t1,t2,t3,_,_⟩
   ·have:=((lw _ _).1 l1).1;omega
   ·have:q=t:=by
     rw[e,Fz];exact LJ t3 t1.symm (by dsimp only;rw[t2];omega)
    rw[this];exact ht
  ·rcases h.l1 i hi with⟨_,hk⟩|⟨_,hk,t,ht,t1,t2,t3,_,_⟩
   ·have:=((lw _ _).1 l1).1;omega
   ·rw[t3] at l2;have hk2:=((lw _ _).1 l2).1;rcases h.l2 i j hi hj t ht t1 t2 with⟨_,k2,_⟩|⟨_,_,k2⟩|⟨_,_,_,u,hu,u1,u2,u3,_,_⟩
    ·omega
    ·omega
    ·have:q=u:=by
      rw[e,IF,t3];exact LJ u3 u1.symm (by dsimp only;rw[u2];omega)
     rw[this];exact hu
 ·intro hq;obtain⟨s,hs,e1,e2⟩:=h.tb.seat q hq;obtain⟨w1,w2,w3,w4,w5,w6⟩:=Bo hs;obtain⟨hl,hm,hb⟩:=Kv hs;have huq:=h.tb.uniq q hq;obtain⟨L,P⟩:=s;dsimp only at *;have same:∀t,t∈all->t.lv=q.lv->t.pg=q.pg->t=q:=fun t ht a b=>by
   have:=h.tb.uniq t ht;rw[a,b,huq] at this;exact LJ this.symm a b
  rcases hl with rfl|rfl|rfl
  ·left;have:=same _ h.tb.root (by rw[e1];rfl) (by rw[e2,w5 rfl];rfl);exact this.symm
  ·right;have hm':P%256=0:=hm;have hb':P+256<=4096:=hb;(have hP:P/256*256=P:=by omega);rcases h.l1 (P/256) (by omega) with⟨hd,_⟩|⟨hd,hk,t,ht,t1,t2,t3,t4,t5⟩
   ·rw[hP,w4] at hd;cases hd
   ·refine⟨P/256,by omega,(lw _ _).2 ⟨hk,by omega⟩,.inl ?_⟩;have hq2:=same t ht (by rw[t1,e1];rfl) (by rw[t2,e2,hP]);rw[<- hq2,Fz];exact LJ t3.symm t1 (by dsimp only;rw[t2];omega)
  ·right;have hm':P%16=0:=hm;have hb':P+16<=4096:=hb;(have hP:P/256*256+P/16%16*16=P:=by omega);have hnd2:nd H 2 (P/256*256)=true:=UN (j:=P/16%16) (by omega) (by rw[hP];exact w4);rcases h.l1 (P/256) (by omega) with⟨hd,_⟩|⟨hd,hk,t,ht,t1,t2,t3,t4,t5⟩
   ·rw[hnd2] at hd;cases hd
   ·have h2:=h.l2 (P/256) (P/16%16) (by omega) (by omega) t ht t1 t2;rw[hP] at h2;refine⟨P/256,by omega,(lw _ _).2 ⟨hk,by omega⟩,.inr ⟨P/16%16,by omega,?_⟩⟩;rw[t3];rcases h2 with⟨hs16,_⟩|⟨_,hd3,_⟩|⟨_,_,k2,u,hu,u1,u2,u3,u4,u5⟩
    ·have:=KM h.lay P (by omega) hm' hs16;rw[w4] at this;cases this
    ·rw[w4] at hd3;cases hd3
    ·refine⟨(lw _ _).2 ⟨k2,by omega⟩,?_⟩;have hq2:=same u hu (by rw[u1,e1];rfl) (by rw[u2,e2]);rw[<- hq2,IF,t3];exact LJ u3.symm u1 (by dsimp only;rw[u2];omega)
theorem XJ {xs:List A9} (hv:VS xs) (i:Nat) (hi:i<xs.length) (q:Int) (h:I8 (AI A7 xs i) q=true):DO xs q=IG (AI A7 xs i) q:=by
 refine Mf q xs i hi (fun j hj=>?_) h;have h1:=hv.lt j i hj hi;unfold I8 at h ⊢;simp only[decide_eq_true_eq] at h;rw[decide_eq_false_iff_not];omega
theorem VA {xs:List A9} (hv:VS xs) {H:Nat->Ht} (hH:∀p,p<4096->H p=DO xs p):OY H:=by
 have hcase:∀p:Nat,p<4096->H p=RL\/∃i,i<xs.length/\I8 (AI A7 xs i) p=true/\H p=IG (AI A7 xs i) p:=by
  intro p hp;rw[hH p hp];by_cases h:∃i,i<xs.length/\I8 (AI A7 xs i) p=true
  ·obtain⟨i,hi,hin⟩:=h;exact .inr ⟨i,hi,hin,XJ hv i hi p hin⟩
  ·left;refine NV p xs (fun j hj=>?_);cases hc:I8 (AI A7 xs j) p
   ·rfl
   ·exact absurd ⟨j,hj,hc⟩ h
 refine⟨fun p hp hk=>?_,fun p hp hk=>?_,fun p hp hs=>?_⟩
 ·rcases hcase p hp with e|⟨i,hi,hin,e⟩
  ·exact e
  ·rw[e] at hk;exact absurd rfl hk
 ·rcases hcase p hp with e|⟨i,hi,hin,e⟩
  ·rw[e] at hk;exact absurd hk (by decide)
  ·have hso:=Av.1 (hv.1 i hi);unfold I8 at hin;simp only[decide_eq_true_eq] at hin;rw[e];unfold IG;dsimp only;refine⟨by omega,by omega,by omega,by omega,?_⟩;split
   ·right;rfl
   ·left;rfl
 ·rcases hcase p hp with e|⟨i,hi,hin,e⟩
  ·rw[e] at hs;exact absurd hs (by decide)
  ·rw[e] at hs;have hb:DC (AI A7 xs i) p=true:=by
    unfold IG at hs;dsimp only at hs;cases hc:DC (AI A7 xs i) p
    ·rw[hc] at hs;exact absurd hs (by decide)
    ·rfl
   have hb2:=hb;unfold DC at hb2;simp only[Bool.and_eq_true,decide_eq_true_eq] at hb2;obtain⟨hh,b1,b2,b3⟩:=hb2;have hso:=Av.1 (hv.1 i hi);have hgrp:∀j:Nat,j<16->H (p-p%16+j)=⟨1,(AI A7 xs i).out+((p-p%16+j:Nat):Int)-(AI A7 xs i).page,(AI A7 xs i).perm,16⟩:=by
    intro j hj;(have hlt:p-p%16+j<4096:=by omega);have hinj:I8 (AI A7 xs i) ((p-p%16+j:Nat):Int)=true:=by
     unfold I8;rw[decide_eq_true_eq];omega
    rw[hH _ hlt,XJ hv i hi _ hinj];unfold IG;have hbj:DC (AI A7 xs i) ((p-p%16+j:Nat):Int)=true:=by
     unfold DC;(have e16:((p-p%16+j:Nat):Int)-((p-p%16+j:Nat):Int)%16=(p:Int)-(p:Int)%16:=by omega);rw[hh,e16];simp only[Bool.true_and,decide_eq_true_eq];exact⟨b1,b2,b3⟩
    rw[hbj];rfl
   have h0:=hgrp 0 (by omega);rw[Nat.add_zero] at h0;refine⟨?_,fun j hj=>?_⟩
   ·rw[h0];dsimp only;omega
   ·rw[hgrp j hj,h0];dsimp only;congr 1;omega
theorem QD {zs:List Int} {n:Nat} {H:Nat->Ht} (hlay:OY H) (hz:An zs.length=n) (hn:1<=n) (ht:BM zs=true) (hw:(AC H 256).length<=n):Gl H n (AU H (A8 zs)) (EQ zs (C8 zs n H (A8 zs))):=by
 have hn0:An zs.length≠0:=by omega
 have hm:=C5 zs.length hn0;have hle:=Ek zs.length;have hlen:zs.length=n*16:=by omega
 have hpo:BO n (A8 zs):=by
  unfold A8;rw[if_neg hn0,hz];exact Gr zs n
 have hd:=PL zs ht;have hall:=Nh (H:=H) (by omega) hpo hd hw;refine⟨hlay,hall,by rw[E7];exact hz,hn,by omega,fun t htm i hi=>?_⟩;have:=Oa (H:=H) hlen (by omega) hpo hd hw htm hi;have hf:=(hall.fr t htm).1;have e:AG (EQ zs (C8 zs n H (A8 zs))) t.fr i=(EQ zs (C8 zs n H (A8 zs))).getD (t.fr*16+i).toNat 0:=by
  unfold AG;congr 1;omega
 rw[e];exact this
structure B6 (zs:List Int) (n:Nat) (H:Nat->Ht):Prop where
 lay:OY H
 nf:An zs.length=n
 pos:1<=n
 tree:BM zs=true
 room:(AC H 256).length<=n
 nn:∀i,0<=zs.getD i 0
theorem B6.plc {zs:List Int} {n:Nat} {H:Nat->Ht} (h:B6 zs n H):BO n (A8 zs):=by
 have hn0:An zs.length≠0:=by rw[h.nf];have:=h.pos;omega
 unfold A8;rw[if_neg hn0,h.nf];exact Gr zs n
theorem B6.all {zs:List Int} {n:Nat} {H:Nat->Ht} (h:B6 zs n H):Kz H n (AU H (A8 zs)) :=
 Nh (by have:=h.pos;omega) h.plc (PL zs h.tree) h.room
theorem Qx (l x:Int) (hx:0<=x) (h:AF l x=1\/AF l x=2\/AF l x=3):x=Am l (AF l x) (AQ l x) (Ae l x)/\0<=AQ l x/\AQ l x<65536/\x%2=1:=by
 have hO:AQ l x=x/4096%65536:=by unfold AQ;rw[if_neg (by omega)]
 have hP:Ae l x=x/4%8:=by unfold Ae;rw[if_neg (by omega)]
 have key:Cf (AF l x) (AQ l x) (Ae l x)=x/\x%2=1:=by
  rw[hO,hP];revert h;unfold AF;split
  ·intro h;omega
  ·split
   ·intro h;omega
   ·split
    ·intro h;omega
    ·rename_i h1 h2 h3;split
     ·intro _;unfold Cf;rw[if_neg (by decide)];omega
     ·split
      ·intro _;unfold Cf;rw[if_pos rfl];omega
      ·split
       ·intro _;unfold Cf;rw[if_neg (by decide)];omega
       ·intro h;omega
 refine⟨?_,by omega,by omega,key.2⟩;unfold Am;rw[if_pos ⟨h,by omega,by omega,by omega,by omega,by unfold Qo;rw[key.1];exact⟨rfl,rfl,rfl⟩⟩,key.1]
theorem UC (l x:Int) (h1:1<=l) (h3:l<=3) (h:x%2=1):AF l x≠0:=by
 unfold AF;rw[if_neg (by omega),if_neg (by omega)];repeat' split
 all_goals decide
theorem Wj (l x:Int) (h:AF l x=1):Ae l x=0:=by
 have hP:Ae l x=x/4%8:=by unfold Ae;rw[if_neg (by omega)]
 rw[hP];revert h;unfold AF;repeat' split
 all_goals intro h
 all_goals first|omega|(exact absurd h (by decide))
theorem Xs (x:Int):AF 1 x=0\/AF 1 x=1\/AF 1 x=4:=by
 unfold AF;repeat' split
 all_goals first|omega|decide
theorem XO (x:Int):AF 2 x=0\/AF 2 x=1\/AF 2 x=2\/AF 2 x=4:=by
 unfold AF;repeat' split
 all_goals first|omega|decide
theorem XW (x:Int):AF 3 x=0\/AF 3 x=3\/AF 3 x=4:=by
 unfold AF;repeat' split
 all_goals first|omega|decide
theorem JP (l x:Int) (h1:1<=l) (h3:l<=3) (h:AF l x=0):x%2=0:=by
 by_cases he:x%2=1
 ·exact absurd h (UC l x h1 h3 he)
 ·omega
theorem B6.w1 {zs:List Int} {n:Nat} {H:Nat->Ht} (h:B6 zs n H) (p:Nat) (hp:p<4096):Fe n 1 (DV zs p)=false/\(At n 1 (DV zs p)=true->Fe n 2 (D6 zs p)=false/\(At n 2 (D6 zs p)=true->Fe n 3 (Ii zs p)=false)):=by
 have hn0:An zs.length≠0:=by rw[h.nf];have:=h.pos;omega
 have ht:=h.tree;rw[Qj zs hn0,Bool.and_eq_true] at ht;have hk:=List.all_eq_true.1 ht.1 p (List.mem_range.2 hp);have hne:¬(BT zs (p:Nat)).kind=3:=by
  unfold Yn at hk;simpa using hk
 rw[Gj zs p hn0 hp,h.nf] at hne;refine⟨?_,fun h1=>⟨?_,fun h2=>?_⟩⟩
 ·cases hb:Fe (n:Int) 1 (DV zs p)
  ·rfl
  ·exact absurd (.inl hb) hne
 ·cases hb:Fe (n:Int) 2 (D6 zs p)
  ·rfl
  ·exact absurd (.inr ⟨h1,.inl hb⟩) hne
 ·cases hb:Fe (n:Int) 3 (Ii zs p)
  ·rfl
  ·exact absurd (.inr ⟨h1,.inr ⟨h2,hb⟩⟩) hne
theorem Z1 {zs:List Int} {n:Nat} {H:Nat->Ht} (h:B6 zs n H) (f:Int) (i:Nat):0<=AG zs f i:=by unfold AG;exact h.nn _
theorem IJ (n l x:Int):At n l x=true↔AF l x=1/\AQ l x<n:=by unfold At;simp
theorem QW {n l x:Int} (h:Fe n l x=false):AF l x≠4/\(AF l x=1->AQ l x<n):=by
 unfold Fe at h;simp at h;exact⟨h.1,h.2⟩
theorem B6.c1 {zs:List Int} {n:Nat} {H:Nat->Ht} (h:B6 zs n H) (p:Nat) (hp:p<4096) : (DV zs p%2=0/\AF 1 (DV zs p)=0/\At n 1 (DV zs p)=false)\/(At n 1 (DV zs p)=true/\DV zs p=Am 1 1 (AQ 1 (DV zs p)) 0/\0<=AQ 1 (DV zs p)):=by
 have hb:=QW (h.w1 p hp).1;have hx:0<=DV zs p:=Z1 h _ _;generalize DV zs p=x at *;rcases Xs x with e|e|e
 ·left;refine⟨JP 1 x (by omega) (by omega) e,e,?_⟩;unfold At;rw[e];rfl
 ·right;obtain⟨a,b,c,d⟩:=Qx 1 x hx (.inl e);rw[Wj 1 x e,e] at a;exact⟨(IJ _ _ _).2 ⟨e,hb.2 e⟩,a,b⟩
 ·exact absurd e hb.1
theorem B6.c2 {zs:List Int} {n:Nat} {H:Nat->Ht} (h:B6 zs n H) (p:Nat) (hp:p<4096) (hl:At n 1 (DV zs p)=true) : (D6 zs p%2=0/\AF 2 (D6 zs p)=0/\At n 2 (D6 zs p)=false)\/(At n 2 (D6 zs p)=true/\D6 zs p=Am 2 1 (AQ 2 (D6 zs p)) 0/\0<=AQ 2 (D6 zs p)) \/ (AF 2 (D6 zs p)=2/\At n 2 (D6 zs p)=false/\D6 zs p=Am 2 2 (AQ 2 (D6 zs p)) (Ae 2 (D6 zs p))):=by
 have hb:=QW ((h.w1 p hp).2 hl).1;have hx:0<=D6 zs p:=Z1 h _ _;generalize D6 zs p=x at *;rcases XO x with e|e|e|e
 ·left;refine⟨JP 2 x (by omega) (by omega) e,e,?_⟩;unfold At;rw[e];rfl
 ·right;left;obtain⟨a,b,c,d⟩:=Qx 2 x hx (.inl e);rw[Wj 2 x e,e] at a;exact⟨(IJ _ _ _).2 ⟨e,hb.2 e⟩,a,b⟩
 ·right;right;obtain⟨a,b,c,d⟩:=Qx 2 x hx (.inr (.inl e));rw[e] at a;refine⟨e,?_,a⟩;unfold At;rw[e];rfl
 ·exact absurd e hb.1
theorem B6.c3 {zs:List Int} {n:Nat} {H:Nat->Ht} (h:B6 zs n H) (p:Nat) (hp:p<4096) (hl:At n 1 (DV zs p)=true) (hl2:At n 2 (D6 zs p)=true) : (Ii zs p%2=0/\AF 3 (Ii zs p)=0)\/(AF 3 (Ii zs p)=3/\Ii zs p=Am 3 3 (AQ 3 (Ii zs p)) (Ae 3 (Ii zs p))):=by
 have hb:=QW (((h.w1 p hp).2 hl).2 hl2);have hx:0<=Ii zs p:=Z1 h _ _;generalize Ii zs p=x at *;rcases XW x with e|e|e
 ·left;exact⟨JP 3 x (by omega) (by omega) e,e⟩
 ·right;obtain⟨a,b,c,d⟩:=Qx 3 x hx (.inr (.inr e));rw[e] at a;exact⟨e,a⟩
 ·exact absurd e hb.1
theorem B6.neg {zs:List Int} {n:Nat} {H:Nat->Ht} (h:B6 zs n H) {l P:Int} (hf:AE (A8 zs) l P<0):∀q∈A8 zs,¬(q.lv=l/\q.pg=P):=fun q hq e=>by
 have h1:=Cg h.plc.sorted hq
 have h2:=(h.plc.fr (by have:=h.pos;omega) hq).1
 rw[e.1,e.2] at h1
 omega
theorem B6.o2 {zs:List Int} {n:Nat} {H:Nat->Ht} (h:B6 zs n H) (p:Nat) (hp:p<4096) (hm:p%256=0) : (At n 1 (DV zs p)=true->AE (A8 zs) 2 p=AQ 1 (DV zs p))/\(0<=AE (A8 zs) 2 p->At n 1 (DV zs p)=true):=by
 have hn0:An zs.length≠0:=by rw[h.nf];have:=h.pos;omega
 constructor
 ·intro hl;have hm2:Aq zs root (p/256)∈A8 zs:=by
   rw[Cs zs hn0,h.nf];exact .inr ⟨p/256,by omega,hl,.inl rfl⟩
  have:=Cg h.plc.sorted hm2;rw[Fz] at this;dsimp only at this;rw[show ((p/256:Nat):Int)*256=(p:Int) by omega] at this;exact this
 ·intro h0;obtain⟨q,hq,e1,e2,_⟩:=CI h0;rw[Cs zs hn0,h.nf] at hq;rcases hq with rfl|⟨i,hi,hl,rfl|⟨j,hj,hl2,rfl⟩⟩
  ·exact absurd e1 (by decide)
  ·rw[Fz] at e2;dsimp only at e2;unfold DV;rw[show p/256=i by omega];exact hl
  ·rw[IF] at e1;exact absurd (show (3:Int)=2 from e1) (by decide)
theorem B6.o3 {zs:List Int} {n:Nat} {H:Nat->Ht} (h:B6 zs n H) (p:Nat) (hp:p<4096) (hm:p%16=0) : (At n 1 (DV zs p)=true->At n 2 (D6 zs p)=true->AE (A8 zs) 3 p=AQ 2 (D6 zs p))/\(0<=AE (A8 zs) 3 p->At n 1 (DV zs p)=true/\At n 2 (D6 zs p)=true):=by
 have hn0:An zs.length≠0:=by rw[h.nf];have:=h.pos;omega
 constructor
 ·intro hl hl2;have hm2:Aq zs (Aq zs root (p/256)) (p/16%16)∈A8 zs:=by
   rw[Cs zs hn0,h.nf];exact .inr ⟨p/256,by omega,hl,.inr ⟨p/16%16,by omega,hl2,rfl⟩⟩
  have:=Cg h.plc.sorted hm2;rw[IF] at this;dsimp only at this;rw[show ((p/256:Nat):Int)*256+((p/16%16:Nat):Int)*16=(p:Int) by omega] at this;exact this
 ·intro h0;obtain⟨q,hq,e1,e2,_⟩:=CI h0;rw[Cs zs hn0,h.nf] at hq;rcases hq with rfl|⟨i,hi,hl,rfl|⟨j,hj,hl2,rfl⟩⟩
  ·exact absurd e1 (by decide)
  ·rw[Fz] at e1;exact absurd (show (2:Int)=3 from e1) (by decide)
  ·rw[IF] at e2;dsimp only at e2;(have a1:p/256=i:=by omega);(have a2:p/16%16=j:=by omega);unfold D6 DV;rw[a1,a2];exact⟨hl,hl2⟩
theorem B6.kp {zs:List Int} {n:Nat} {H:Nat->Ht} (h:B6 zs n H) (l P:Nat):AE (AA H (A8 zs)) l P=if nd H l P=true then AE (A8 zs) l P else -1:=by
 split
 ·rename_i hd;by_cases h0:0<=AE (A8 zs) l P
  ·obtain⟨q,hq,e1,e2,e3⟩:=CI h0
   have hk:q∈AA H (A8 zs):=BN.2 ⟨hq,by
    unfold SJ
    rw[e1,e2,Int.toNat_natCast,Int.toNat_natCast]
    exact hd⟩
   have:=Cg (Cm H h.plc) hk;rw[e1,e2] at this;rw[this,e3]
  ·have hno:=h.neg (l:=l) (P:=P) (by omega);rw[Fa (fun q hq=>hno q (BN.1 hq).1),Fa hno]
 ·rename_i hd;refine Fa (fun q hq e=>hd ?_);have:=(BN.1 hq).2;unfold SJ at this;rwa [e.1,e.2,Int.toNat_natCast,Int.toNat_natCast] at this
theorem B6.al {zs:List Int} {n:Nat} {H:Nat->Ht} (h:B6 zs n H) (l P:Nat) (h0:0<=AE (AA H (A8 zs)) l P):AE (AU H (A8 zs)) l P=AE (AA H (A8 zs)) l P:=by
 unfold AU;rw[Ja];obtain⟨q,hq,e1,e2,e3⟩:=CI h0;have hsome:((AA H (A8 zs)).find? (AJ (l:Int) (P:Int))).isSome:=by
  rw[List.find?_isSome];exact⟨q,hq,by unfold AJ;simp[e1,e2]⟩
 rw[if_pos hsome]
theorem B6.now {zs:List Int} {n:Nat} {H:Nat->Ht} (h:B6 zs n H) {l P:Nat} (h0:0<=AE (AU H (A8 zs)) l P):nd H l P=true:=by
 obtain⟨q,hq,e1,e2,e3⟩:=CI h0;obtain⟨s,hs,a,b⟩:=h.all.seat q hq;have:=(Bo hs).2.2.2.1;have e1':s.1=l:=by omega
 have e2':s.2=P:=by omega
 rwa [e1',e2'] at this
theorem B6.n2' {zs:List Int} {n:Nat} {H:Nat->Ht} (h:B6 zs n H) {P:Nat} (hP:P<4096) (hm:P%256=0) (hd:nd H 2 P=true):0<=AE (AU H (A8 zs)) 2 P:=by
 have e:P/256*256=P:=by omega
 have:=h.all.of (Kk (i:=P/256) (by omega) (by rw[e];exact hd));rw[e] at this;obtain⟨t,_,_,_,a,b,_⟩:=this;rw[show ((2:Nat):Int)=2 from rfl] at a;omega
theorem B6.n3' {zs:List Int} {n:Nat} {H:Nat->Ht} (h:B6 zs n H) {P:Nat} (hP:P<4096) (hm:P%16=0) (hd:nd H 3 P=true):0<=AE (AU H (A8 zs)) 3 P:=by
 have e:P/16*16=P:=by omega
 have:=h.all.of (Kd (g:=P/16) (by omega) (by rw[e];exact hd));rw[e] at this;obtain⟨t,_,_,_,a,b,_⟩:=this;rw[show ((3:Nat):Int)=3 from rfl] at a;omega
def bn (b:Bool):Nat:=if b then 1 else 0
theorem KL (b:Bool):bn b<=1:=by unfold bn;split<;>omega
def NQ (zs:List Int) (l p:Nat):Bool:=decide (0<=AE (A8 zs) l p)
def Nb (zs:List Int) (H:Nat->Ht) (l p:Nat):Bool:=decide (0<=AE (AU H (A8 zs)) l p)
def tB (zs:List Int) (H:Nat->Ht) (l p:Nat):Nat:=bn (Nb zs H l p&&!NQ zs l p)+bn (NQ zs l p&&!Nb zs H l p)
def FU (a b:DH):Bool:=decide (a.kind=b.kind)&&decide (a.out=b.out)&&decide (a.perm=b.perm)&&decide (a.size=b.size)
theorem JC {a b:DH}:FU a b=true↔a=b:=by
 unfold FU;cases a;cases b;simp[and_assoc]
def Lj (h:Ht):DH:=⟨h.k,h.o,h.p,h.s⟩
def Vp (zs:List Int) (H:Nat->Ht) (p:Nat):Bool:=!FU (BT zs p) (Lj (H p))
theorem Mp {zs:List Int} {H:Nat->Ht} {p:Nat} (h:BT zs p≠Lj (H p)):bn (Vp zs H p)=1:=by
 unfold Vp;cases hs:FU (BT zs p) (Lj (H p))
 ·rfl
 ·exact absurd (JC.1 hs) h
def PP (zs:List Int) (H:Nat->Ht) (e:En):Nat:=bn (GZ zs H (AU H (A8 zs)) e)+bn (Lt zs H (AU H (A8 zs)) e)
theorem QC (zs:List Int) (H:Nat->Ht) (e:En):PP zs H e<=2:=by
 have h1:=KL (GZ zs H (AU H (A8 zs)) e);have h2:=KL (Lt zs H (AU H (A8 zs)) e);unfold PP;omega
theorem If {zs:List Int} {H:Nat->Ht} {e:En} (h:GI zs e.ad=C6 H (AU H (A8 zs)) e.lv e.pg):PP zs H e=0:=by
 unfold PP GZ Lt;rw[decide_eq_false (fun hh=>hh.2 h),decide_eq_false (fun hh=>hh.2 h.symm)];rfl
theorem LH {zs:List Int} {H:Nat->Ht} {e:En} (h:GI zs e.ad%2=0):PP zs H e<=1/\(C6 H (AU H (A8 zs)) e.lv e.pg=0->PP zs H e=0):=by
 have h1:GZ zs H (AU H (A8 zs)) e=false:=by unfold GZ;exact decide_eq_false (fun hh=>by omega)
 have h2:=KL (Lt zs H (AU H (A8 zs)) e);refine⟨?_,fun hr=>?_⟩
 ·unfold PP;rw[h1];show 0+_<=1;omega
 ·unfold PP Lt;rw[h1,decide_eq_false (fun hh=>hh.1 hr)];rfl
theorem OR {zs:List Int} {H:Nat->Ht} {e:En} (h:C6 H (AU H (A8 zs)) e.lv e.pg=0):PP zs H e<=1:=by
 have h1:=KL (GZ zs H (AU H (A8 zs)) e);have h2:Lt zs H (AU H (A8 zs)) e=false:=by unfold Lt;exact decide_eq_false (fun hh=>hh.1 h)
 unfold PP;rw[h2];show _+0<=1;omega
theorem XH {zs:List Int} {H:Nat->Ht} {l p:Nat} (h1:0<=AE (AU H (A8 zs)) l p) (h2:¬0<=AE (A8 zs) l p):tB zs H l p=1:=by
 unfold tB Nb NQ;rw[decide_eq_true h1,decide_eq_false h2];rfl
theorem Wd {zs:List Int} {H:Nat->Ht} {l p:Nat} (h1:¬0<=AE (AU H (A8 zs)) l p) (h2:0<=AE (A8 zs) l p):tB zs H l p=1:=by
 unfold tB Nb NQ;rw[decide_eq_false h1,decide_eq_true h2];rfl
theorem Y5 (H:Nat->Ht) (all:List P3) (p:Nat):C6 H all 1 p=if AE all 2 p<0 then 0 else Am 1 1 (AE all 2 p) 0:=by
 unfold C6;rw[if_neg (by decide),if_neg (fun h=>absurd h.1 (by decide))];rfl
theorem Rx (H:Nat->Ht) (all:List P3) (p:Nat):C6 H all 2 p=if (H p).s=16 then Am 2 2 (H p).o (H p).p else if AE all 3 p<0 then 0 else Am 2 1 (AE all 3 p) 0:=by
 unfold C6;rw[if_neg (by decide),Int.toNat_natCast];by_cases h:(H p).s=16
 ·rw[if_pos ⟨rfl,h⟩,if_pos h]
 ·rw[if_neg (fun hh=>h hh.2),if_neg h];rfl
theorem Yf (H:Nat->Ht) (all:List P3) (p:Nat):C6 H all 3 p=if (H p).k=1 then Am 3 3 (H p).o (H p).p else 0:=by
 unfold C6;rw[if_pos rfl,Int.toNat_natCast]
theorem B6.keep2 {zs:List Int} {n:Nat} {H:Nat->Ht} (h:B6 zs n H) {p:Nat} (hp:p<4096) (hm:p%256=0) (hl:At n 1 (DV zs p)=true) (hn:0<=AE (AU H (A8 zs)) 2 p):AE (AU H (A8 zs)) 2 p=AQ 1 (DV zs p):=by
 have hd:=h.now (l:=2) (P:=p) hn;have e:=(h.o2 p hp hm).1 hl;have hk:=h.kp 2 p;rw[if_pos hd] at hk;rw[show ((2:Nat):Int)=2 from rfl,e] at hk;have h0:0<=AQ 1 (DV zs p):=by
  rcases h.c1 p hp with⟨_,_,hh⟩|⟨_,_,hh⟩
  ·rw[hl] at hh;cases hh
  ·exact hh
 have:=h.al 2 p (by rw[show ((2:Nat):Int)=2 from rfl,hk];exact h0);rw[show ((2:Nat):Int)=2 from rfl,hk] at this;exact this
theorem B6.cost1 {zs:List Int} {n:Nat} {H:Nat->Ht} (h:B6 zs n H) {p:Nat} (hp:p<4096) (hm:p%256=0) {ad:Int} (ha:GI zs ad=DV zs p):PP zs H ⟨1,p,ad⟩<=tB zs H 2 p/\(GZ zs H (AU H (A8 zs)) ⟨1,p,ad⟩=true->nd H 2 p=false):=by
 rcases h.c1 p hp with⟨he,hk,hl⟩|⟨hl,hc,h0⟩
 ·have hev:=LH (zs:=zs) (H:=H) (e:=⟨1,p,ad⟩) (by dsimp only;rw[ha];exact he);refine⟨?_,fun hb=>?_⟩
  ·by_cases hn:0<=AE (AU H (A8 zs)) 2 p
   ·have:=XH (zs:=zs) (H:=H) (l:=2) (p:=p) hn (fun ho=>by
     have:=(h.o2 p hp hm).2 ho
     rw[hl] at this;cases this)
    omega
   ·rw[hev.2 (by dsimp only;rw[Y5,if_pos (by omega)])];exact Nat.zero_le _
  ·unfold GZ at hb;have:=(of_decide_eq_true hb).1;dsimp only at this;rw[ha] at this;omega
 ·by_cases hn:0<=AE (AU H (A8 zs)) 2 p
  ·have e:=h.keep2 hp hm hl hn;(have hs:GI zs ad=C6 H (AU H (A8 zs)) 1 p:=by rw[ha,Y5,if_neg (by omega),e];exact hc);refine⟨?_,fun hb=>?_⟩
   ·rw[If (e:=⟨1,p,ad⟩) hs];exact Nat.zero_le _
   ·unfold GZ at hb;exact absurd hs (of_decide_eq_true hb).2
  ·refine⟨?_,fun hb=>?_⟩
   ·have h1:=OR (zs:=zs) (H:=H) (e:=⟨1,p,ad⟩) (by dsimp only;rw[Y5,if_pos (by omega)])
    have h2:=Wd (zs:=zs) (H:=H) (l:=2) (p:=p) hn (by
     rw[show ((2:Nat):Int)=2 from rfl,(h.o2 p hp hm).1 hl];exact h0)
    omega
   ·cases hd:nd H 2 p
    ·rfl
    ·exact absurd (h.n2' hp hm hd) hn
theorem B6.walk1 {zs:List Int} {n:Nat} {H:Nat->Ht} (h:B6 zs n H) {p:Nat} (hp:p<4096) (hl:At n 1 (DV zs p)=true):BT zs p=BH n p 2 (D6 zs p) (BH n p 3 (Ii zs p) ⟨0,0,0,0⟩):=by
 have hn0:An zs.length≠0:=by rw[h.nf];have:=h.pos;omega
 rw[Qv zs p hn0 hp,h.nf];obtain⟨a,b⟩:=(IJ _ _ _).1 hl;exact GC _ _ _ _ _ a b (by decide)
theorem B6.walk2 {zs:List Int} {n:Nat} {H:Nat->Ht} (h:B6 zs n H) {p:Nat} (hp:p<4096) (hl:At n 1 (DV zs p)=true) (hl2:At n 2 (D6 zs p)=true):BT zs p=BH n p 3 (Ii zs p) ⟨0,0,0,0⟩:=by
 rw[h.walk1 hp hl];obtain⟨a,b⟩:=(IJ _ _ _).1 hl2;exact GC _ _ _ _ _ a b (by decide)
theorem JF (n p l x:Int) (R:DH) (h:AF l x=0):BH n p l x R=⟨0,0,0,0⟩:=by unfold BH;rw[if_pos h]
theorem Kt (n p l x:Int) (R:DH) (h:AF l x=2):BH n p l x R=⟨1,AQ l x+p%16,Ae l x,16⟩:=by
 unfold BH;rw[if_neg (by omega),if_neg (fun hh=>by omega),if_pos h]
theorem MG (n p l x:Int) (R:DH) (h:AF l x=3):BH n p l x R=⟨1,AQ l x,Ae l x,1⟩:=by
 unfold BH;rw[if_neg (by omega),if_neg (fun hh=>by omega),if_neg (by omega),if_pos h]
theorem B6.small {zs:List Int} {n:Nat} {H:Nat->Ht} (h:B6 zs n H) {p:Nat} (hp:p<4096) (hl:At n 1 (DV zs p)=true) (hl2:At n 2 (D6 zs p)=true):(BT zs p).size≠16:=by
 rw[h.walk2 hp hl hl2];rcases h.c3 p hp hl hl2 with⟨_,hk⟩|⟨hk,_⟩
 ·rw[JF _ _ _ _ _ hk];decide
 ·rw[MG _ _ _ _ _ hk];exact(by decide:(1:Int)≠16)
theorem B6.cost3 {zs:List Int} {n:Nat} {H:Nat->Ht} (h:B6 zs n H) {p:Nat} (hp:p<4096) (hl:At n 1 (DV zs p)=true) (hl2:At n 2 (D6 zs p)=true) {ad:Int} (ha:GI zs ad=Ii zs p) (hs:BT zs p=Lj (H p)):PP zs H ⟨3,p,ad⟩=0/\GZ zs H (AU H (A8 zs)) ⟨3,p,ad⟩=false:=by
 rw[h.walk2 hp hl hl2] at hs;rcases h.c3 p hp hl hl2 with⟨he,hk⟩|⟨hk,hc⟩
 ·rw[JF _ _ _ _ _ hk] at hs;have hk0:(H p).k=0:=(congrArg DH.kind hs).symm;refine⟨(LH (e:=⟨3,p,ad⟩) (by dsimp only;rw[ha];exact he)).2 (by dsimp only;rw[Yf,if_neg (by omega)]),?_⟩;unfold GZ;refine decide_eq_false (fun hh=>?_);have:=hh.1;dsimp only at this;rw[ha] at this;omega
 ·rw[MG _ _ _ _ _ hk] at hs;have hk1:(H p).k=1:=(congrArg DH.kind hs).symm;have hko:(H p).o=AQ 3 (Ii zs p):=(congrArg DH.out hs).symm;have hkp:(H p).p=Ae 3 (Ii zs p):=(congrArg DH.perm hs).symm;have hr:GI zs ad=C6 H (AU H (A8 zs)) 3 p:=by rw[ha,Yf,if_pos hk1,hko,hkp];exact hc
  refine⟨If (e:=⟨3,p,ad⟩) hr,?_⟩;unfold GZ;exact decide_eq_false (fun hh=>hh.2 hr)
theorem B6.keep3 {zs:List Int} {n:Nat} {H:Nat->Ht} (h:B6 zs n H) {p:Nat} (hp:p<4096) (hm:p%16=0) (hl:At n 1 (DV zs p)=true) (hl2:At n 2 (D6 zs p)=true) (hn:0<=AE (AU H (A8 zs)) 3 p):AE (AU H (A8 zs)) 3 p=AQ 2 (D6 zs p):=by
 have hd:=h.now (l:=3) (P:=p) hn;have e:=(h.o3 p hp hm).1 hl hl2;have hk:=h.kp 3 p;rw[if_pos hd] at hk;rw[show ((3:Nat):Int)=3 from rfl,e] at hk;have h0:0<=AQ 2 (D6 zs p):=by
  rcases h.c2 p hp hl with⟨_,_,hh⟩|⟨_,_,hh⟩|⟨_,hh,_⟩
  ·rw[hl2] at hh;cases hh
  ·exact hh
  ·rw[hl2] at hh;cases hh
 have:=h.al 3 p (by rw[show ((3:Nat):Int)=3 from rfl,hk];exact h0);rw[show ((3:Nat):Int)=3 from rfl,hk] at this;exact this
theorem B6.k16 {zs:List Int} {n:Nat} {H:Nat->Ht} (h:B6 zs n H) {p:Nat} (hp:p<4096) (hs:(H p).s=16):(H p).k=1:=by
 by_cases hk:(H p).k=1
 ·exact hk
 ·have:=h.lay.zero p hp hk;rw[this] at hs;exact absurd hs (by decide)
theorem B6.cost2 {zs:List Int} {n:Nat} {H:Nat->Ht} (h:B6 zs n H) {p:Nat} (hp:p<4096) (hm:p%16=0) (hl:At n 1 (DV zs p)=true) {ad:Int} (ha:GI zs ad=D6 zs p) : PP zs H ⟨2,p,ad⟩=0\/(AE (AA H (A8 zs)) 3 p<0/\PP zs H ⟨2,p,ad⟩<=2*bn (Vp zs H p)+tB zs H 3 p):=by
 have hkk:=h.kp 3 p;rw[show ((3:Nat):Int)=3 from rfl] at hkk;have knone:At n 2 (D6 zs p)=false->AE (AA H (A8 zs)) 3 p<0:=fun hf=>by
  rw[hkk];split
  ·by_cases h0:0<=AE (A8 zs) 3 p
   ·have:=((h.o3 p hp hm).2 h0).2;rw[hf] at this;cases this
   ·omega
  ·omega
 rcases h.c2 p hp hl with⟨he,hk,hf⟩|⟨hl2,hc,h0⟩|⟨hk,hf,hc⟩
 ·right;refine⟨knone hf,?_⟩;have hev:=LH (zs:=zs) (H:=H) (e:=⟨2,p,ad⟩) (by dsimp only;rw[ha];exact he);have hw:BT zs p=⟨0,0,0,0⟩:=by rw[h.walk1 hp hl,JF _ _ _ _ _ hk]
  by_cases hs:(H p).s=16
  ·have:=Mp (zs:=zs) (H:=H) (p:=p) (fun e=>by
    rw[hw] at e
    have h1:(0:Int)=(H p).k:=congrArg DH.kind e
    have:=h.k16 hp hs
    omega)
   omega
  ·by_cases hn:0<=AE (AU H (A8 zs)) 3 p
   ·have:=XH (zs:=zs) (H:=H) (l:=3) (p:=p) hn (fun ho=>by
     have:=((h.o3 p hp hm).2 ho).2
     rw[hf] at this;cases this)
    omega
   ·rw[hev.2 (by dsimp only;rw[Rx,if_neg hs,if_pos (by omega)])];exact Nat.zero_le _
 ·by_cases hs:(H p).s=16
  ·right;have hd:=KM h.lay p hp hm hs;refine⟨?_,?_⟩
   ·rw[hkk,if_neg (by rw[hd];decide)];decide
   ·have:=Mp (zs:=zs) (H:=H) (p:=p) (fun e=>h.small hp hl hl2 (by rw[e];exact hs));have:=QC zs H ⟨2,p,ad⟩;omega
  ·by_cases hn:0<=AE (AU H (A8 zs)) 3 p
   ·left;have e:=h.keep3 hp hm hl hl2 hn;exact If (e:=⟨2,p,ad⟩) (by dsimp only;rw[ha,Rx,if_neg hs,if_neg (by omega),e];exact hc)
   ·right;refine⟨?_,?_⟩
    ·rw[hkk];split
     ·rename_i hd;exact absurd (h.n3' hp hm hd) hn
     ·decide
    ·have h1:=OR (zs:=zs) (H:=H) (e:=⟨2,p,ad⟩) (by dsimp only;rw[Rx,if_neg hs,if_pos (by omega)])
     have h2:=Wd (zs:=zs) (H:=H) (l:=3) (p:=p) hn (by
      rw[show ((3:Nat):Int)=3 from rfl,(h.o3 p hp hm).1 hl hl2];exact h0)
     omega
 ·right;refine⟨knone hf,?_⟩;have hw:BT zs p=⟨1,AQ 2 (D6 zs p)+(p:Int)%16,Ae 2 (D6 zs p),16⟩:=by rw[h.walk1 hp hl,Kt _ _ _ _ _ hk]
  by_cases e:BT zs p=Lj (H p)
  ·have hr:GI zs ad=C6 H (AU H (A8 zs)) 2 p:=by
    rw[hw] at e;have e1:(H p).o=AQ 2 (D6 zs p)+(p:Int)%16:=(congrArg DH.out e).symm;have e2:(H p).p=Ae 2 (D6 zs p):=(congrArg DH.perm e).symm;have e3:(H p).s=16:=(congrArg DH.size e).symm;rw[ha,Rx,if_pos e3,e1,e2,show (p:Int)%16=0 by omega,Int.add_zero];exact hc
   rw[If (e:=⟨2,p,ad⟩) hr];exact Nat.zero_le _
  ·have:=Mp e;have:=QC zs H ⟨2,p,ad⟩;omega
end Go.Proofs.YtnmhkgmmpkjjeaaGreat
