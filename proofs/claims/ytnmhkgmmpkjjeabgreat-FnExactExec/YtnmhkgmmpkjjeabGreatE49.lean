import Derived.Test.YtnmhkgmmpkjjeabGreatE32
namespace Go.Proofs.YtnmhkgmmpkjjeabGreat
open ChangeShapes WideShapes ChangeAt RowKit Proofs.Tryz
set_option linter.all false
set_option maxRecDepth 100000
attribute [local go_sem ↓] wp_at_zero wp_at_succ
theorem Gi(K P N C:Int)(w:World):Calls prog 73 #[.agg #[.int .i64 K,.int .i64 P,.int .i64 N,.int .i64 C]] w fun e w'=>e=.returned (.bool (Ay ⟨K,P,N,C⟩))/\Below w.heap.size w w':=by
 have hpk:=CN P;have hck:=Dg C;cases hp:AP P
 ·have hr:Ay ⟨K,P,N,C⟩=false:=by unfold Ay;dsimp only;rw[hp];simp
  rw[hr];rw[hp] at hpk;clear hr hp;go_enter func73,ntmps73
  go_wp2_with (first|(go_at_call 35;refine(hpk _).mono ?_;rintro e wE ⟨rfl,hwE⟩;obtain rfl:=hwE.symm)|(go_at_call 36;refine(hck _).mono ?_;rintro e wE ⟨rfl,hwE⟩;obtain rfl:=hwE.symm))
  go_ret;exact⟨rfl,(Below.refl _ _).alloc (Nat.le_refl _) _⟩
 ·cases hc:Ax C
  ·(have hr:Ay ⟨K,P,N,C⟩=false:=by unfold Ay;dsimp only;rw[hc];simp);rw[hr];rw[hp] at hpk;rw[hc] at hck;clear hr hp hc;(go_enter func73,ntmps73);(go_wp2_with (first|(go_at_call 35;refine(hpk _).mono ?_;rintro e wE ⟨rfl,hwE⟩;obtain rfl:=hwE.symm)|(go_at_call 36;refine(hck _).mono ?_;rintro e wE ⟨rfl,hwE⟩;obtain rfl:=hwE.symm)));go_ret;exact⟨rfl,(Below.refl _ _).alloc (Nat.le_refl _) _⟩
  ·by_cases k4:K=4
   ·subst k4;by_cases vN1:N=1
    ·subst vN1;(have hr:Ay ⟨4,P,1,C⟩=true:=by unfold Ay Ap;dsimp only;rw[hp,hc,if_pos rfl];simp);rw[hr];rw[hp] at hpk;rw[hc] at hck;clear hr hp hc;(go_enter func73,ntmps73);(go_wp2_with (first|(go_at_call 35;refine(hpk _).mono ?_;rintro e wE ⟨rfl,hwE⟩;obtain rfl:=hwE.symm)|(go_at_call 36;refine(hck _).mono ?_;rintro e wE ⟨rfl,hwE⟩;obtain rfl:=hwE.symm)));go_ret;exact⟨rfl,(Below.refl _ _).alloc (Nat.le_refl _) _⟩
    ·(have eN1:(N==1)=false:=by simpa using vN1);by_cases vN2:N=2
     ·subst vN2;(have hr:Ay ⟨4,P,2,C⟩=true:=by unfold Ay Ap;dsimp only;rw[hp,hc,if_pos rfl];simp);rw[hr];rw[hp] at hpk;rw[hc] at hck;clear hr hp hc;(go_enter func73,ntmps73);(go_wp2_with (first|(go_at_call 35;refine(hpk _).mono ?_;rintro e wE ⟨rfl,hwE⟩;obtain rfl:=hwE.symm)|(go_at_call 36;refine(hck _).mono ?_;rintro e wE ⟨rfl,hwE⟩;obtain rfl:=hwE.symm)));go_ret;exact⟨rfl,(Below.refl _ _).alloc (Nat.le_refl _) _⟩
     ·(have eN2:(N==2)=false:=by simpa using vN2);by_cases vN4:N=4
      ·subst vN4;(have hr:Ay ⟨4,P,4,C⟩=true:=by unfold Ay Ap;dsimp only;rw[hp,hc,if_pos rfl];simp);rw[hr];rw[hp] at hpk;rw[hc] at hck;clear hr hp hc;(go_enter func73,ntmps73);(go_wp2_with (first|(go_at_call 35;refine(hpk _).mono ?_;rintro e wE ⟨rfl,hwE⟩;obtain rfl:=hwE.symm)|(go_at_call 36;refine(hck _).mono ?_;rintro e wE ⟨rfl,hwE⟩;obtain rfl:=hwE.symm)));go_ret;exact⟨rfl,(Below.refl _ _).alloc (Nat.le_refl _) _⟩
      ·(have eN4:(N==4)=false:=by simpa using vN4);(have hr:Ay ⟨4,P,N,C⟩=false:=by unfold Ay Ap;dsimp only;rw[hp,hc,if_pos rfl];simp;omega);rw[hr];rw[hp] at hpk;rw[hc] at hck;clear hr hp hc vN1 vN2 vN4;(go_enter func73,ntmps73);(go_wp2_with (first|(go_at_call 35;refine(hpk _).mono ?_;rintro e wE ⟨rfl,hwE⟩;obtain rfl:=hwE.symm)|(go_at_call 36;refine(hck _).mono ?_;rintro e wE ⟨rfl,hwE⟩;obtain rfl:=hwE.symm)));go_ret;exact⟨rfl,(Below.refl _ _).alloc (Nat.le_refl _) _⟩
   ·(have d4:(K==4)=false:=by simpa using k4);by_cases kn:N=0
    ·subst kn;by_cases vK0:K=0
     ·subst vK0;(have hr:Ay ⟨0,P,0,C⟩=true:=by unfold Ay;dsimp only;rw[hp,hc,if_neg (by omega)];simp);rw[hr];rw[hp] at hpk;rw[hc] at hck;clear hr hp hc k4 d4;(go_enter func73,ntmps73);(go_wp2_with (first|(go_at_call 35;refine(hpk _).mono ?_;rintro e wE ⟨rfl,hwE⟩;obtain rfl:=hwE.symm)|(go_at_call 36;refine(hck _).mono ?_;rintro e wE ⟨rfl,hwE⟩;obtain rfl:=hwE.symm)));go_ret;exact⟨rfl,(Below.refl _ _).alloc (Nat.le_refl _) _⟩
     ·(have eK0:(K==0)=false:=by simpa using vK0);by_cases vK1:K=1
      ·subst vK1;(have hr:Ay ⟨1,P,0,C⟩=true:=by unfold Ay;dsimp only;rw[hp,hc,if_neg (by omega)];simp);rw[hr];rw[hp] at hpk;rw[hc] at hck;clear hr hp hc k4 d4;(go_enter func73,ntmps73);(go_wp2_with (first|(go_at_call 35;refine(hpk _).mono ?_;rintro e wE ⟨rfl,hwE⟩;obtain rfl:=hwE.symm)|(go_at_call 36;refine(hck _).mono ?_;rintro e wE ⟨rfl,hwE⟩;obtain rfl:=hwE.symm)));go_ret;exact⟨rfl,(Below.refl _ _).alloc (Nat.le_refl _) _⟩
      ·(have eK1:(K==1)=false:=by simpa using vK1);by_cases vK2:K=2
       ·subst vK2;(have hr:Ay ⟨2,P,0,C⟩=true:=by unfold Ay;dsimp only;rw[hp,hc,if_neg (by omega)];simp);rw[hr];rw[hp] at hpk;rw[hc] at hck;clear hr hp hc k4 d4;(go_enter func73,ntmps73);(go_wp2_with (first|(go_at_call 35;refine(hpk _).mono ?_;rintro e wE ⟨rfl,hwE⟩;obtain rfl:=hwE.symm)|(go_at_call 36;refine(hck _).mono ?_;rintro e wE ⟨rfl,hwE⟩;obtain rfl:=hwE.symm)));go_ret;exact⟨rfl,(Below.refl _ _).alloc (Nat.le_refl _) _⟩
       ·(have eK2:(K==2)=false:=by simpa using vK2);by_cases vK3:K=3
        ·subst vK3;(have hr:Ay ⟨3,P,0,C⟩=true:=by unfold Ay;dsimp only;rw[hp,hc,if_neg (by omega)];simp);rw[hr];rw[hp] at hpk;rw[hc] at hck;clear hr hp hc k4 d4;(go_enter func73,ntmps73);(go_wp2_with (first|(go_at_call 35;refine(hpk _).mono ?_;rintro e wE ⟨rfl,hwE⟩;obtain rfl:=hwE.symm)|(go_at_call 36;refine(hck _).mono ?_;rintro e wE ⟨rfl,hwE⟩;obtain rfl:=hwE.symm)));go_ret;exact⟨rfl,(Below.refl _ _).alloc (Nat.le_refl _) _⟩
        ·(have eK3:(K==3)=false:=by simpa using vK3);(have hr:Ay ⟨K,P,0,C⟩=false:=by unfold Ay;dsimp only;rw[hp,hc,if_neg (by omega)];simp;omega);rw[hr];rw[hp] at hpk;rw[hc] at hck;clear hr hp hc k4 vK0 vK1 vK2 vK3;(go_enter func73,ntmps73);(go_wp2_with (first|(go_at_call 35;refine(hpk _).mono ?_;rintro e wE ⟨rfl,hwE⟩;obtain rfl:=hwE.symm)|(go_at_call 36;refine(hck _).mono ?_;rintro e wE ⟨rfl,hwE⟩;obtain rfl:=hwE.symm)));go_ret;exact⟨rfl,(Below.refl _ _).alloc (Nat.le_refl _) _⟩
    ·(have hr:Ay ⟨K,P,N,C⟩=false:=by unfold Ay;dsimp only;rw[hp,hc,if_neg k4];simp;omega);(have d5:(N != 0)=true:=by simpa using kn);rw[hr];rw[hp] at hpk;rw[hc] at hck;clear hr hp hc k4 kn;(go_enter func73,ntmps73);(go_wp2_with (first|(go_at_call 35;refine(hpk _).mono ?_;rintro e wE ⟨rfl,hwE⟩;obtain rfl:=hwE.symm)|(go_at_call 36;refine(hck _).mono ?_;rintro e wE ⟨rfl,hwE⟩;obtain rfl:=hwE.symm)));go_ret;exact⟨rfl,(Below.refl _ _).alloc (Nat.le_refl _) _⟩
structure LR (wL wr:World) (z gn gs:Nat) (s:SV) (gv cv:Nat) (X:XS):Prop where
 q:wr.cell? ⟨gn,0,none⟩=some (.slice s.a1 X.M.mem.length s.c1)/\wr.cell? ⟨gn,1,none⟩=some (.slice s.a2 X.M.pend.length s.c2)/\wr.cell? ⟨gn,2,none⟩=some (.slice s.a3 X.M.tlb.length s.c3)/\wr.cell? ⟨gn,3,none⟩=some (.slice s.a4 X.M.wc.length s.c4)
 f:wr.frozen? ⟨gn,0,none⟩=false/\wr.frozen? ⟨gn,1,none⟩=false/\wr.frozen? ⟨gn,2,none⟩=false/\wr.frozen? ⟨gn,3,none⟩=false
 m:AB wr z (s.mv X.M) X.M
 sr:A6 Ao wr z (.slice (some ⟨gv,0,none⟩) X.seen.length cv) X.seen
 no:∀k,(s.mv X.M).owns k->k≠gn/\k≠gv
 ns:gv≠gn
 at':gv=gs\/wL.heap.size<=gv
 t:A5 (fun k=>k=gn\/k=gs) wL wr
theorem LR.below{wL wr w2:World}{z gn gs:Nat}{s:SV}{gv cv:Nat}{X:XS}(h:LR wL wr z gn gs s gv cv X)(hn:gn<wL.heap.size)(hb:Below wr.heap.size wr w2):LR wL w2 z gn gs s gv cv X:=by
 have hs:=h.t.size;have c:∀j,w2.cell? ⟨gn,j,none⟩=wr.cell? ⟨gn,j,none⟩:=fun j=>hb.cell (by simp;omega)
 have f:∀j,w2.frozen? ⟨gn,j,none⟩=wr.frozen? ⟨gn,j,none⟩:=fun j=>hb.frozen (by simp;omega)
 exact⟨⟨(c 0).trans h.q.1,(c 1).trans h.q.2.1,(c 2).trans h.q.2.2.1,(c 3).trans h.q.2.2.2⟩,⟨(f 0).trans h.f.1,(f 1).trans h.f.2.1,(f 2).trans h.f.2.2.1,(f 3).trans h.f.2.2.2⟩,h.m.below hb,h.sr.below hb,h.no,h.ns,h.at',h.t.trans (A5.of_below hb)⟩
theorem LR.put{wL wr:World}{z gn gs:Nat}{s s':SV}{gv cv:Nat}{X:XS}{M':A9}(h:LR wL wr z gn gs s gv cv X)(hm:AB wr z (s'.mv M') M')(hno:∀k,(s'.mv M').owns k->k≠gn/\k≠gv)(a:Nat)(c:Int):LR wL ((((wr.setCell ⟨gn,0,none⟩ (.slice s'.a1 M'.mem.length s'.c1)).setCell ⟨gn,1,none⟩ (.slice s'.a2 M'.pend.length s'.c2)).setCell ⟨gn,2,none⟩ (.slice s'.a3 M'.tlb.length s'.c3)).setCell ⟨gn,3,none⟩ (.slice s'.a4 M'.wc.length s'.c4)) z gn gs s' gv cv ⟨M',a,c,X.seen⟩:=by
 obtain⟨w4,hw4⟩:∃w4,w4=((((wr.setCell ⟨gn,0,none⟩ (.slice s'.a1 M'.mem.length s'.c1)).setCell ⟨gn,1,none⟩ (.slice s'.a2 M'.pend.length s'.c2)).setCell ⟨gn,2,none⟩ (.slice s'.a3 M'.tlb.length s'.c3)).setCell ⟨gn,3,none⟩ (.slice s'.a4 M'.wc.length s'.c4)):=⟨_,rfl⟩
 rw[<- hw4];have ht:A5 (fun k=>k=gn) wr w4:=by
  rw[hw4];exact A5.put (A5.put (A5.put (A5.put (A5.none _) _ _ (by rfl)) _ _ (by rfl)) _ _ (by rfl)) _ _ (by rfl)
 obtain⟨q0,q1,q2,q3⟩:=h.q;refine⟨⟨?_,?_,?_,?_⟩,⟨?_,?_,?_,?_⟩,hm.touch ht (fun k hk e=>(hno k hk).1 e),h.sr.touch ht (fun k hk e=>?_),hno,h.ns,h.at',h.t.then ht (fun k _ e=>.inl e)⟩
 ·rw[hw4];simp[go_sem,q0]
 ·rw[hw4];simp[go_sem,q1]
 ·rw[hw4];simp[go_sem,q2]
 ·rw[hw4];simp[go_sem,q3]
 ·rw[hw4];simp[go_sem,h.f.1]
 ·rw[hw4];simp[go_sem,h.f.2.1]
 ·rw[hw4];simp[go_sem,h.f.2.2.1]
 ·rw[hw4];simp[go_sem,h.f.2.2.2]
 ·have e':gv=k:=by simpa [Value.ownBlock] using hk
  exact h.ns (e'.trans e)
theorem LR.seen{wL wr wn:World}{z gn gs:Nat}{s:SV}{gv cv g1 c1:Nat}{X:XS}{x:Cz}(h:LR wL wr z gn gs s gv cv X)(hn:gn<wL.heap.size)(hl:∀k,(s.mv X.M).owns k->k<wr.heap.size)(hg:wr.grownBy wn (some gv))(hr:A6 Ao wn z (.slice (some ⟨g1,0,none⟩) (X.seen.length+1) c1) (X.seen++[x]))(ha:gv=g1\/wr.heap.size<=g1):LR wL wn z gn gs s g1 c1 ⟨X.M,X.at',X.code,X.seen++[x]⟩:=by
 have hs:=h.t.size;have hk:wn.heap[gn]?=wr.heap[gn]?:=hg.block gn (by omega) (fun e=>h.ns (by simpa using e.symm));have ht:A5 (fun k=>k=gv) wr wn:=⟨hg.os,hg.tape,hg.output,hg.size,fun k hk hn=>hg.block k hk (fun e=>hn (by simpa using e))⟩;refine⟨⟨(World.cell?_of_block hk).trans h.q.1,(World.cell?_of_block hk).trans h.q.2.1,(World.cell?_of_block hk).trans h.q.2.2.1,(World.cell?_of_block hk).trans h.q.2.2.2⟩,⟨(World.frozen?_of_block hk).trans h.f.1,(World.frozen?_of_block hk).trans h.f.2.1,(World.frozen?_of_block hk).trans h.f.2.2.1,(World.frozen?_of_block hk).trans h.f.2.2.2⟩,h.m.touch ht (fun k hk e=>(h.no k hk).2 e),?_,fun k hk=>⟨(h.no k hk).1,?_⟩,?_,?_,h.t.then ht (fun k hk e=>?_)⟩
 ·rw[List.length_append];exact hr
 ·rcases ha with ha|ha
  ·rw[<- ha];exact(h.no k hk).2
  ·have:=hl k hk;omega
 ·rcases ha with ha|ha
  ·rw[<- ha];exact h.ns
  ·omega
 ·rcases ha with ha|ha
  ·rw[<- ha];exact h.at'
  ·exact .inr (by omega)
 ·rcases h.at' with h'|h'
  ·exact .inr (by rw[e,h'])
  ·omega
def Fm (evs:List AW) (t:Nat):List AW:=evs.take t
theorem GZ{evs:List AW}{t:Nat}(h:t<=evs.length):(Fm evs t).length=t:=by unfold Fm;rw[List.length_take];omega
theorem NB(evs:List AW):Fm evs evs.length=evs:=List.take_length
theorem MD{evs:List AW}{t:Nat}(h:t<evs.length):Fm evs (t+1)=Fm evs t++[A8 AC evs t]:=by
 unfold Fm;rw[List.take_add_one];have:evs[t]?=some (A8 AC evs t):=by
  unfold A8;rw[List.getD_eq_getElem?_getD,List.getElem?_eq_getElem h];rfl
 rw[this];rfl
def AV (evs:List AW) (n:Nat):List AW:=evs++List.replicate n ⟨0,0,0,0⟩
theorem Ev(evs:List AW)(n:Nat):(AV evs n).length=evs.length+n:=by simp[AV]
theorem Hn(evs:List AW)(n i:Nat)(h:i<evs.length):A8 AC (AV evs n) i=A8 AC evs i:=by
 unfold A8 AV;rw[List.getD_eq_getElem?_getD,List.getD_eq_getElem?_getD,List.getElem?_append_left h]
theorem Hd(evs:List AW)(n i:Nat)(h:evs.length<=i):A8 AC (AV evs n) i=⟨0,0,0,0⟩:=by
 unfold A8 AV;rw[List.getD_eq_getElem?_getD,List.getElem?_append_right h,List.getElem?_replicate];split<;>rfl
theorem KC(evs:List AW)(n:Nat):AV evs (n+1)=AV evs n++[⟨0,0,0,0⟩]:=by
 unfold AV;rw[List.replicate_succ',List.append_assoc]
theorem In{evs:List AW}(n:Nat)(he:∀i,i<evs.length->Ay (A8 AC evs i)=true)(i:Nat):i<evs.length+n->Ay (A8 AC (AV evs n) i)=true:=fun _=>by
 by_cases h:i<evs.length
 ·rw[Hn _ _ _ h];exact he i h
 ·rw[Hd _ _ _ (by omega)];decide
theorem HJ(ops:List Bi)(evs:List AW)(n:Nat)(x:XS):∀k,k<=evs.length->Ae ops (AV evs n) k x=Ae ops evs k x
 | 0,_=>rfl
 | k+1,h=>by rw[CR,CR,HJ ops evs n x k (by omega),Hn _ _ _ (by omega)]
theorem H7(ops:List Bi)(evs:List AW)(n:Nat)(x:XS):∀k,Ae ops (AV evs n) (evs.length+k) x=B7 ops k (Ae ops evs evs.length x)
 | 0=>HJ ops evs n x _ (Nat.le_refl _)
 | k+1=>by
  rw[show evs.length+(k+1)=evs.length+k+1 by omega,CR,H7 ops evs n x k,Hd _ _ _ (by omega),Df];rfl
theorem MQ(M:A9)(ops:List Bi)(evs:List AW):Ae ops (AV evs ops.length) (evs.length+ops.length) (CD M)=Fq M ops evs:=H7 ops evs ops.length (CD M) ops.length
theorem H5{ops:List Bi}{evs:List AW}{x:XS}{k:Nat}(h:¬(Ae ops evs k x).code=0):∀j,Ae ops evs (k+j) x=Ae ops evs k x
 | 0=>rfl
 | j+1=>by rw[show k+(j+1)=(k+j)+1 by omega,CR,H5 h j,if_neg h]
theorem Mp{M:A9}(h:VM M){p c:Int}(hp:0<=p/\p<4096)(hc:0<=c/\c<=65535):EB M p c=(Ah M p c).1:=by
 unfold EB;rw[h.valid];simp[AP,Ax,hp,hc]
theorem NW{M:A9}(h:VM M){p n c:Int}(hp:0<=p/\p<4096)(hc:0<=c/\c<=65535)(hn:Ap n=true):CZ M p n c=(Cw M p c,DY M p n c):=by
 unfold CZ FI;rw[h.valid,hn];simp[AP,Ax,hp,hc]
theorem MM{M:A9}(h:VM M)(c:Int):EA M 0 c=⟨M.mem,M.pend,AI A7 true c M.tlb M.tlb.length,M.wc⟩:=by
 unfold EA;rw[h.valid,if_pos rfl,Cn AJ (decide ((0:Int)=1)) c M.wc (.inl (by decide))];rfl
theorem Lm{M:A9}(h:VM M)(c:Int):EA M 1 c=⟨M.mem,M.pend,M.tlb,AI AJ true c M.wc M.wc.length⟩:=by
 unfold EA;rw[h.valid,if_pos rfl,Cn A7 (decide ((1:Int)=0)) c M.tlb (.inl (by decide))];rfl
theorem Mf{M:A9}(h:VM M)(o:Bi):Bm M o=CP M o:=by
 unfold Bm;rw[h.valid,if_pos rfl]
end Go.Proofs.YtnmhkgmmpkjjeabGreat
