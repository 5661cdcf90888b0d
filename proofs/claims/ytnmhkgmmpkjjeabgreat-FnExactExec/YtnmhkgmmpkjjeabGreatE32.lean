import Derived.Test.YtnmhkgmmpkjjeabGreatE26
import Derived.Test.YtnmhkgmmpkjjeabGreatE30
import Derived.Test.YtnmhkgmmpkjjeabGreatE31
namespace Go.Proofs.YtnmhkgmmpkjjeabGreat
open ChangeShapes WideShapes ChangeAt RowKit Proofs.Tryz
set_option linter.all false
set_option maxRecDepth 100000
section
attribute [local go_sem ↓] wp_at_zero wp_at_succ
def UV.all (u:UV) (gu k:Nat):Prop:=k=gu\/u.o1=some k\/u.o2=some k\/u.o3=some k\/u.o4=some k\/u.o5=some k
structure Bk (w w':World) (gu b0 B:Nat) (u u':UV) (M':A9):Prop where
 um:UM w' gu b0 B true u' M'
 tch:A5 (u.all gu) w w'
 old:∀k,u'.all gu k->u.all gu k\/w.heap.size<=k
 th:CB u'
theorem Bk.refl{w w':World}{gu b0 B:Nat}{u:UV}{M:A9}(h:UM w gu b0 B true u M)(ht:CB u)(hb:Below w.heap.size w w'):Bk w w' gu b0 B u u M:=⟨h.below hb,A5.of_below hb,fun k hk=>.inl hk,ht⟩
theorem Bk.trans{a b c:World}{gu b0 B:Nat}{u v x:UV}{M N:A9}(h:Bk a b gu b0 B u v M)(k:Bk b c gu b0 B v x N):Bk a c gu b0 B u x N :=
 ⟨k.um,h.tch.then k.tch (fun i hi hv=>(h.old i hv).resolve_right (by omega)),fun i hi=>by
  rcases k.old i hi with hv|hv
  ·exact h.old i hv
  ·exact .inr (Nat.le_trans h.tch.size hv),k.th⟩
theorem AT.wide{w w':World}{gu b0 B:Nat}{u u':UV}{M':A9}(h:AT w w' gu b0 B true u u' M')(ht:CB u):Bk w w' gu b0 B u u' M':=by
 have sub:∀k,u.wr gu k->u.all gu k:=fun k hk=>by
  rcases hk with e|e|e
  ·exact .inl e
  ·exact .inr (.inr (.inr (.inr (.inl e))))
  ·exact .inr (.inr (.inr (.inr (.inr e))))
 refine⟨h.um,⟨h.tch.os,h.tch.tape,h.tch.output,h.tch.size,fun k hk hn=>h.tch.block k hk (fun hh=>hn (sub k hh))⟩,fun k hk=>?_,?_⟩
 ·rcases hk with e|e|e|e|e|e
  ·exact .inl (.inl e)
  ·exact .inl (.inr (.inl (by rw[<- h.s1];exact e)))
  ·exact .inl (.inr (.inr (.inl (by rw[<- h.s2];exact e))))
  ·exact .inl (.inr (.inr (.inr (.inl (by rw[<- h.s3];exact e)))))
  ·exact(h.old k (.inr (.inl e))).imp (sub k) id
  ·exact(h.old k (.inr (.inr e))).imp (sub k) id
 ·exact⟨fun k h1 h3=>ht.a13 k (by rw[<- h.s1];exact h1) (by rw[<- h.s3];exact h3),fun k h1 h2=>ht.a12 k (by rw[<- h.s1];exact h1) (by rw[<- h.s2];exact h2),fun k h2 h3=>ht.a23 k (by rw[<- h.s2];exact h2) (by rw[<- h.s3];exact h3)⟩
theorem A6.cellsB{α:Type}{E:DL α}{w:World}{b c:Nat}{a:Option Addr}{xs:List α}(h:A6 E w b (.slice a xs.length c) xs):∃g,(0<xs.length->a=some ⟨g,0,none⟩/\g<w.heap.size/\b<=g/\xs.length<=c)/\∀k,k<xs.length->∀j,j<E.sz->∀wX:World,wX.heap[g]?=w.heap[g]?->wX.cell? ⟨g,k*E.sz+j,none⟩=some (AL E xs k j):=by
 by_cases h0:0<xs.length
 ·rcases h.2 with⟨e,h1⟩|⟨g0,cap,cur,e,hb,hg,hn,hm,hs,ht⟩
  ·exact absurd h0 (by omega)
  ·obtain⟨a',c',e',hf⟩:=h.form;obtain⟨g,N,f,hag,hbg,hr,hN,hc⟩:=hf h0;simp only[Value.slice.injEq] at e e';have hga:a=some ⟨g,0,none⟩:=e'.1.trans hag;refine⟨g,fun _=>⟨hga,hr.lt,hbg,by omega⟩,fun k hk j hj wX hX=>?_⟩;rw[(hr.of_block hX).cell (Nat.lt_of_lt_of_le (Hs hk hj) hN)];exact congrArg some (hc k hk j hj)
 ·exact⟨0,fun h=>absurd h h0,fun k hk=>absurd hk (by omega)⟩
theorem Gu{w:World}{b c:Nat}{a:Option Addr}{xs:List Am}(h:A6 At w b (.slice a xs.length c) xs):∃g,(0<xs.length->a=some ⟨g,0,none⟩/\g<w.heap.size)/\∀k P S O R D,k<xs.length->A8 A7 xs k=⟨P,S,O,R,D⟩->∀wX:World,wX.heap[g]?=w.heap[g]?->wX.cell? ⟨g,k*5,none⟩=some (.int .i64 P)/\wX.cell? ⟨g,k*5+1,none⟩=some (.int .i64 S)/\wX.cell? ⟨g,k*5+2,none⟩=some (.bool D)/\wX.cell? ⟨g,k*5+3,none⟩=some (.int .i64 O)/\wX.cell? ⟨g,k*5+4,none⟩=some (.int .i64 R):=by
 obtain⟨g,h1,h2⟩:=h.cellsB;refine⟨g,fun h0=>⟨(h1 h0).1,(h1 h0).2.1⟩,fun k P S O R D hk he wX hX=>?_⟩;have e0:∀j,AL At xs k j=((At.enc ⟨P,S,O,R,D⟩)[j]?).getD (.bool false):=fun j=>by
  have he':A8 At xs k=⟨P,S,O,R,D⟩:=he;unfold AL;rw[he']
 have c:∀j,j<5->wX.cell? ⟨g,k*5+j,none⟩=some (AL At xs k j):=fun j hj=>h2 k hk j hj wX hX
 exact⟨(c 0 (by omega)).trans (by rw[e0];rfl),(c 1 (by omega)).trans (by rw[e0];rfl),(c 2 (by omega)).trans (by rw[e0];rfl),(c 3 (by omega)).trans (by rw[e0];rfl),(c 4 (by omega)).trans (by rw[e0];rfl)⟩
theorem GP{w:World}{b c:Nat}{a:Option Addr}{xs:List CI}(h:A6 As w b (.slice a xs.length c) xs):∃g,(0<xs.length->a=some ⟨g,0,none⟩/\g<w.heap.size)/\∀k L P T D,k<xs.length->A8 AJ xs k=⟨L,P,T,D⟩->∀wX:World,wX.heap[g]?=w.heap[g]?->wX.cell? ⟨g,k*5,none⟩=some (.int .i64 P)/\wX.cell? ⟨g,k*5+1,none⟩=some (.int .i64 (16*Ab L))/\wX.cell? ⟨g,k*5+2,none⟩=some (.bool D)/\wX.cell? ⟨g,k*5+3,none⟩=some (.int .i64 L)/\wX.cell? ⟨g,k*5+4,none⟩=some (.int .i64 T):=by
 obtain⟨g,h1,h2⟩:=h.cellsB;refine⟨g,fun h0=>⟨(h1 h0).1,(h1 h0).2.1⟩,fun k L P T D hk he wX hX=>?_⟩;have e0:∀j,AL As xs k j=((As.enc ⟨L,P,T,D⟩)[j]?).getD (.bool false):=fun j=>by
  have he':A8 As xs k=⟨L,P,T,D⟩:=he;unfold AL;rw[he']
 have c:∀j,j<5->wX.cell? ⟨g,k*5+j,none⟩=some (AL As xs k j):=fun j hj=>h2 k hk j hj wX hX
 exact⟨(c 0 (by omega)).trans (by rw[e0];rfl),(c 1 (by omega)).trans (by rw[e0];rfl),(c 2 (by omega)).trans (by rw[e0];rfl),(c 3 (by omega)).trans (by rw[e0];rfl),(c 4 (by omega)).trans (by rw[e0];rfl)⟩
theorem EN{w:World}{b c:Nat}{a:Option Addr}{zs:List Int}(h:A6 AO w b (.slice a zs.length c) zs)(h0:0<zs.length):∃g,a=some ⟨g,0,none⟩/\Bj w g zs/\zs.length<=c/\b<=g:=by
 obtain⟨g,h1,h2⟩:=h.cellsB;obtain⟨e,hl,hb,hc⟩:=h1 h0;refine⟨g,e,⟨hl,fun i hi=>?_⟩,hc,hb⟩;have:=h2 i hi 0 (by decide) w rfl;have e1:i*AO.sz+0=i:=by show i*1+0=i;omega
 rw[e1] at this;exact this
theorem Fa{M:A9}(h:Cv M)(hp:∀i,i<M.pend.length->0<=(A8 AA M.pend i).addr):∀i,0<=(AE M).getD i 0/\(AE M).getD i 0<2 ^ 64:=fun i=>by
 by_cases hi:i<M.mem.length
 ·rw[GW M i hi hp];exact Er h _ _
 ·rw[List.getD_eq_getElem?_getD,List.getElem?_eq_none (by rw[Ac];omega)];simp
theorem Fy{M:A9}(h:Cv M)(hp:∀i,i<M.pend.length->0<=(A8 AA M.pend i).addr):EG (AE M):=⟨by rw[Ac];exact h.n0,Fa h hp⟩
theorem Cv.okMem{M:A9}(h:Cv M):EG M.mem:=⟨h.n0,h.word⟩
end
theorem B9{p:Prop}(h:p):Hid p:=h
section
attribute [local go_sem ↓] wp_at_zero wp_at_succ
def Ao:DL Cz:=⟨38,4,fun x=>[.int .i64 x.page,.int .i64 x.need,.int .i64 x.kind,.int .i64 x.out],⟨0,0,0,0⟩,by omega,fun _=>rfl⟩
theorem Iz:(prog.info? 38).map (fun i=>(i.zero,i.size,i.bytes))=some (some (.agg #[.int .i64 0,.int .i64 0,.int .i64 0,.int .i64 0]),4,32):=by kernel_rfl
theorem ED(A:Int)(B:Int)(C:Int)(D:Int)(w:World):Calls prog 11 #[.agg #[.int .i64 A,.int .i64 B,.int .i64 C,.int .i64 D],.agg #[.int .i64 A,.int .i64 B,.int .i64 C,.int .i64 D]] w fun e w'=>e=.returned (.bool true)/\Below w.heap.size w w':=by
 go_enter func11,ntmps11
 go_wp2
 go_ret;exact⟨rfl,((Below.refl _ _).alloc (Nat.le_refl _) _).alloc (by simp) _⟩
theorem Hy(v u:Value)(bv bu:Nat)(xs:List Cz)(w:World)(hn:xs.length<=1048576)(hv:A6 Ao w bv v xs)(hu:A6 Ao w bu u xs):Calls prog 80 #[v,u] w fun e w'=>e=.returned (.bool true)/\Below w.heap.size w w':=by
 obtain⟨a,c,rfl,ha⟩:=hv.form;obtain⟨b,d,rfl,hb⟩:=hu.form;clear hv hu;go_enter func80,ntmps80
 go_wp2
 go_loopw [5] (fun i wr=>∃k:Nat,k<=xs.length/\i=.int .i64 k/\Below w.heap.size w wr) (fun i _=>xs.length-(intOf i).toNat)
 case atStart=>exact⟨0,Nat.zero_le _,rfl,Below.refl _ _⟩
 case round =>
  obtain⟨k,hk,rfl,hbl⟩:=hrel;by_cases hlt:k<xs.length
  ·obtain⟨g,N,f,rfl,_,hr,hN,hf⟩:=ha (by omega);obtain⟨h,M,f',rfl,_,hr',hM,hf'⟩:=hb (by omega);have hN':xs.length*4<=N:=hN;have hM':xs.length*4<=M:=hM;have hr1:wr.rowIs g 38 N f:=hr.of_block (hbl.block g hr.lt);have hr2:wr.rowIs h 38 M f':=hr'.of_block (hbl.block h hr'.lt);have q0:=hr1.cell (i:=k*4) (by omega);have q1:=hr1.cell (i:=k*4+1) (by omega);have q2:=hr1.cell (i:=k*4+2) (by omega);have q3:=hr1.cell (i:=k*4+3) (by omega);have r0:=hr2.cell (i:=k*4) (by omega);have r1:=hr2.cell (i:=k*4+1) (by omega);have r2:=hr2.cell (i:=k*4+2) (by omega);have r3:=hr2.cell (i:=k*4+3) (by omega);rw[show f (k*4)=_ from hf k hlt 0 (by decide)] at q0;rw[show f (k*4+1)=_ from hf k hlt 1 (by decide)] at q1;rw[show f (k*4+2)=_ from hf k hlt 2 (by decide)] at q2;rw[show f (k*4+3)=_ from hf k hlt 3 (by decide)] at q3;rw[show f' (k*4)=_ from hf' k hlt 0 (by decide)] at r0;rw[show f' (k*4+1)=_ from hf' k hlt 1 (by decide)] at r1;rw[show f' (k*4+2)=_ from hf' k hlt 2 (by decide)] at r2;rw[show f' (k*4+3)=_ from hf' k hlt 3 (by decide)] at r3;have n1:=hr1.lt;have n2:=hr2.lt;have HB:Hid (Below w.heap.size w wr):=hbl;clear hf hf' ha hb hr hr' hr1 hr2 hbl hN hM;have c0:wr.cell? ⟨g,k*4,none⟩=some (.int .i64 (A8 Ao xs k).page):=q0;have d0:wr.cell? ⟨h,k*4,none⟩=some (.int .i64 (A8 Ao xs k).page):=r0;have c1:wr.cell? ⟨g,k*4+1,none⟩=some (.int .i64 (A8 Ao xs k).need):=q1;have d1:wr.cell? ⟨h,k*4+1,none⟩=some (.int .i64 (A8 Ao xs k).need):=r1;have c2:wr.cell? ⟨g,k*4+2,none⟩=some (.int .i64 (A8 Ao xs k).kind):=q2;have d2:wr.cell? ⟨h,k*4+2,none⟩=some (.int .i64 (A8 Ao xs k).kind):=r2;have c3:wr.cell? ⟨g,k*4+3,none⟩=some (.int .i64 (A8 Ao xs k).out):=q3;have d3:wr.cell? ⟨h,k*4+3,none⟩=some (.int .i64 (A8 Ao xs k).out):=r3;clear q0 r0 q1 r1 q2 r2 q3 r3;generalize (A8 Ao xs k).page=A at *;generalize (A8 Ao xs k).need=B at *;generalize (A8 Ao xs k).kind=C at *;generalize (A8 Ao xs k).out=D at *;(have L1:(0:Int)<=(k:Int):=by omega);(have L2:(k:Int)<(xs.length:Int):=by omega);have he:=ED A B C D;have HK:Hid (∀w',Below wr.heap.size wr w'->w'.cell? ⟨g,k*4,none⟩=some (.int .i64 A)/\w'.cell? ⟨g,k*4+1,none⟩=some (.int .i64 B)/\w'.cell? ⟨g,k*4+2,none⟩=some (.int .i64 C)/\w'.cell? ⟨g,k*4+3,none⟩=some (.int .i64 D)/\w'.cell? ⟨h,k*4,none⟩=some (.int .i64 A)/\w'.cell? ⟨h,k*4+1,none⟩=some (.int .i64 B)/\w'.cell? ⟨h,k*4+2,none⟩=some (.int .i64 C)/\w'.cell? ⟨h,k*4+3,none⟩=some (.int .i64 D)) :=
    fun w' hX=>⟨(hX.cell n1).trans c0,(hX.cell n1).trans c1,(hX.cell n1).trans c2,(hX.cell n1).trans c3,(hX.cell n2).trans d0,(hX.cell n2).trans d1,(hX.cell n2).trans d2,(hX.cell n2).trans d3⟩
   (go_wp2);go_region_held3 (fun w'=>w'.cell? ⟨g,k*4,none⟩=some (.int .i64 A)/\w'.cell? ⟨g,k*4+1,none⟩=some (.int .i64 B)/\w'.cell? ⟨g,k*4+2,none⟩=some (.int .i64 C)/\w'.cell? ⟨g,k*4+3,none⟩=some (.int .i64 D)/\w'.cell? ⟨h,k*4,none⟩=some (.int .i64 A)/\w'.cell? ⟨h,k*4+1,none⟩=some (.int .i64 B)/\w'.cell? ⟨h,k*4+2,none⟩=some (.int .i64 C)/\w'.cell? ⟨h,k*4+3,none⟩=some (.int .i64 D))
    ((refine HK.out _ ?_;repeat (first|exact Below.refl _ _|with_reducible refine Below.drew ?_|refine Below.trans ?_ (hb1.mono (by first|omega|(simp<;>omega))))))
    (first|(go_at_call 11;refine(he _).mono ?_;rintro e w1 ⟨rfl,hb1⟩))
   (go_wp2);go_roundw;(case rel=>exact⟨k+1,by omega,by go_num,HB.out.trans ((Below.refl _ _).drew.trans (hb1.mono HB.out.size))⟩);case measure=>simp[intOf];omega
  ·(go_wp2);go_ret;exact⟨rfl,hbl⟩
def CC (s:Int) (i j:Nat):Value :=
 match j with
 | 0=>.int .i64 (s+i*4)
 | 1=>.int .i64 (s+i*4+1)
 | 2=>.int .i64 (s+i*4+1+1)
 | 3=>.int .i64 (s+i*4+1+1+1)
 | _=>.bool false
theorem Gl(v:Value)(bv:Nat)(xs:List Cz)(s:Int)(w:World)(hs0:0<=s)(hs1:s<=100000000)(hn:xs.length<=1048576)(hv:A6 Ao w bv v xs):Calls prog 83 #[v,.int .i64 s] w fun e w'=>e=.returned (.int .i64 (s+xs.length*4))/\Bu Ao w' v xs.length (CC s)/\w.grownBy w' v.ownBlock:=by
 obtain⟨a,c,rfl,ha⟩:=hv.form;by_cases h0:xs.length=0
 ·rw[h0];clear ha hv;go_enter func83,ntmps83
  go_wp2
  go_loopw [1,5] (fun m i wr=>i=.int .i64 0/\m=.int .i64 s/\wr=w) (fun _ i _=>0)
  case atStart=>exact⟨rfl,rfl,rfl⟩
  case round =>
   obtain⟨rfl,rfl,rfl⟩:=hrel;(go_wp2);go_ret;exact⟨by simp,⟨a,c,rfl,fun h=>absurd h (by omega)⟩,World.grownBy.refl _ _⟩
 ·obtain⟨g,N,f,rfl,_,hr,hN,hf⟩:=ha (by omega);have hN':xs.length*4<=N:=hN;clear ha hf hv hN;go_enter func83,ntmps83
  go_wp2
  go_loopw [1,5] (fun m i wr=>∃k:Nat,k<=xs.length/\i=.int .i64 k/\m=.int .i64 (s+k*4)/\(∃f,wr.rowIs g 38 N f/\∀i,i<k->∀j,j<4->f (i*4+j)=CC s i j)/\w.grownBy wr (some g)) (fun _ i _=>xs.length-(intOf i).toNat)
  case atStart=>exact⟨0,Nat.zero_le _,rfl,by simp,⟨_,hr,fun i hi=>absurd hi (by omega)⟩,World.grownBy.refl _ _⟩
  case round =>
   obtain⟨k,hk,rfl,rfl,⟨f,hrow,hf⟩,hb⟩:=hrel;by_cases hlt:k<xs.length
   ·have HF:Hid _:=hf;have HROW:Hid (wr.rowIs g _ N f):=hrow;have HB:Hid (w.grownBy wr _):=hb;have f0:=hrow.frozen (k*4);have o0:=hrow.cell (i:=k*4) (by omega);have f1:=hrow.frozen (k*4+1);have o1:=hrow.cell (i:=k*4+1) (by omega);have f2:=hrow.frozen (k*4+2);have o2:=hrow.cell (i:=k*4+2) (by omega);have f3:=hrow.frozen (k*4+3);have o3:=hrow.cell (i:=k*4+3) (by omega);generalize f (k*4)=u100 at o0;generalize f (k*4+1)=u101 at o1;generalize f (k*4+2)=u102 at o2;generalize f (k*4+3)=u103 at o3;(have L1:(0:Int)<=(k:Int):=by omega);(have L2:(k:Int)<(xs.length:Int):=by omega);clear hf hrow hb hr;(go_wp2);go_roundw;case rel =>
     refine⟨k+1,by omega,by go_num,by go_num,⟨_,(((HROW.out.set (k*4) _).set (k*4+1) _).set (k*4+2) _).set (k*4+3) _,?_⟩,AN (AN (AN (AN (HB.out) _ _) _ _) _ _) _ _⟩;intro i hi j hj;by_cases e:i=k
     ·subst e;rcases(show j=0\/j=1\/j=2\/j=3 by omega) with rfl|rfl|rfl|rfl
      ·simp[CC]
      ·simp[CC]
      ·simp[CC]
      ·simp[CC]
     ·(have hik:i<k:=by omega);rw[<- HF.out i hik j hj];rw[if_neg (by omega)];rw[if_neg (by omega)];rw[if_neg (by omega)];rw[if_neg (by omega)]
    case measure=>simp[intOf];omega
   ·(have e:k=xs.length:=by omega);subst e;(go_wp2);go_ret;exact⟨rfl,⟨_,c,rfl,fun _=>⟨g,N,f,rfl,hrow,hN',hf⟩⟩,hb⟩
theorem Gh(v:Value)(n:Nat)(s:Int)(w:World)(hs0:0<=s)(hs1:s<=100000000)(hn:n<=1048576)(hv:Bu Ao w v n (CC s)):Calls prog 84 #[v,.int .i64 s] w fun e w'=>e=.returned (.int .i64 (s+n*4))/\Below w.heap.size w w':=by
 obtain⟨a,c,rfl,ha⟩:=hv;go_enter func84,ntmps84
 go_wp2
 go_loopw [1,5] (fun m i wr=>∃k:Nat,k<=n/\i=.int .i64 k/\m=.int .i64 (s+k*4)/\Below w.heap.size w wr) (fun _ i _=>n-(intOf i).toNat)
 case atStart=>exact⟨0,Nat.zero_le _,rfl,by simp,Below.refl _ _⟩
 case round =>
  obtain⟨k,hk,rfl,rfl,hb⟩:=hrel;by_cases hlt:k<n
  ·obtain⟨g,N,f,rfl,hr,hN,hf⟩:=ha (by omega);have hN':n*4<=N:=hN;have hr1:wr.rowIs g 38 N f:=hr.of_block (hb.block g hr.lt);have q0:=hr1.cell (i:=k*4) (by omega);have q1:=hr1.cell (i:=k*4+1) (by omega);have q2:=hr1.cell (i:=k*4+2) (by omega);have q3:=hr1.cell (i:=k*4+3) (by omega);rw[show f (k*4)=_ from hf k hlt 0 (by decide)] at q0;rw[show f (k*4+1)=_ from hf k hlt 1 (by decide)] at q1;rw[show f (k*4+2)=_ from hf k hlt 2 (by decide)] at q2;rw[show f (k*4+3)=_ from hf k hlt 3 (by decide)] at q3;have c0:wr.cell? ⟨g,k*4,none⟩=some (.int .i64 (s+k*4)):=q0;have c1:wr.cell? ⟨g,k*4+1,none⟩=some (.int .i64 (s+k*4+1)):=q1;have c2:wr.cell? ⟨g,k*4+2,none⟩=some (.int .i64 (s+k*4+1+1)):=q2;have c3:wr.cell? ⟨g,k*4+3,none⟩=some (.int .i64 (s+k*4+1+1+1)):=q3;clear q0 q1 q2 q3;(have L1:(0:Int)<=(k:Int):=by omega);(have L2:(k:Int)<(n:Int):=by omega);clear hf ha hr hr1 hN;(go_wp2);go_roundw;(case rel=>exact⟨k+1,by omega,by go_num,by go_num,hb⟩);case measure=>simp[intOf];omega
  ·(have e:k=n:=by omega);subst e;(go_wp2);go_ret;exact⟨rfl,hb⟩
end
def Ay (e:AW):Bool:=AP e.page&&Ax e.choice&&(if e.kind=4 then Ap e.need else decide (e.need=0)&&decide (0<=e.kind)&&decide (e.kind<=3))
structure XS where
 M:A9
 at':Nat
 code:Int
 seen:List Cz
def Cb (ops:List Bi) (i:Nat):Bi:=A8 CH ops i
def Bt (ops:List Bi) (x:XS):XS :=
 if x.at'<ops.length then
  (if (CP x.M (Cb ops x.at')).2=0 then ⟨(CP x.M (Cb ops x.at')).1,x.at'+1,0,x.seen⟩ else ⟨x.M,x.at',(CP x.M (Cb ops x.at')).2,x.seen⟩)
 else x
def AR (ops:List Bi) (x:XS) (e:AW):XS :=
 if e.kind=0 then Bt ops x
 else if e.kind=1 then ⟨(Ah x.M e.page e.choice).1,x.at',x.code,x.seen⟩
 else if e.kind=2 then ⟨⟨x.M.mem,x.M.pend,AI A7 true e.choice x.M.tlb x.M.tlb.length,x.M.wc⟩,x.at',x.code,x.seen⟩
 else if e.kind=3 then ⟨⟨x.M.mem,x.M.pend,x.M.tlb,AI AJ true e.choice x.M.wc x.M.wc.length⟩,x.at',x.code,x.seen⟩
 else ⟨Cw x.M e.page e.choice,x.at',x.code,x.seen++[DY x.M e.page e.need e.choice]⟩
def Ae (ops:List Bi) (evs:List AW):Nat->XS->XS
 | 0,x=>x
 | k+1,x=>let y:=Ae ops evs k x;if y.code=0 then AR ops y (A8 AC evs k) else y
def B7 (ops:List Bi):Nat->XS->XS
 | 0,x=>x
 | k+1,x=>let y:=B7 ops k x;if y.code=0 then Bt ops y else y
theorem Df(ops:List Bi)(k:Nat)(x:XS):B7 ops (k+1) x=if (B7 ops k x).code=0 then Bt ops (B7 ops k x) else B7 ops k x:=rfl
theorem CR(ops:List Bi)(evs:List AW)(k:Nat)(x:XS):Ae ops evs (k+1) x=if (Ae ops evs k x).code=0 then AR ops (Ae ops evs k x) (A8 AC evs k) else Ae ops evs k x:=rfl
def CD (M:A9):XS:=⟨M,0,0,[]⟩
def Fq (M:A9) (ops:List Bi) (evs:List AW):XS:=B7 ops ops.length (Ae ops evs evs.length (CD M))
def Cj (M:A9) (ops:List Bi) (evs:List AW):Bool:=AG M&&decide (ops.length<=20000)&&decide (evs.length<=10000)&&(List.range evs.length).all (fun i=>Ay (A8 AC evs i))
def E9 (M:A9) (ops:List Bi) (evs:List AW):XS:=if Cj M ops evs then Fq M ops evs else ⟨zM,0,9,[]⟩
structure Fx (ops:List Bi) (x:XS):Prop where
 vm:VM x.M
 at':x.at'<=ops.length
 code:0<=x.code/\x.code<=9
theorem Lp(M:A9)(o:Bi):0<=(CP M o).2/\(CP M o).2<=9:=by
 unfold CP Ag;repeat' split
 all_goals first|decide|(dsimp only;decide)|skip
 all_goals (dsimp only;repeat' split)<;>omega
theorem Lr{M:A9}{o:Bi}(h:(CP M o).2≠0):(CP M o).1=M:=by
 unfold CP at h ⊢;split
 ·rfl
 ·rename_i hb;rw[if_neg hb] at h;split
  ·rename_i hk;rw[if_pos hk] at h;dsimp only at h ⊢;rw[if_neg h]
  ·rename_i hk;rw[if_neg hk] at h;split
   ·rename_i h2;rw[if_pos h2] at h;exact absurd rfl h
   ·rename_i h2;rw[if_neg h2] at h;split
    ·rename_i h3;rw[if_pos h3] at h;exact absurd rfl h
    ·rfl
theorem JA{ops:List Bi}(ho:∀i,CM (Cb ops i)){x:XS}(h:Fx ops x):Fx ops (Bt ops x):=by
 unfold Bt;split
 ·split
  ·exact⟨NU h.vm _ (ho _),by dsimp only;omega,by dsimp only;decide⟩
  ·exact⟨h.vm,h.at',Lp _ _⟩
 ·exact h
theorem FL{e:AW}(h:Ay e=true):(0<=e.page/\e.page<4096)/\(0<=e.choice/\e.choice<=65535)/\0<=e.kind/\e.kind<=4/\(e.kind=4->Ap e.need=true)/\(e.kind≠4->e.need=0):=by
 unfold Ay AP Ax at h;simp only[Bool.and_eq_true,decide_eq_true_eq] at h;obtain⟨⟨h1,h2⟩,h3⟩:=h;refine⟨h1,h2,?_⟩;split at h3
 ·rename_i hk;exact⟨by omega,by omega,fun _=>h3,fun hn=>absurd hk hn⟩
 ·rename_i hk;simp only[Bool.and_eq_true,decide_eq_true_eq] at h3;exact⟨h3.1.2,by omega,fun hh=>absurd hh hk,fun _=>h3.1.1⟩
theorem K4{ops:List Bi}(ho:∀i,CM (Cb ops i)){x:XS}(h:Fx ops x){e:AW}(he:Ay e=true):Fx ops (AR ops x e):=by
 obtain⟨hp,hc,hk⟩:=FL he;unfold AR;split
 ·exact JA ho h
 ·split
  ·exact⟨JE h.vm _ _ hp.1 hp.2,h.at',h.code⟩
  ·split
   ·exact⟨MS h.vm _ _,h.at',h.code⟩
   ·split
    ·exact⟨Ly h.vm _ _,h.at',h.code⟩
    ·exact⟨Mw h.vm _ _ hp.1 hp.2,h.at',h.code⟩
theorem Ct{ops:List Bi}(ho:∀i,CM (Cb ops i)){evs:List AW}(he:∀i,i<evs.length->Ay (A8 AC evs i)=true){x:XS}(h:Fx ops x):∀k,k<=evs.length->Fx ops (Ae ops evs k x)
 | 0,_=>h
 | k+1,hk=>by
  unfold Ae;dsimp only;split
  ·exact K4 ho (Ct ho he h k (by omega)) (he k (by omega))
  ·exact Ct ho he h k (by omega)
theorem Dc{ops:List Bi}(ho:∀i,CM (Cb ops i)){x:XS}(h:Fx ops x):∀k,Fx ops (B7 ops k x)
 | 0=>h
 | k+1=>by
  unfold B7;dsimp only;split
  ·exact JA ho (Dc ho h k)
  ·exact Dc ho h k
theorem Hr(ops:List Bi)(x:XS)(e:AW):(AR ops x e).seen.length<=x.seen.length+1:=by
 unfold AR Bt;repeat' split
 all_goals simp
theorem K9(ops:List Bi)(x:XS):(Bt ops x).seen=x.seen:=by
 unfold Bt;repeat' split
 all_goals rfl
theorem Dt(ops:List Bi)(evs:List AW)(x:XS):∀k,(Ae ops evs k x).seen.length<=x.seen.length+k
 | 0=>Nat.le_refl _
 | k+1=>by
  have ih:=Dt ops evs x k;unfold Ae;dsimp only;split
  ·have:=Hr ops (Ae ops evs k x) (A8 AC evs k);omega
  ·omega
theorem Eh(ops:List Bi)(x:XS):∀k,(B7 ops k x).seen=x.seen
 | 0=>rfl
 | k+1=>by
  unfold B7;dsimp only;split
  ·rw[K9];exact Eh ops x k
  ·exact Eh ops x k
def Ir (ops:List Bi) (x:XS):Prop:=x.code≠0\/¬x.at'<ops.length
theorem Dr{ops:List Bi}{x:XS}(h:¬x.at'<ops.length):Bt ops x=x:=by unfold Bt;rw[if_neg h]
theorem Dn{ops:List Bi}{x:XS}{k:Nat}(h:Ir ops (B7 ops k x)):∀j,B7 ops (k+j) x=B7 ops k x
 | 0=>rfl
 | j+1=>by
  rw[show k+(j+1)=(k+j)+1 by omega,Df,Dn h j];split
  ·rename_i hc;rcases h with h|h
   ·exact absurd hc h
   ·exact Dr h
  ·rfl
theorem Ih{ops:List Bi}{x:XS}(h:x.at'<ops.length)(hc:(Bt ops x).code=0):(Bt ops x).at'=x.at'+1:=by
 unfold Bt at hc ⊢;rw[if_pos h] at hc ⊢;split
 ·rfl
 ·rename_i hn;rw[if_neg hn] at hc;exact absurd hc hn
theorem JB{ops:List Bi}{x:XS}(hx:x.code=0):∀k,Ir ops (B7 ops k x)\/((B7 ops k x).code=0/\(B7 ops k x).at'=x.at'+k)
 | 0=>.inr ⟨hx,rfl⟩
 | k+1=>by
  rcases JB hx k with h|⟨h1,h2⟩
  ·have:=Dn h 1;rw[this];exact .inl h
  ·have e:B7 ops (k+1) x=Bt ops (B7 ops k x):=by
    rw[Df,if_pos h1]
   rw[e];by_cases hl:(B7 ops k x).at'<ops.length
   ·by_cases hc:(Bt ops (B7 ops k x)).code=0
    ·exact .inr ⟨hc,by rw[Ih hl hc,h2];omega⟩
    ·exact .inl (.inl hc)
   ·rw[Dr hl];exact .inl (.inr hl)
theorem G0{ops:List Bi}{x:XS}:Ir ops (B7 ops ops.length x):=by
 by_cases hx:x.code=0
 ·rcases JB (ops:=ops) hx ops.length with h|⟨h1,h2⟩
  ·exact h
  ·exact .inr (by omega)
 ·have:∀k,B7 ops k x=x:=by
   intro k;induction k with
   | zero=>rfl
   | succ k ih =>
    unfold B7;dsimp only;rw[ih,if_neg hx]
  rw[this];exact .inl hx
theorem Mi{M:A9}{ops:List Bi}{evs:List AW}(ho:∀i,CM (Cb ops i))(hv:VM M)(he:∀i,i<evs.length->Ay (A8 AC evs i)=true)(hc:(Fq M ops evs).code=0):(Fq M ops evs).at'=ops.length:=by
 have h1:Fx ops (Fq M ops evs):=Dc ho (Ct ho he ⟨hv,by simp[CD],by simp[CD]⟩ _ (Nat.le_refl _)) _;have h2:=h1.at';have h3:Ir ops (Fq M ops evs):=G0;rcases h3 with h3|h3
 ·exact absurd hc h3
 ·omega
section
attribute [local go_sem ↓] wp_at_zero wp_at_succ
theorem Ha{w:World}{b c:Nat}{a:Option Addr}{xs:List Bi}(h:A6 CH w b (.slice a xs.length c) xs):∃g,(0<xs.length->a=some ⟨g,0,none⟩/\g<w.heap.size)/\∀k K A B W,k<xs.length->Cb xs k=⟨K,A,B,W⟩->∀wX:World,wX.heap[g]?=w.heap[g]?->wX.cell? ⟨g,k*4,none⟩=some (.int .i64 K)/\wX.cell? ⟨g,k*4+1,none⟩=some (.int .i64 A)/\wX.cell? ⟨g,k*4+2,none⟩=some (.int .i64 B)/\wX.cell? ⟨g,k*4+3,none⟩=some (.int .u64 W):=by
 obtain⟨g,h1,h2⟩:=h.cellsB;refine⟨g,fun h0=>⟨(h1 h0).1,(h1 h0).2.1⟩,fun k K A B W hk he wX hX=>?_⟩;have e0:∀j,AL CH xs k j=((CH.enc ⟨K,A,B,W⟩)[j]?).getD (.bool false):=fun j=>by
  have he':A8 CH xs k=⟨K,A,B,W⟩:=he;unfold AL;rw[he']
 have c:∀j,j<4->wX.cell? ⟨g,k*4+j,none⟩=some (AL CH xs k j):=fun j hj=>h2 k hk j hj wX hX
 exact⟨(c 0 (by omega)).trans (by rw[e0];rfl),(c 1 (by omega)).trans (by rw[e0];rfl),(c 2 (by omega)).trans (by rw[e0];rfl),(c 3 (by omega)).trans (by rw[e0];rfl)⟩
theorem ER{w:World}{b c:Nat}{a:Option Addr}{xs:List AW}(h:A6 AC w b (.slice a xs.length c) xs):∃g,(0<xs.length->a=some ⟨g,0,none⟩/\g<w.heap.size)/\∀k K P N C,k<xs.length->A8 AC xs k=⟨K,P,N,C⟩->∀wX:World,wX.heap[g]?=w.heap[g]?->wX.cell? ⟨g,k*4,none⟩=some (.int .i64 K)/\wX.cell? ⟨g,k*4+1,none⟩=some (.int .i64 P)/\wX.cell? ⟨g,k*4+2,none⟩=some (.int .i64 N)/\wX.cell? ⟨g,k*4+3,none⟩=some (.int .i64 C):=by
 obtain⟨g,h1,h2⟩:=h.cellsB;refine⟨g,fun h0=>⟨(h1 h0).1,(h1 h0).2.1⟩,fun k K P N C hk he wX hX=>?_⟩;have e0:∀j,AL AC xs k j=((AC.enc ⟨K,P,N,C⟩)[j]?).getD (.bool false):=fun j=>by
  unfold AL;rw[he]
 have c:∀j,j<4->wX.cell? ⟨g,k*4+j,none⟩=some (AL AC xs k j):=fun j hj=>h2 k hk j hj wX hX
 exact⟨(c 0 (by omega)).trans (by rw[e0];rfl),(c 1 (by omega)).trans (by rw[e0];rfl),(c 2 (by omega)).trans (by rw[e0];rfl),(c 3 (by omega)).trans (by rw[e0];rfl)⟩
end
structure XV where
 u:UV
 sa:Option Addr
 sc:Nat
def XV.all (v:XV) (gx gu k:Nat):Prop:=k=gx\/v.u.all gu k\/Al v.sa=some k
theorem UM.all_lt{W:World}{gu b0 B:Nat}{L:Bool}{u:UV}{M:A9}(h:UM W gu b0 B L u M)(k:Nat)(hk:u.all gu k):k<W.heap.size:=by
 rcases hk with rfl|hk|hk|hk|hk|hk
 ·exact h.lt
 ·exact(h.w.ownA k hk).2
 ·exact h.o2 k hk
 ·exact(h.p.ownA k hk).2
 ·exact(h.t.ownA k hk).2
 ·exact(h.c.ownA k hk).2
structure XM (W:World) (gx gu b0:Nat) (oa:Option Addr) (oc:Nat) (ops:List Bi) (v:XV) (x:XS):Prop where
 lt:gx<W.heap.size
 q0:W.cell? ⟨gx,0,none⟩=some (.pointer (some ⟨gu,0,none⟩))
 q1:W.cell? ⟨gx,1,none⟩=some (.slice oa ops.length oc)
 q2:W.cell? ⟨gx,2,none⟩=some (.int .i64 (x.at':Int))
 q3:W.cell? ⟨gx,3,none⟩=some (.int .i64 x.code)
 q4:W.cell? ⟨gx,4,none⟩=some (.slice v.sa x.seen.length v.sc)
 f2:W.frozen? ⟨gx,2,none⟩=false
 f3:W.frozen? ⟨gx,3,none⟩=false
 f4:W.frozen? ⟨gx,4,none⟩=false
 um:UM W gu b0 b0 true v.u x.M
 th:CB v.u
 s:A6 Ao W b0 (.slice v.sa x.seen.length v.sc) x.seen
 ng:¬v.u.all gu gx
 ns:Al v.sa≠some gx
 nu:∀k,Al v.sa=some k->¬v.u.all gu k
theorem XM.all_lt{W:World}{gx gu b0:Nat}{oa:Option Addr}{oc:Nat}{ops:List Bi}{v:XV}{x:XS}(h:XM W gx gu b0 oa oc ops v x)(k:Nat)(hk:v.all gx gu k):k<W.heap.size:=by
 rcases hk with rfl|hk|hk
 ·exact h.lt
 ·exact h.um.all_lt k hk
 ·exact(h.s.ownA k hk).2
theorem XM.below{W W':World}{gx gu b0:Nat}{oa:Option Addr}{oc:Nat}{ops:List Bi}{v:XV}{x:XS}(h:XM W gx gu b0 oa oc ops v x)(hb:Below W.heap.size W W'):XM W' gx gu b0 oa oc ops v x :=
 ⟨Nat.lt_of_lt_of_le h.lt hb.size,(hb.cell h.lt).trans h.q0,(hb.cell h.lt).trans h.q1,(hb.cell h.lt).trans h.q2,(hb.cell h.lt).trans h.q3,(hb.cell h.lt).trans h.q4,(hb.frozen h.lt).trans h.f2,(hb.frozen h.lt).trans h.f3,(hb.frozen h.lt).trans h.f4,h.um.below hb,h.th,h.s.below hb,h.ng,h.ns,h.nu⟩
structure AU (w w':World) (gx gu b0:Nat) (oa:Option Addr) (oc:Nat) (ops:List Bi) (v v':XV) (x':XS):Prop where
 xm:XM w' gx gu b0 oa oc ops v' x'
 tch:A5 (v.all gx gu) w w'
 old:∀k,v'.all gx gu k->v.all gx gu k\/w.heap.size<=k
theorem AU.refl{w w':World}{gx gu b0:Nat}{oa:Option Addr}{oc:Nat}{ops:List Bi}{v:XV}{x:XS}(h:XM w gx gu b0 oa oc ops v x)(hb:Below w.heap.size w w'):AU w w' gx gu b0 oa oc ops v v x:=⟨h.below hb,A5.of_below hb,fun k hk=>.inl hk⟩
theorem AU.trans{a b c:World}{gx gu b0:Nat}{oa:Option Addr}{oc:Nat}{ops:List Bi}{v y z:XV}{x1 x2:XS}(h:AU a b gx gu b0 oa oc ops v y x1)(k:AU b c gx gu b0 oa oc ops y z x2):AU a c gx gu b0 oa oc ops v z x2 :=
 ⟨k.xm,h.tch.then k.tch (fun i hi hv=>(h.old i hv).resolve_right (by omega)),fun i hi=>by
  rcases k.old i hi with hv|hv
  ·exact h.old i hv
  ·exact .inr (Nat.le_trans h.tch.size hv)⟩
theorem AU.under{B:Nat}{w0 w w':World}{gx gu b0:Nat}{oa:Option Addr}{oc:Nat}{ops:List Bi}{v v':XV}{x':XS}(h:AU w w' gx gu b0 oa oc ops v v' x')(hb:Below B w0 w)(hB:B<=w.heap.size)(hv:∀k,v.all gx gu k->B<=k):Below B w0 w'/\(∀k,v'.all gx gu k->B<=k) :=
 ⟨A5.below hb h.tch hB hv,fun k hk=>(h.old k hk).elim (hv k) (fun hh=>by omega)⟩
theorem XM.mach{w w':World}{gx gu b0:Nat}{oa:Option Addr}{oc:Nat}{ops:List Bi}{v:XV}{x:XS}{u':UV}{M':A9}(h:XM w gx gu b0 oa oc ops v x)(k:Bk w w' gu b0 b0 v.u u' M'):AU w w' gx gu b0 oa oc ops v ⟨u',v.sa,v.sc⟩ ⟨M',x.at',x.code,x.seen⟩:=by
 have hlt:=h.lt;have hblk:w'.heap[gx]?=w.heap[gx]?:=k.tch.block gx h.lt h.ng;have hso:∀i,Al v.sa=some i->i<w.heap.size:=fun i hi=>(h.s.ownA i hi).2
 refine⟨⟨Nat.lt_of_lt_of_le h.lt k.tch.size,(World.cell?_of_block hblk).trans h.q0,(World.cell?_of_block hblk).trans h.q1,(World.cell?_of_block hblk).trans h.q2,(World.cell?_of_block hblk).trans h.q3,(World.cell?_of_block hblk).trans h.q4,(World.frozen?_of_block hblk).trans h.f2,(World.frozen?_of_block hblk).trans h.f3,(World.frozen?_of_block hblk).trans h.f4,k.um,k.th,h.s.touchA k.tch h.nu,fun hh=>?_,h.ns,fun i hi hh=>?_⟩,?_,fun i hi=>?_⟩
 ·rcases k.old gx hh with h'|h'
  ·exact h.ng h'
  ·omega
 ·rcases k.old i hh with h'|h'
  ·exact h.nu i hi h'
  ·have:=hso i hi;omega
 ·exact⟨k.tch.os,k.tch.tape,k.tch.output,k.tch.size,fun i hi hn=>k.tch.block i hi (fun hh=>hn (.inr (.inl hh)))⟩
 ·rcases hi with hi|hi|hi
  ·exact .inl (.inl hi)
  ·exact(k.old i hi).elim (fun hh=>.inl (.inr (.inl hh))) .inr
  ·exact .inl (.inr (.inr hi))
theorem UM.other{W W':World}{gu b0 B gx:Nat}{L:Bool}{u:UV}{M:A9}(h:UM W gu b0 B L u M)(ht:A5 (fun k=>k=gx) W W')(hn:¬u.all gu gx):UM W' gu b0 B L u M :=
 h.touch ht (fun e=>hn (.inl e.symm)) (fun k hk e=>hn (.inr (.inl (e ▸ hk)))) (fun k hk e=>hn (.inr (.inr (.inl (e ▸ hk))))) (fun k hk e=>hn (.inr (.inr (.inr (.inl (e ▸ hk)))))) (fun k hk e=>hn (.inr (.inr (.inr (.inr (.inl (e ▸ hk))))))) (fun k hk e=>hn (.inr (.inr (.inr (.inr (.inr (e ▸ hk)))))))
theorem XM.setAt{w:World}{gx gu b0:Nat}{oa:Option Addr}{oc:Nat}{ops:List Bi}{v:XV}{x:XS}(h:XM w gx gu b0 oa oc ops v x)(n:Nat):AU w (w.setCell ⟨gx,2,none⟩ (.int .i64 (n:Int))) gx gu b0 oa oc ops v v ⟨x.M,n,x.code,x.seen⟩:=by
 have ht:A5 (fun k=>k=gx) w (w.setCell ⟨gx,2,none⟩ (.int .i64 (n:Int))):=A5.put (A5.none _) _ _ (by rfl);have oc':∀i,i≠2->(w.setCell ⟨gx,2,none⟩ (.int .i64 (n:Int))).cell? ⟨gx,i,none⟩=w.cell? ⟨gx,i,none⟩:=fun i hi=>World.cell?_setCell_other _ _ _ _ (by intro e;injection e with _ e;exact hi e.symm)
 refine⟨⟨by simpa using h.lt,(oc' 0 (by omega)).trans h.q0,(oc' 1 (by omega)).trans h.q1,World.cell?_setCell_same _ _ _ h.q2,(oc' 3 (by omega)).trans h.q3,(oc' 4 (by omega)).trans h.q4,(World.frozen?_setCell _ _ _ _).trans h.f2,(World.frozen?_setCell _ _ _ _).trans h.f3,(World.frozen?_setCell _ _ _ _).trans h.f4,h.um.other ht h.ng,h.th,h.s.touchA ht (fun k hk e=>h.ns (e ▸ hk)),h.ng,h.ns,h.nu⟩,?_,fun k hk=>.inl hk⟩;exact⟨ht.os,ht.tape,ht.output,ht.size,fun i hi hn=>ht.block i hi (fun e=>hn (.inl e))⟩
theorem XM.setCode{w:World}{gx gu b0:Nat}{oa:Option Addr}{oc:Nat}{ops:List Bi}{v:XV}{x:XS}(h:XM w gx gu b0 oa oc ops v x)(n:Int):AU w (w.setCell ⟨gx,3,none⟩ (.int .i64 n)) gx gu b0 oa oc ops v v ⟨x.M,x.at',n,x.seen⟩:=by
 have ht:A5 (fun k=>k=gx) w (w.setCell ⟨gx,3,none⟩ (.int .i64 n)):=A5.put (A5.none _) _ _ (by rfl);have oc':∀i,i≠3->(w.setCell ⟨gx,3,none⟩ (.int .i64 n)).cell? ⟨gx,i,none⟩=w.cell? ⟨gx,i,none⟩:=fun i hi=>World.cell?_setCell_other _ _ _ _ (by intro e;injection e with _ e;exact hi e.symm)
 refine⟨⟨by simpa using h.lt,(oc' 0 (by omega)).trans h.q0,(oc' 1 (by omega)).trans h.q1,(oc' 2 (by omega)).trans h.q2,World.cell?_setCell_same _ _ _ h.q3,(oc' 4 (by omega)).trans h.q4,(World.frozen?_setCell _ _ _ _).trans h.f2,(World.frozen?_setCell _ _ _ _).trans h.f3,(World.frozen?_setCell _ _ _ _).trans h.f4,h.um.other ht h.ng,h.th,h.s.touchA ht (fun k hk e=>h.ns (e ▸ hk)),h.ng,h.ns,h.nu⟩,?_,fun k hk=>.inl hk⟩;exact⟨ht.os,ht.tape,ht.output,ht.size,fun i hi hn=>ht.block i hi (fun e=>hn (.inl e))⟩
theorem XM.newSeen{W W':World}{gx gu b0:Nat}{oa:Option Addr}{oc:Nat}{ops:List Bi}{v:XV}{x:XS}(h:XM W gx gu b0 oa oc ops v x)(hg:W.grownBy W' (Al v.sa))(a':Option Addr)(c':Nat)(ys:List Cz)(hc:A6 Ao W' b0 (.slice a' ys.length c') ys)(ho:∀k,Al a'=some k->Al v.sa=some k\/W.heap.size<=k):AU W (W'.setCell ⟨gx,4,none⟩ (.slice a' ys.length c')) gx gu b0 oa oc ops v ⟨v.u,a',c'⟩ ⟨x.M,x.at',x.code,ys⟩:=by
 have hlt:=h.lt;have hsz:=hg.size;have hblk:W'.heap[gx]?=W.heap[gx]?:=hg.block gx h.lt (fun e=>h.ns e.symm);have hS:A5 (fun k=>k=gx\/Al v.sa=some k) W (W'.setCell ⟨gx,4,none⟩ (.slice a' ys.length c')):=⟨hg.os,hg.tape,hg.output,by simpa using hg.size,fun k hk hn=>(Below.heap_setCell _ _ _ _ (fun e=>hn (.inl e))).trans (hg.block k hk (fun e=>hn (.inr e.symm)))⟩;have cells:∀i,i≠4->(W'.setCell ⟨gx,4,none⟩ (.slice a' ys.length c')).cell? ⟨gx,i,none⟩=W.cell? ⟨gx,i,none⟩:=fun i hi=>by
  rw[World.cell?_setCell_other _ _ _ _ (by intro e;injection e with _ e;exact hi e.symm)];exact World.cell?_of_block hblk
 have cnew:(W'.setCell ⟨gx,4,none⟩ (.slice a' ys.length c')).cell? ⟨gx,4,none⟩=some (.slice a' ys.length c'):=World.cell?_setCell_same _ _ _ ((World.cell?_of_block (a:=⟨gx,4,none⟩) hblk).trans h.q4);have frz:∀i,(W'.setCell ⟨gx,4,none⟩ (.slice a' ys.length c')).frozen? ⟨gx,i,none⟩=W.frozen? ⟨gx,i,none⟩:=fun i=>by
  rw[World.frozen?_setCell];exact World.frozen?_of_block (a:=⟨gx,i,none⟩) hblk
 have hne:Al a'≠some gx:=fun e=>by
  rcases ho gx e with h'|h'
  ·exact h.ns h'
  ·omega
 have hrow:A6 Ao (W'.setCell ⟨gx,4,none⟩ (.slice a' ys.length c')) b0 (.slice a' ys.length c') ys :=
  hc.touchA (S:=fun k=>k=gx) ⟨rfl,rfl,rfl,by simp,fun k hk hn=>Below.heap_setCell _ _ _ _ hn⟩ (fun k hk e=>hne (by rw[<- e];exact hk))
 have hn:∀k,v.u.all gu k->¬(k=gx\/Al v.sa=some k):=fun k hk hh=>hh.elim (fun e=>h.ng (e ▸ hk)) (fun e=>h.nu k e hk)
 have hum:=h.um.touch hS (hn gu (.inl rfl)) (fun k hk=>hn k (.inr (.inl hk))) (fun k hk=>hn k (.inr (.inr (.inl hk)))) (fun k hk=>hn k (.inr (.inr (.inr (.inl hk))))) (fun k hk=>hn k (.inr (.inr (.inr (.inr (.inl hk)))))) (fun k hk=>hn k (.inr (.inr (.inr (.inr (.inr hk))))));refine⟨⟨Nat.lt_of_lt_of_le h.lt hS.size,(cells 0 (by omega)).trans h.q0,(cells 1 (by omega)).trans h.q1,(cells 2 (by omega)).trans h.q2,(cells 3 (by omega)).trans h.q3,cnew,(frz 2).trans h.f2,(frz 3).trans h.f3,(frz 4).trans h.f4,hum,h.th,hrow,h.ng,hne,fun k hk hh=>?_⟩,⟨hS.os,hS.tape,hS.output,hS.size,fun i hi hni=>hS.block i hi (fun e=>hni (e.elim .inl (fun e=>.inr (.inr e))))⟩,fun k hk=>?_⟩
 ·rcases ho k hk with h'|h'
  ·exact h.nu k h' hh
  ·have:=h.um.all_lt k hh;omega
 ·rcases hk with hk|hk|hk
  ·exact .inl (.inl hk)
  ·exact .inl (.inr (.inl hk))
  ·exact(ho k hk).imp (fun e=>.inr (.inr e)) id
end Go.Proofs.YtnmhkgmmpkjjeabGreat
