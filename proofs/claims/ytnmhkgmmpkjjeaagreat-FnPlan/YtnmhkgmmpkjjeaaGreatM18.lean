import Derived.Test.YtnmhkgmmpkjjeaaGreatM16
import Derived.Test.YtnmhkgmmpkjjeaaGreatM14
import Derived.Test.YtnmhkgmmpkjjeaaGreatM17
namespace Go.Proofs.YtnmhkgmmpkjjeaaGreat
open ChangeShapes WideShapes ChangeAt RowKit Proofs.Tryz
set_option linter.all false
set_option maxRecDepth 100000
set_option maxHeartbeats 4000000
def C3 (H:Nat->Ht) (all:List P3) (lv pg:Int):Int :=
 if lv=3 then (if (H pg.toNat).k=1 then Aw 3 3 (H pg.toNat).o (H pg.toNat).p else 0)
 else if lv=2/\(H pg.toNat).s=16 then Aw 2 2 (H pg.toNat).o (H pg.toNat).p
 else if AI all (lv+1) pg<0 then 0 else Aw lv 1 (AI all (lv+1) pg) 0
def Fl (zs:List Int) (ad:Int):Int:=zs.getD ad.toNat 0
def GW (zs:List Int) (H:Nat->Ht) (all:List P3) (e:En):Bool:=decide (Fl zs e.ad%2=1/\¬Fl zs e.ad=C3 H all e.lv e.pg)
def MT (zs:List Int) (H:Nat->Ht) (all:List P3) (e:En):Bool:=decide (¬C3 H all e.lv e.pg=0/\¬C3 H all e.lv e.pg=Fl zs e.ad)
def Fg (zs:List Int) (H:Nat->Ht) (all:List P3) (es:List En) (p:Nat):Bool:=es.any fun e=>GW zs H all e&&decide (e.pg<=p/\(p:Int)<e.pg+BX e.lv)
def DH:BP:=⟨2,0,0,0⟩
def BU (l:List BP):List BP:=if l.isEmpty then [] else l++[DH]
def Ac (zs:List Int) (H:Nat->Ht) (all:List P3) (es:List En):List BP:=(es.filter (GW zs H all)).map fun e=>⟨1,e.ad,0,0⟩
def B8 (mk:Nat->Bool):List BP:=(Br mk 4096 4096).map fun r=>⟨3,r.1,r.2,0⟩
def As (n:Nat) (gone:List P3):List BP:=((List.range n).filter (fun f=>BA gone (f:Nat))).map fun f=>⟨4,(f:Nat),0,0⟩
def B6 (H:Nat->Ht) (all:List P3) (t:P3) (k:Nat):List BP:=(List.range k).map fun i=>⟨1,t.fr*16+(i:Nat),0,C3 H all t.lv (t.pg+(i:Nat)*BX t.lv)⟩
def AU (H:Nat->Ht) (all fresh:List P3):List BP:=fresh.flatMap fun t=>B6 H all t 16
def Ai (zs:List Int) (H:Nat->Ht) (all:List P3) (es:List En):List BP:=(es.filter (MT zs H all)).map fun e=>⟨1,e.ad,0,C3 H all e.lv e.pg⟩
def Cd (H:Nat->Ht) (ps:List P3):List P3:=Bd (AF H ps) (AJ H 256) (AJ H 256).length
def AW (H:Nat->Ht) (ps:List P3):List P3:=AF H ps++Cd H ps
def Bo (H:Nat->Ht) (ps:List P3):List En:=Bf (AF H ps) 4096
def Ao (zs:List Int) (n:Nat) (H:Nat->Ht) (ps:List P3):List BP :=
 BU (Ac zs H (AW H ps) (Bo H ps))++(BU (B8 (Fg zs H (AW H ps) (Bo H ps)))++(As n (Cm H ps)++(BU (AU H (AW H ps) (Cd H ps))++BU (Ai zs H (AW H ps) (Bo H ps)))))
theorem JP:BU []=[]:=rfl
theorem EG{l:List BP}(h:l≠[]):BU l=l++[DH]:=by
 unfold BU;rw[if_neg (by rw[List.isEmpty_iff];exact h)]
theorem JK{kept:List P3}{n:Nat}{e:En}(h:e∈Bf kept n):∃page lv:Nat,page<n/\1<=lv/\lv<=3/\page%Ay lv=0/\e.lv=lv/\e.pg=page/\0<=AI kept lv (page-page%(Ay lv*16):Nat)/\e.ad=AI kept lv (page-page%(Ay lv*16):Nat)*16+(page/Ay lv%16:Nat):=by
 unfold Bf at h;obtain⟨page,hp,h⟩:=List.mem_flatMap.1 h;have hp':=List.mem_range.1 hp;unfold Lm at h;have one:∀lv:Nat,1<=lv->lv<=3->e∈Dy kept page lv->∃page lv:Nat,page<n/\1<=lv/\lv<=3/\page%Ay lv=0/\e.lv=lv/\e.pg=page/\0<=AI kept lv (page-page%(Ay lv*16):Nat)/\e.ad=AI kept lv (page-page%(Ay lv*16):Nat)*16+(page/Ay lv%16:Nat):=by
  intro lv h1 h3 hm;unfold Dy at hm;split at hm
  ·rename_i hh;rw[List.mem_singleton] at hm;subst hm;exact⟨page,lv,hp',h1,h3,hh.1,rfl,rfl,hh.2,rfl⟩
  ·cases hm
 rcases List.mem_append.1 h with h|h
 ·exact one 1 (by decide) (by decide) h
 ·rcases List.mem_append.1 h with h|h
  ·exact one 2 (by decide) (by decide) h
  ·exact one 3 (by decide) (by decide) h
theorem Cx(lv:Nat):BX lv=Ay lv:=by
 unfold BX Ay;by_cases h1:lv=1
 ·subst h1;rfl
 ·by_cases h2:lv=2
  ·subst h2;rfl
  ·rw[if_neg (by omega),if_neg (by omega),if_neg h1,if_neg h2];rfl
theorem Hu(lv:Nat):1<=Ay lv:=by unfold Ay;split<;>(try split)<;>omega
theorem Uz{mk:Nat->Bool}{m:Nat}(h:Br mk m m=[]):∀p,p<m->mk p=false:=by
 intro p hp;cases hm:mk p
 ·rfl
 ·obtain⟨q,hq1,hq2,_⟩:=IG mk p hm;have:(q,BO mk m q)∈Br mk m m:=by
   unfold Br;refine List.mem_flatMap.2 ⟨q,List.mem_range.2 (by omega),?_⟩;rw[if_pos hq2];exact List.mem_singleton.2 rfl
  rw[h] at this;cases this
theorem KY(zs:List Int)(H:Nat->Ht)(ps:List P3):Ac zs H (AW H ps) (Bo H ps)=[]↔B8 (Fg zs H (AW H ps) (Bo H ps))=[]:=by
 unfold Ac B8;rw[List.map_eq_nil_iff,List.map_eq_nil_iff];constructor
 ·intro h;have hm:∀p,Fg zs H (AW H ps) (Bo H ps) p=false:=by
   intro p;unfold Fg;rw[List.any_eq_false];intro e he;cases hb:GW zs H (AW H ps) e
   ·simp
   ·have:e∈(Bo H ps).filter (GW zs H (AW H ps)):=List.mem_filter.2 ⟨he,hb⟩;rw[h] at this;cases this
  unfold Br;rw[List.flatMap_eq_nil_iff];intro p hp;unfold CO;rw[hm p];simp
 ·intro h;rw[List.filter_eq_nil_iff];intro e he hb;obtain⟨page,lv,hp,h1,h3,_,e1,e2,_⟩:=JK he;have:=Uz h page hp;unfold Fg at this;rw[List.any_eq_false] at this;have h4:=this e he;have hc:=Cx lv;have hc2:=Hu lv;rw[hb,e1,e2,hc] at h4;simp at h4;omega
theorem VX(zs:List Int)(n:Nat)(H:Nat->Ht)(ps:List P3):Ao zs n H ps = (if (Ac zs H (AW H ps) (Bo H ps)).isEmpty then [] else ((Ac zs H (AW H ps) (Bo H ps)++[DH])++B8 (Fg zs H (AW H ps) (Bo H ps)))++[DH])++(As n (Cm H ps)++(BU (AU H (AW H ps) (Cd H ps))++BU (Ai zs H (AW H ps) (Bo H ps)))):=by
 unfold Ao;by_cases h:Ac zs H (AW H ps) (Bo H ps)=[]
 ·rw[(KY zs H ps).1 h,h];simp[JP]
 ·have h2:B8 (Fg zs H (AW H ps) (Bo H ps))≠[]:=fun e=>h ((KY zs H ps).2 e)
  rw[EG h,EG h2,if_neg (by rw[List.isEmpty_iff];exact h)];simp
def Of (zs:List Int) (o:BP):List Int:=if o.kind=1 then zs.set o.a.toNat o.word else zs
def D8 (zs:List Int) (l:List BP):List Int:=l.foldl Of zs
theorem SC(zs:List Int)(o:BP):(Of zs o).length=zs.length:=by unfold Of;split<;>simp
theorem DB(l:List BP):∀zs:List Int,(D8 zs l).length=zs.length:=by
 induction l with
 | nil=>intro zs;rfl
 | cons o r ih =>
  intro zs;show (D8 (Of zs o) r).length=zs.length;rw[ih,SC]
theorem Tz(zs:List Int)(l:List BP)(i:Nat)(hi:i<l.length):D8 zs (l.take (i+1))=Of (D8 zs (l.take i)) (AQ BW l i):=by
 unfold D8;rw[D6 BW l i hi,List.foldl_append];rfl
def KN (xs:List Int) (e:Int):List Int:=if DL xs e then xs else FI xs (C6 xs e) e
def MU (xs:List Int) (e:Int):List Int:=if DL xs e then FU xs (C6 xs e) else xs
theorem Gn{x:Int}{r:List Int}{e:Int}(h:x<e):C6 (x :: r) e=C6 r e+1:=by
 unfold C6;rw[List.countP_cons_of_pos (by exact decide_eq_true h)]
theorem Gx{x:Int}{r:List Int}{e:Int}(hr:CK (x :: r))(h:¬x<e):C6 (x :: r) e=0:=by
 unfold C6;rw[List.countP_eq_zero];intro y hy;rcases List.mem_cons.1 hy with rfl|hy
 ·simpa using h
 ·have:=(List.pairwise_cons.1 hr).1 y hy;simp only[decide_eq_true_eq];omega
theorem Fo{e:Int}:∀{xs:List Int},CK xs->(DL xs e=true↔e∈xs)
 | [],_=>by simp[DL]
 | x :: r,hr=>by
  obtain⟨h1,h2⟩:=List.pairwise_cons.1 hr;unfold DL;rw[decide_eq_true_eq];by_cases h:x<e
  ·have ih:=Fo (e:=e) h2;unfold DL at ih;rw[decide_eq_true_eq] at ih;rw[Gn h,List.mem_cons,List.length_cons];have e1:AQ Ae (x :: r) (C6 r e+1)=AQ Ae r (C6 r e):=rfl;rw[e1];constructor
   ·rintro⟨a,b⟩;exact .inr (ih.1 ⟨by omega,b⟩)
   ·rintro(rfl|hm)
    ·omega
    ·have:=ih.2 hm;exact⟨by omega,this.2⟩
  ·rw[Gx hr h];have e1:AQ Ae (x :: r) 0=x:=rfl;rw[e1,List.mem_cons,List.length_cons];constructor
   ·rintro⟨_,b⟩;exact .inl b.symm
   ·rintro(rfl|hm)
    ·exact⟨by omega,rfl⟩
    ·have:=h1 e hm;omega
theorem RX(xs:List Int)(i:Nat)(e x:Int):x∈FI xs i e↔x=e\/x∈xs:=by
 unfold FI;rw[List.mem_append,List.mem_cons];have:x∈xs↔x∈xs.take i\/x∈xs.drop i:=by
  rw[<- List.mem_append,List.take_append_drop]
 rw[this];constructor
 ·rintro(a|a|a)
  ·exact .inr (.inl a)
  ·exact .inl a
  ·exact .inr (.inr a)
 ·rintro(a|a|a)
  ·exact .inr (.inl a)
  ·exact .inl a
  ·exact .inr (.inr a)
theorem Le{e:Int}:∀{xs:List Int},CK xs->e ∉ xs->CK (FI xs (C6 xs e) e)
 | [],_,_=>List.pairwise_singleton _ _
 | x :: r,hr,hm=>by
  obtain⟨h1,h2⟩:=List.pairwise_cons.1 hr;by_cases h:x<e
  ·rw[Gn h];have e1:FI (x :: r) (C6 r e+1) e=x :: FI r (C6 r e) e:=rfl;rw[e1];refine List.pairwise_cons.2 ⟨fun y hy=>?_,Le h2 (fun hh=>hm (List.mem_cons_of_mem _ hh))⟩;rcases(RX _ _ _ _).1 hy with rfl|hy
   ·exact h
   ·exact h1 y hy
  ·rw[Gx hr h];have e1:FI (x :: r) 0 e=e :: x :: r:=rfl;(have hne:¬e=x:=fun hh=>hm (by rw[hh];exact List.mem_cons_self ..));rw[e1];refine List.pairwise_cons.2 ⟨fun y hy=>?_,hr⟩;rcases List.mem_cons.1 hy with rfl|hy
   ·omega
   ·have:=h1 y hy;omega
theorem NZ{xs:List Int}(h:CK xs)(e x:Int):x∈KN xs e↔x=e\/x∈xs:=by
 unfold KN;split
 ·rename_i hf;have:=(Fo h).1 hf;exact⟨fun a=>.inr a,fun a=>a.elim (fun ee=>by rw[ee];exact this) id⟩
 ·exact RX _ _ _ _
theorem IV{xs:List Int}(h:CK xs)(e:Int):CK (KN xs e):=by
 unfold KN;split
 ·exact h
 ·rename_i hf;exact Le h (fun hm=>hf ((Fo h).2 hm))
theorem Rq{e x:Int}:∀{xs:List Int},CK xs->e∈xs->(x∈FU xs (C6 xs e)↔x∈xs/\x≠e)
 | [],_,hm=>by cases hm
 | y :: r,hr,hm=>by
  obtain⟨h1,h2⟩:=List.pairwise_cons.1 hr;by_cases h:y<e
  ·have hm':e∈r:=by
    rcases List.mem_cons.1 hm with rfl|hm
    ·omega
    ·exact hm
   rw[Gn h];have e1:FU (y :: r) (C6 r e+1)=y :: FU r (C6 r e):=rfl;rw[e1,List.mem_cons,List.mem_cons,Rq h2 hm'];constructor
   ·rintro(rfl|⟨a,b⟩)
    ·exact⟨.inl rfl,by omega⟩
    ·exact⟨.inr a,b⟩
   ·rintro⟨rfl|a,b⟩
    ·exact .inl rfl
    ·exact .inr ⟨a,b⟩
  ·have hy:e=y:=by
    rcases List.mem_cons.1 hm with a|a
    ·exact a
    ·have:=h1 e a;omega
   rw[Gx hr h];have e1:FU (y :: r) 0=r:=rfl;rw[e1,List.mem_cons];constructor
   ·intro a;have:=h1 x a;exact⟨.inr a,by omega⟩
   ·rintro⟨a|a,b⟩
    ·exact absurd (a.trans hy.symm) b
    ·exact a
theorem XN(xs:List Int)(i:Nat):(FU xs i).Sublist xs:=by
 unfold FU;have h:(xs.take i++xs.drop (i+1)).Sublist (xs.take i++xs.drop i):=by
  refine List.Sublist.append (List.Sublist.refl _) ?_;rw[<- List.drop_drop];exact List.drop_sublist _ _
 rwa [List.take_append_drop] at h
theorem XJ{xs:List Int}(h:CK xs)(e x:Int):x∈MU xs e↔x∈xs/\x≠e:=by
 unfold MU;split
 ·rename_i hf;exact Rq h ((Fo h).1 hf)
 ·rename_i hf;have:e ∉ xs:=fun hm=>hf ((Fo h).2 hm)
  exact⟨fun a=>⟨a,fun hh=>this (by rw[<- hh];exact a)⟩,fun a=>a.1⟩
theorem RI{xs:List Int}(h:CK xs)(e:Int):CK (MU xs e):=by
 unfold MU;split
 ·exact List.Pairwise.sublist (XN _ _) h
 ·exact h
theorem EO:∀{xs ys:List Int},CK xs->CK ys->(∀x,x∈xs↔x∈ys)->xs=ys
 | [],[],_,_,_=>rfl
 | [],y :: r,_,_,h=>by
  have:=(h y).2 (List.mem_cons_self ..);cases this
 | x :: r,[],_,_,h=>by
  have:=(h x).1 (List.mem_cons_self ..);cases this
 | x :: r,y :: s,hx,hy,h=>by
  obtain⟨a1,a2⟩:=List.pairwise_cons.1 hx;obtain⟨b1,b2⟩:=List.pairwise_cons.1 hy;have e:x=y:=by
   have h1:=(h x).1 (List.mem_cons_self ..);have h2:=(h y).2 (List.mem_cons_self ..);rcases List.mem_cons.1 h1 with e|m1
   ·exact e
   ·rcases List.mem_cons.1 h2 with e|m2
    ·exact e.symm
    ·have:=a1 y m2;have:=b1 x m1;omega
  subst e
  have:r=s:=EO a2 b2 (fun z=>by
   constructor
   ·intro m
    rcases List.mem_cons.1 ((h z).1 (List.mem_cons_of_mem _ m)) with e|m'
    ·have:=a1 z m;omega
    ·exact m'
   ·intro m
    rcases List.mem_cons.1 ((h z).2 (List.mem_cons_of_mem _ m)) with e|m'
    ·have:=b1 z m;omega
    ·exact m')
  rw[this]
def C4 (p:Nat->Bool) (n:Nat):List Int:=((List.range n).filter p).map (fun k=>((k:Nat):Int))
theorem Df(p:Nat->Bool)(n:Nat):CK (C4 p n):=by
 unfold C4 CK;rw[List.pairwise_map];exact(List.pairwise_lt_range.filter p).imp (fun h=>by omega)
theorem Ge(p:Nat->Bool)(n:Nat)(x:Int):x∈C4 p n↔∃k:Nat,k<n/\p k=true/\x=k:=by
 unfold C4;rw[List.mem_map];constructor
 ·rintro⟨k,h,rfl⟩;rw[List.mem_filter,List.mem_range] at h;exact⟨k,h.1,h.2,rfl⟩
 ·rintro⟨k,h1,h2,rfl⟩;exact⟨k,List.mem_filter.2 ⟨List.mem_range.2 h1,h2⟩,rfl⟩
def DF (qs:List P3) (n:Nat):List Int:=C4 (fun f=>!BA qs (f:Nat)) n
section
attribute [local go_sem ↓] wp_at_zero wp_at_succ
structure BF (S:Nat->Prop) (w w':World):Prop where
 os:w'.os=w.os
 tape:w'.tape=w.tape
 output:w'.output=w.output
 size:w.heap.size<=w'.heap.size
 block:∀k,k<w.heap.size->¬S k->w'.heap[k]?=w.heap[k]?
theorem BF.refl{S:Nat->Prop}(w:World):BF S w w:=⟨rfl,rfl,rfl,Nat.le_refl _,fun _ _ _=>rfl⟩
theorem BF.of_below{S:Nat->Prop}{a b:World}(h:Bl a b):BF S a b:=⟨h.os,h.tape,h.output,h.size,fun i hi _=>h.block i hi⟩
theorem BF.of_grown{S:Nat->Prop}{a b:World}{row:Option Nat}(h:a.grownBy b row)(hS:∀k,row=some k->S k):BF S a b :=
 ⟨h.os,h.tape,h.output,h.size,fun i hi hn=>h.block i hi (fun e=>hn (hS i e.symm))⟩
theorem BF.then{S S':Nat->Prop}{a b c:World}(h:BF S a b)(k:BF S' b c)(hS:∀k,k<a.heap.size->S' k->S k):BF S a c :=
 ⟨k.os.trans h.os,k.tape.trans h.tape,k.output.trans h.output,Nat.le_trans h.size k.size,fun i hi hn=>(k.block i (Nat.lt_of_lt_of_le hi h.size) (fun e=>hn (hS i hi e))).trans (h.block i hi hn)⟩
theorem BF.set{S:Nat->Prop}{a b:World}(h:BF S a b)(p:Addr)(v:Value)(hp:S p.block):BF S a (b.setCell p v) :=
 ⟨h.os,h.tape,h.output,by simpa using h.size,fun k hk hn=>(Below.heap_setCell _ _ _ _ (fun e=>hn (by rw[e];exact hp))).trans (h.block k hk hn)⟩
theorem BF.below{S:Nat->Prop}{a b:World}(h:BF S a b)(hS:∀k,k<a.heap.size->¬S k):Bl a b :=
 ⟨h.os,h.tape,h.output,h.size,fun k hk=>h.block k hk (hS k hk)⟩
theorem BF.cell{S:Nat->Prop}{a b:World}(h:BF S a b){p:Addr}(hp:p.block<a.heap.size)(hn:¬S p.block):b.cell? p=a.cell? p:=by
 unfold World.cell?;rw[h.block _ hp hn]
theorem BF.frozen{S:Nat->Prop}{a b:World}(h:BF S a b){p:Addr}(hp:p.block<a.heap.size)(hn:¬S p.block):b.frozen? p=a.frozen? p:=by
 unfold World.frozen?;rw[h.block _ hp hn]
theorem A8.tch{α:Type}{E:Dw α}{w w':World}{base:Nat}{a:Option Addr}{n c:Nat}{xs:List α}{S:Nat->Prop}(h:A8 E w base (.slice a n c) xs)(hg:BF S w w')(hne:∀k,oB a=some k->¬S k):A8 E w' base (.slice a n c) xs:=by
 have hk:=h.own;refine⟨h.1,?_⟩;rcases h.2 with hh|⟨g,cap,cur,e,hb,hg',r⟩
 ·exact .inl hh
 ·refine .inr ⟨g,cap,cur,e,hb,?_,r⟩;have ho:(Value.slice a n c).ownBlock=some g:=by rw[e];rfl
  rw[hg.block g (hk g ho).2 (hne g (by rw[<- Cc a n c];exact ho))];exact hg'
structure Bw (w:World) (P k B:Nat) (a:Option Addr) (c:Nat) (xs:List Int):Prop where
 lt:P<w.heap.size
 cell:w.cell? ⟨P,k,none⟩=some (.slice a xs.length c)
 fz:w.frozen? ⟨P,k,none⟩=false
 row:A8 Ae w B (.slice a xs.length c) xs
 off:oB a≠some P
 base:B<=w.heap.size
theorem Bw.tch{w w':World}{P k B c:Nat}{a:Option Addr}{xs:List Int}{S:Nat->Prop}(h:Bw w P k B a c xs)(hg:BF S w w')(hP:¬S P)(hne:∀k,oB a=some k->¬S k):Bw w' P k B a c xs :=
 ⟨Nat.lt_of_lt_of_le h.lt hg.size,(hg.cell (p:=⟨P,k,none⟩) h.lt hP).trans h.cell,(hg.frozen (p:=⟨P,k,none⟩) h.lt hP).trans h.fz,h.row.tch hg hne,h.off,Nat.le_trans h.base hg.size⟩
structure Bi (w w':World) (P k B:Nat) (a a':Option Addr) (c':Nat) (ys:List Int):Prop where
 set:Bw w' P k B a' c' ys
 tch:BF (fun j=>j=P\/oB a=some j) w w'
 oth:∀i,i≠k->w'.cell? ⟨P,i,none⟩=w.cell? ⟨P,i,none⟩
 ofz:∀i,w'.frozen? ⟨P,i,none⟩=w.frozen? ⟨P,i,none⟩
 own:oB a'=oB a\/∃j,oB a'=some j/\w.heap.size<=j
theorem Bi.same{w w':World}{P k B c:Nat}{a:Option Addr}{xs:List Int}(h:Bw w P k B a c xs)(hb:Bl w w'):Bi w w' P k B a a c xs :=
 ⟨h.tch (BF.of_below (S:=fun _=>False) hb) (fun f=>f) (fun _ _ f=>f),BF.of_below hb,fun i _=>hb.cell (p:=⟨P,i,none⟩) h.lt,fun i=>by unfold World.frozen?;rw[hb.block P h.lt],.inl rfl⟩
theorem Bi.put{w wa w1:World}{P k B c c':Nat}{a a':Option Addr}{xs ys:List Int}(h:Bw w P k B a c xs)(hb:Bl w wa)(hr:A8 Ae w1 B (.slice a' ys.length c') ys)(hg:wa.grownBy w1 (oB a))(ho:oB a'=oB a\/∃j,oB a'=some j/\w.heap.size<=j):Bi w (w1.setCell ⟨P,k,none⟩ (.slice a' ys.length c')) P k B a a' c' ys:=by
 have hP:oB a≠some P:=h.off;have hPa:P<wa.heap.size:=Nat.lt_of_lt_of_le h.lt hb.size;have hblk:w1.heap[P]?=w.heap[P]?:=(hg.block P hPa (fun e=>hP e.symm)).trans (hb.block P h.lt);have hP1:P<w1.heap.size:=Nat.lt_of_lt_of_le hPa hg.size;have hc1:∀i,w1.cell? ⟨P,i,none⟩=w.cell? ⟨P,i,none⟩:=fun i=>by unfold World.cell?;rw[hblk]
 have hf1:∀i,w1.frozen? ⟨P,i,none⟩=w.frozen? ⟨P,i,none⟩:=fun i=>by unfold World.frozen?;rw[hblk]
 have hT:BF (fun j=>j=P\/oB a=some j) w w1:=⟨hg.os.trans hb.os,hg.tape.trans hb.tape,hg.output.trans hb.output,Nat.le_trans hb.size hg.size,fun i hi hn=>(hg.block i (Nat.lt_of_lt_of_le hi hb.size) (fun e=>hn (.inr e.symm))).trans (hb.block i hi)⟩;have hoP:oB a'≠some P:=by
  rcases ho with e|⟨j,e,hj⟩
  ·rw[e];exact hP
  ·rw[e];intro e2;simp only[Option.some.injEq] at e2;have:=h.lt;omega
 refine⟨⟨by simpa using hP1,?_,by simp[hf1,h.fz],hr.tch (S:=fun j=>j=P) ⟨rfl,rfl,rfl,by simp,fun i hi hn=>Below.heap_setCell _ _ _ _ (fun e=>hn e)⟩ (fun j e e2=>hoP (by rw[e,e2])),hoP,by have:=h.base;have:=hb.size;have:=hg.size;simp;omega⟩,hT.set _ _ (.inl rfl),fun i hi=>?_,fun i=>by simp[hf1],ho⟩
 ·exact World.cell?_setCell_same _ _ _ (by rw[hc1,h.cell])
 ·rw[<- hc1];exact World.cell?_setCell_other _ _ _ _ (fun e=>hi (by simp only[Addr.mk.injEq,true_and,and_true] at e;exact e.symm))
theorem O4(P k B c:Nat)(a:Option Addr)(xs:List Int)(e0:Int)(w:World)(hs:CK xs)(hn:xs.length<=100000)(h:Bw w P k B a c xs):Calls prog 142 #[.pointer (some ⟨P,k,none⟩),.int .i64 e0] w fun r w'=>r=.returned (.tuple #[])/\∃a' c',Bi w w' P k B a a' c' (KN xs e0):=by
 have hb:=KL a c B xs e0 w hn hs h.row;have c0:=h.cell;have hlt:=h.lt;have f0:=h.fz;have HS:=A5 h;cases hf:DL xs e0<;>rw[hf] at hb
 ·have HL:Hid (KN xs e0=FI xs (C6 xs e0) e0):=A9 <| by unfold KN;rw[hf];rfl
  clear hs h hf;go_enter func142,ntmps142
  go_wp2_with fail
  refine hb.mono ?_;rintro e w1 ⟨rfl,hb1,hp⟩;have hins:∀w2,Bl w w2->Calls prog 182 #[.slice a xs.length c,.int .i64 (C6 xs e0:Nat),.slice (some ⟨w2.heap.size,0,none⟩) 1 1] (w2.alloc (.cells #[.int .i64 e0] 3)) fun r w'=>∃a' c',r=.returned (.slice a' (FI xs (C6 xs e0) e0).length c')/\A8 Ae w' B (.slice a' (FI xs (C6 xs e0) e0).length c') (FI xs (C6 xs e0) e0)/\(w2.alloc (.cells #[.int .i64 e0] 3)).grownBy w' (oB a)/\(oB a'=oB a\/oB a'=some (w2.heap.size+1)):=fun w2 hb2=>by
   have hr:=HS.out.row.below (hb2.trans (AO (w:=w2) (o:=.cells #[.int .i64 e0] 3) |>.mono hb2.size));have ho:oB a≠some w2.heap.size:=fun ee=>by
    have:=(HS.out.row.own _ (by rw[Cc];exact ee)).2;have:=hb2.size;omega
   have h1:=XI a c B (C6 xs e0) w2.heap.size xs e0 (w2.alloc (.cells #[.int .i64 e0] 3)) hp (by have:=HS.out.base;have:=hb2.size;simp;omega) hn ho (heap_alloc_new w2 _) hr;refine h1.mono ?_;rintro r w' ⟨a',c',e1,e2,e3,e4⟩;exact⟨a',c',e1,e2,e3,by simpa using e4⟩
  have hi:=hins w1 hb1;have c1:=(hb1.cell (p:=⟨P,k,none⟩) hlt).trans c0;have lt1:P<w1.heap.size:=Nat.lt_of_lt_of_le hlt hb1.size;have HB:=A5 hb1;have HF:Hid (w1.frozen? ⟨P,k,none⟩=false):=A9 <| by unfold World.frozen? at f0 ⊢;rw[hb1.block P hlt];exact f0
  generalize FI xs (C6 xs e0) e0=YS at hi HL;clear hins hb1 hb c0 f0;go_wp2_with fail
  refine hi.mono ?_;rintro e w2 ⟨a',c',rfl,hr2,hg2,ho2⟩;have hba:Bl w (w1.alloc (.cells #[.int .i64 e0] 3)):=Ab HB.out AO;have hblk:w2.heap[P]?=w1.heap[P]?:=(hg2.block P (by simp;omega) (fun ee=>HS.out.off ee.symm)).trans (Below.heap_alloc w1 _ _ lt1);have c2:w2.cell? ⟨P,k,none⟩=some (.slice a xs.length c):=by unfold World.cell? at c1 ⊢;rw[hblk];exact c1
  have f2:w2.frozen? ⟨P,k,none⟩=false:=by have:=HF.out;unfold World.frozen? at this ⊢;rw[hblk];exact this
  have HST:Hid (Bi w (w2.setCell ⟨P,k,none⟩ (.slice a' YS.length c')) P k B a a' c' YS):=Bi.put HS.out hba hr2 hg2 (ho2.imp id (fun ee=>⟨_,ee,by have:=HB.out.size;omega⟩));clear hba hblk hi hr2 hg2 ho2 c1;go_wp2_with fail
  refine bodyPost_end (v:=.tuple #[]) (by simp[results,results142,go_sem]) rfl ?_;exact⟨rfl,a',c',by rw[HL.out];exact HST.out⟩
 ·have HL:Hid (KN xs e0=xs):=A9 <| by unfold KN;rw[hf];rfl
  clear hs h hf;go_enter func142,ntmps142
  go_wp2_with fail
  refine hb.mono ?_;rintro e w1 ⟨rfl,hb1,hp⟩;clear hb;go_wp2_with fail
  refine bodyPost_end (v:=.tuple #[]) (by simp[results,results142,go_sem]) rfl ?_;exact⟨rfl,a,c,by rw[HL.out];exact Bi.same HS.out hb1⟩
theorem Qq(P k B c:Nat)(a:Option Addr)(xs:List Int)(e0:Int)(w:World)(hs:CK xs)(hn:xs.length<=100000)(h:Bw w P k B a c xs):Calls prog 144 #[.pointer (some ⟨P,k,none⟩),.int .i64 e0] w fun r w'=>r=.returned (.tuple #[])/\∃a' c',Bi w w' P k B a a' c' (MU xs e0):=by
 have hb:=KL a c B xs e0 w hn hs h.row;have c0:=h.cell;have hlt:=h.lt;have f0:=h.fz;have HS:=A5 h;cases hf:DL xs e0<;>rw[hf] at hb
 ·have HL:Hid (MU xs e0=xs):=A9 <| by unfold MU;rw[hf];rfl
  clear hs h hf;go_enter func144,ntmps144
  go_wp2_with fail
  refine hb.mono ?_;rintro e w1 ⟨rfl,hb1,hp⟩;clear hb;go_wp2_with fail
  refine bodyPost_end (v:=.tuple #[]) (by simp[results,results144,go_sem]) rfl ?_;exact⟨rfl,a,c,by rw[HL.out];exact Bi.same HS.out hb1⟩
 ·have HL:Hid (MU xs e0=FU xs (C6 xs e0)):=A9 <| by unfold MU;rw[hf];rfl
  have hp0:C6 xs e0<xs.length:=by
   unfold DL at hf;exact(of_decide_eq_true hf).1
  clear hs h hf;go_enter func144,ntmps144
  go_wp2_with fail
  refine hb.mono ?_;rintro e w1 ⟨rfl,hb1,hp⟩;have hi:=WT a c B (C6 xs e0) xs w1 hp0 (HS.out.row.below hb1);have c1:=(hb1.cell (p:=⟨P,k,none⟩) hlt).trans c0;have lt1:P<w1.heap.size:=Nat.lt_of_lt_of_le hlt hb1.size;have HB:=A5 hb1;have HF:Hid (w1.frozen? ⟨P,k,none⟩=false):=A9 <| by unfold World.frozen? at f0 ⊢;rw[hb1.block P hlt];exact f0
  generalize FU xs (C6 xs e0)=YS at hi HL;clear hb1 hb c0 f0;go_wp2_with fail
  refine hi.mono ?_;rintro e w2 ⟨rfl,hr2,hg2⟩;have hblk:w2.heap[P]?=w1.heap[P]?:=hg2.block P lt1 (fun ee=>HS.out.off ee.symm);have c2:w2.cell? ⟨P,k,none⟩=some (.slice a xs.length c):=by unfold World.cell? at c1 ⊢;rw[hblk];exact c1
  have f2:w2.frozen? ⟨P,k,none⟩=false:=by have:=HF.out;unfold World.frozen? at this ⊢;rw[hblk];exact this
  have HST:Hid (Bi w (w2.setCell ⟨P,k,none⟩ (.slice a YS.length c)) P k B a a c YS):=Bi.put HS.out HB.out hr2 hg2 (.inl rfl);clear hblk hi hr2 hg2 c1;go_wp2_with fail
  refine bodyPost_end (v:=.tuple #[]) (by simp[results,results144,go_sem]) rfl ?_;exact⟨rfl,a,c,by rw[HL.out];exact HST.out⟩
theorem Sd(P k g o c n:Nat)(x:Int)(w:World)(hlt:P<w.heap.size)(hg:g<w.heap.size)(c0:w.cell? ⟨P,k,none⟩=some (.slice (some ⟨g,o,none⟩) (n+1) c))(f0:w.frozen? ⟨P,k,none⟩=false)(x0:w.cell? ⟨g,o,none⟩=some (.int .i64 x))(hc:n+1<=c):Calls prog 145 #[.pointer (some ⟨P,k,none⟩)] w fun r w'=>r=.returned (.int .i64 x)/\∃A,(0<n->A=some ⟨g,o+1,none⟩)/\w'=w.setCell ⟨P,k,none⟩ (.slice A n (c-1)):=by
 obtain⟨AD,hAD⟩:∃AD:Addr,(if c=1 then some (⟨g,o,none⟩:Addr) else some ⟨g,o+1,none⟩)=some AD:=by
  by_cases h:c=1
  ·exact⟨_,if_pos h⟩
  ·exact⟨_,if_neg h⟩
 have HD:Hid (0<n->some AD=some (⟨g,o+1,none⟩:Addr)):=fun hn=>by rw[<- hAD,if_neg (by omega)]
 have L1:(0:Int)<(n:Int)+1:=by omega
 have L2:(1:Int)<=(n:Int)+1:=by omega
 go_enter func145,ntmps145
 go_wp2_with fail
 go_ret;exact⟨rfl,some AD,HD.out,rfl⟩
end
end Go.Proofs.YtnmhkgmmpkjjeaaGreat
