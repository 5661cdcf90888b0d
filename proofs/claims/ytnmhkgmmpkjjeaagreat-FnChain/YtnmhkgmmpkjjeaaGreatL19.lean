import Derived.Test.YtnmhkgmmpkjjeaaGreatL16
import Derived.Test.YtnmhkgmmpkjjeaaGreatL18
namespace Go.Proofs.YtnmhkgmmpkjjeaaGreat
set_option linter.unusedVariables false
open Go.ChangeShapes Go.WideShapes Go.ChangeAt Go.RowKit
def Bv (H:Nat->Ht) (all:List P3) (lv pg:Int):Int :=
 if lv=3 then (if (H pg.toNat).k=1 then BZ 3 3 (H pg.toNat).o (H pg.toNat).p else 0)
 else if lv=2/\(H pg.toNat).s=16 then BZ 2 2 (H pg.toNat).o (H pg.toNat).p
 else if AH all (lv+1) pg<0 then 0 else BZ lv 1 (AH all (lv+1) pg) 0
def IV (zs:List Int) (ad:Int):Int:=zs.getD ad.toNat 0
def JT (zs:List Int) (H:Nat->Ht) (all:List P3) (e:En):Bool:=decide (IV zs e.ad%2=1/\¬IV zs e.ad=Bv H all e.lv e.pg)
def SH (zs:List Int) (H:Nat->Ht) (all:List P3) (e:En):Bool:=decide (¬Bv H all e.lv e.pg=0/\¬Bv H all e.lv e.pg=IV zs e.ad)
def FD (zs:List Int) (H:Nat->Ht) (all:List P3) (es:List En) (p:Nat):Bool:=es.any fun e=>JT zs H all e&&decide (e.pg<=p/\(p:Int)<e.pg+Bj e.lv)
def Ci:Ay:=⟨2,0,0,0⟩
def BB (l:List Ay):List Ay:=if l.isEmpty then [] else l++[Ci]
def AR (zs:List Int) (H:Nat->Ht) (all:List P3) (es:List En):List Ay:=(es.filter (JT zs H all)).map fun e=>⟨1,e.ad,0,0⟩
def Av (mk:Nat->Bool):List Ay:=(BV mk 4096 4096).map fun r=>⟨3,r.1,r.2,0⟩
def Ah (n:Nat) (gone:List P3):List Ay:=((List.range n).filter (fun f=>Aw gone (f:Nat))).map fun f=>⟨4,(f:Nat),0,0⟩
def Al (H:Nat->Ht) (all:List P3) (t:P3) (k:Nat):List Ay:=(List.range k).map fun i=>⟨1,t.fr*16+(i:Nat),0,Bv H all t.lv (t.pg+(i:Nat)*Bj t.lv)⟩
def AK (H:Nat->Ht) (all fresh:List P3):List Ay:=fresh.flatMap fun t=>Al H all t 16
def AZ (zs:List Int) (H:Nat->Ht) (all:List P3) (es:List En):List Ay:=(es.filter (SH zs H all)).map fun e=>⟨1,e.ad,0,Bv H all e.lv e.pg⟩
def CM (H:Nat->Ht) (ps:List P3):List P3:=BJ (AC H ps) (AA H 256) (AA H 256).length
def AY (H:Nat->Ht) (ps:List P3):List P3:=AC H ps++CM H ps
def Bk (H:Nat->Ht) (ps:List P3):List En:=BW (AC H ps) 4096
def AO (zs:List Int) (n:Nat) (H:Nat->Ht) (ps:List P3):List Ay :=
 BB (AR zs H (AY H ps) (Bk H ps))++(BB (Av (FD zs H (AY H ps) (Bk H ps)))++(Ah n (CH H ps)++(BB (AK H (AY H ps) (CM H ps))++BB (AZ zs H (AY H ps) (Bk H ps)))))
theorem Ig:BB []=[]:=rfl
theorem Dq {l:List Ay} (h:l≠[]):BB l=l++[Ci]:=by
 unfold BB;rw[if_neg (by rw[List.isEmpty_iff];exact h)]
theorem IJ {kept:List P3} {n:Nat} {e:En} (h:e∈BW kept n):∃page lv:Nat,page<n/\1<=lv/\lv<=3/\page%Aq lv=0/\e.lv=lv/\e.pg=page/\0<=AH kept lv (page-page%(Aq lv*16):Nat)/\e.ad=AH kept lv (page-page%(Aq lv*16):Nat)*16+(page/Aq lv%16:Nat):=by
 unfold BW at h;obtain⟨page,hp,h⟩:=List.mem_flatMap.1 h;have hp':=List.mem_range.1 hp;unfold LU at h;have one:∀lv:Nat,1<=lv->lv<=3->e∈EK kept page lv->∃page lv:Nat,page<n/\1<=lv/\lv<=3/\page%Aq lv=0/\e.lv=lv/\e.pg=page/\0<=AH kept lv (page-page%(Aq lv*16):Nat)/\e.ad=AH kept lv (page-page%(Aq lv*16):Nat)*16+(page/Aq lv%16:Nat):=by
  intro lv h1 h3 hm;unfold EK at hm;split at hm
  ·rename_i hh;rw[List.mem_singleton] at hm;subst hm;exact⟨page,lv,hp',h1,h3,hh.1,rfl,rfl,hh.2,rfl⟩
  ·cases hm
 rcases List.mem_append.1 h with h|h
 ·exact one 1 (by decide) (by decide) h
 ·rcases List.mem_append.1 h with h|h
  ·exact one 2 (by decide) (by decide) h
  ·exact one 3 (by decide) (by decide) h
theorem CT (lv:Nat):Bj lv=Aq lv:=by
 unfold Bj Aq;by_cases h1:lv=1
 ·subst h1;rfl
 ·by_cases h2:lv=2
  ·subst h2;rfl
  ·rw[if_neg (by omega),if_neg (by omega),if_neg h1,if_neg h2];rfl
theorem GX (lv:Nat):1<=Aq lv:=by unfold Aq;split<;>(try split)<;>omega
theorem Sp {mk:Nat->Bool} {m:Nat} (h:BV mk m m=[]):∀p,p<m->mk p=false:=by
 intro p hp;cases hm:mk p
 ·rfl
 ·obtain⟨q,hq1,hq2,_⟩:=Hm mk p hm;have:(q,Ax mk m q)∈BV mk m m:=by
   unfold BV;refine List.mem_flatMap.2 ⟨q,List.mem_range.2 (by omega),?_⟩;rw[if_pos hq2];exact List.mem_singleton.2 rfl
  rw[h] at this;cases this
theorem Ma (zs:List Int) (H:Nat->Ht) (ps:List P3):AR zs H (AY H ps) (Bk H ps)=[]↔Av (FD zs H (AY H ps) (Bk H ps))=[]:=by
 unfold AR Av;rw[List.map_eq_nil_iff,List.map_eq_nil_iff];constructor
 ·intro h;have hm:∀p,FD zs H (AY H ps) (Bk H ps) p=false:=by
   intro p;unfold FD;rw[List.any_eq_false];intro e he;cases hb:JT zs H (AY H ps) e
   ·simp
   ·have:e∈(Bk H ps).filter (JT zs H (AY H ps)):=List.mem_filter.2 ⟨he,hb⟩;rw[h] at this;cases this
  unfold BV;rw[List.flatMap_eq_nil_iff];intro p hp;unfold Bs;rw[hm p];simp
 ·intro h;rw[List.filter_eq_nil_iff];intro e he hb;obtain⟨page,lv,hp,h1,h3,_,e1,e2,_⟩:=IJ he;have:=Sp h page hp;unfold FD at this;rw[List.any_eq_false] at this;have h4:=this e he;have hc:=CT lv;have hc2:=GX lv;rw[hb,e1,e2,hc] at h4;simp at h4;omega
theorem TL (zs:List Int) (n:Nat) (H:Nat->Ht) (ps:List P3):AO zs n H ps = (if (AR zs H (AY H ps) (Bk H ps)).isEmpty then [] else ((AR zs H (AY H ps) (Bk H ps)++[Ci])++Av (FD zs H (AY H ps) (Bk H ps)))++[Ci])++(Ah n (CH H ps)++(BB (AK H (AY H ps) (CM H ps))++BB (AZ zs H (AY H ps) (Bk H ps)))):=by
 unfold AO;by_cases h:AR zs H (AY H ps) (Bk H ps)=[]
 ·rw[(Ma zs H ps).1 h,h];simp[Ig]
 ·have h2:Av (FD zs H (AY H ps) (Bk H ps))≠[]:=fun e=>h ((Ma zs H ps).2 e)
  rw[Dq h,Dq h2,if_neg (by rw[List.isEmpty_iff];exact h)];simp
def LQ (zs:List Int) (o:Ay):List Int:=if o.kind=1 then zs.set o.a.toNat o.word else zs
def Bu (zs:List Int) (l:List Ay):List Int:=l.foldl LQ zs
theorem QG (zs:List Int) (o:Ay):(LQ zs o).length=zs.length:=by unfold LQ;split<;>simp
theorem CI (l:List Ay):∀zs:List Int,(Bu zs l).length=zs.length:=by
 induction l with
 | nil=>intro zs;rfl
 | cons o r ih =>
  intro zs;show (Bu (LQ zs o) r).length=zs.length;rw[ih,QG]
theorem Nc (zs:List Int) (l:List Ay) (i:Nat) (hi:i<l.length):Bu zs (l.take (i+1))=LQ (Bu zs (l.take i)) (AI Az l i):=by
 unfold Bu;rw[DD Az l i hi,List.foldl_append];rfl
def JN (xs:List Int) (e:Int):List Int:=if Co xs e then xs else El xs (Bc xs e) e
def L9 (xs:List Int) (e:Int):List Int:=if Co xs e then F3 xs (Bc xs e) else xs
theorem G8 {x:Int} {r:List Int} {e:Int} (h:x<e):Bc (x :: r) e=Bc r e+1:=by
 unfold Bc;rw[List.countP_cons_of_pos (by exact decide_eq_true h)]
theorem GE {x:Int} {r:List Int} {e:Int} (hr:Bo (x :: r)) (h:¬x<e):Bc (x :: r) e=0:=by
 unfold Bc;rw[List.countP_eq_zero];intro y hy;rcases List.mem_cons.1 hy with rfl|hy
 ·simpa using h
 ·have:=(List.pairwise_cons.1 hr).1 y hy;simp only[decide_eq_true_eq];omega
theorem FU {e:Int}:∀{xs:List Int},Bo xs->(Co xs e=true↔e∈xs)
 | [],_=>by simp[Co]
 | x :: r,hr=>by
  obtain⟨h1,h2⟩:=List.pairwise_cons.1 hr;unfold Co;rw[decide_eq_true_eq];by_cases h:x<e
  ·have ih:=FU (e:=e) h2;unfold Co at ih;rw[decide_eq_true_eq] at ih;rw[G8 h,List.mem_cons,List.length_cons];have e1:AI Ai (x :: r) (Bc r e+1)=AI Ai r (Bc r e):=rfl;rw[e1];constructor
   ·rintro⟨a,b⟩;exact .inr (ih.1 ⟨by omega,b⟩)
   ·rintro(rfl|hm)
    ·omega
    ·have:=ih.2 hm;exact⟨by omega,this.2⟩
  ·rw[GE hr h];have e1:AI Ai (x :: r) 0=x:=rfl;rw[e1,List.mem_cons,List.length_cons];constructor
   ·rintro⟨_,b⟩;exact .inl b.symm
   ·rintro(rfl|hm)
    ·exact⟨by omega,rfl⟩
    ·have:=h1 e hm;omega
theorem QL (xs:List Int) (i:Nat) (e x:Int):x∈El xs i e↔x=e\/x∈xs:=by
 unfold El;rw[List.mem_append,List.mem_cons];have:x∈xs↔x∈xs.take i\/x∈xs.drop i:=by
  rw[<- List.mem_append,List.take_append_drop]
 rw[this];constructor
 ·rintro(a|a|a)
  ·exact .inr (.inl a)
  ·exact .inl a
  ·exact .inr (.inr a)
 ·rintro(a|a|a)
  ·exact .inr (.inl a)
  ·exact .inl a
  ·exact .inr (.inr a)
theorem KF {e:Int}:∀{xs:List Int},Bo xs->e ∉ xs->Bo (El xs (Bc xs e) e)
 | [],_,_=>List.pairwise_singleton _ _
 | x :: r,hr,hm=>by
  obtain⟨h1,h2⟩:=List.pairwise_cons.1 hr;by_cases h:x<e
  ·rw[G8 h];have e1:El (x :: r) (Bc r e+1) e=x :: El r (Bc r e) e:=rfl;rw[e1];refine List.pairwise_cons.2 ⟨fun y hy=>?_,KF h2 (fun hh=>hm (List.mem_cons_of_mem _ hh))⟩;rcases(QL _ _ _ _).1 hy with rfl|hy
   ·exact h
   ·exact h1 y hy
  ·rw[GE hr h];have e1:El (x :: r) 0 e=e :: x :: r:=rfl;(have hne:¬e=x:=fun hh=>hm (by rw[hh];exact List.mem_cons_self ..));rw[e1];refine List.pairwise_cons.2 ⟨fun y hy=>?_,hr⟩;rcases List.mem_cons.1 hy with rfl|hy
   ·omega
   ·have:=h1 y hy;omega
theorem Mk {xs:List Int} (h:Bo xs) (e x:Int):x∈JN xs e↔x=e\/x∈xs:=by
 unfold JN;split
 ·rename_i hf;have:=(FU h).1 hf;exact⟨fun a=>.inr a,fun a=>a.elim (fun ee=>by rw[ee];exact this) id⟩
 ·exact QL _ _ _ _
theorem Hb {xs:List Int} (h:Bo xs) (e:Int):Bo (JN xs e):=by
 unfold JN;split
 ·exact h
 ·rename_i hf;exact KF h (fun hm=>hf ((FU h).2 hm))
theorem Qc {e x:Int}:∀{xs:List Int},Bo xs->e∈xs->(x∈F3 xs (Bc xs e)↔x∈xs/\x≠e)
 | [],_,hm=>by cases hm
 | y :: r,hr,hm=>by
  obtain⟨h1,h2⟩:=List.pairwise_cons.1 hr;by_cases h:y<e
  ·have hm':e∈r:=by
    rcases List.mem_cons.1 hm with rfl|hm
    ·omega
    ·exact hm
   rw[G8 h];have e1:F3 (y :: r) (Bc r e+1)=y :: F3 r (Bc r e):=rfl;rw[e1,List.mem_cons,List.mem_cons,Qc h2 hm'];constructor
   ·rintro(rfl|⟨a,b⟩)
    ·exact⟨.inl rfl,by omega⟩
    ·exact⟨.inr a,b⟩
   ·rintro⟨rfl|a,b⟩
    ·exact .inl rfl
    ·exact .inr ⟨a,b⟩
  ·have hy:e=y:=by
    rcases List.mem_cons.1 hm with a|a
    ·exact a
    ·have:=h1 e a;omega
   rw[GE hr h];have e1:F3 (y :: r) 0=r:=rfl;rw[e1,List.mem_cons];constructor
   ·intro a;have:=h1 x a;exact⟨.inr a,by omega⟩
   ·rintro⟨a|a,b⟩
    ·exact absurd (a.trans hy.symm) b
    ·exact a
theorem UU (xs:List Int) (i:Nat):(F3 xs i).Sublist xs:=by
 unfold F3;have h:(xs.take i++xs.drop (i+1)).Sublist (xs.take i++xs.drop i):=by
  refine List.Sublist.append (List.Sublist.refl _) ?_;rw[<- List.drop_drop];exact List.drop_sublist _ _
 rwa [List.take_append_drop] at h
theorem UJ {xs:List Int} (h:Bo xs) (e x:Int):x∈L9 xs e↔x∈xs/\x≠e:=by
 unfold L9;split
 ·rename_i hf;exact Qc h ((FU h).1 hf)
 ·rename_i hf;have:e ∉ xs:=fun hm=>hf ((FU h).2 hm)
  exact⟨fun a=>⟨a,fun hh=>this (by rw[<- hh];exact a)⟩,fun a=>a.1⟩
theorem Pc {xs:List Int} (h:Bo xs) (e:Int):Bo (L9 xs e):=by
 unfold L9;split
 ·exact List.Pairwise.sublist (UU _ _) h
 ·exact h
theorem Dl:∀{xs ys:List Int},Bo xs->Bo ys->(∀x,x∈xs↔x∈ys)->xs=ys
 | [],[],_,_,_=>rfl
 | [],y :: r,_,_,h=>by
  have:=(h y).2 (List.mem_cons_self ..);cases this
 | x :: r,[],_,_,h=>by
  have:=(h x).1 (List.mem_cons_self ..);cases this
 | x :: r,y :: s,hx,hy,h=>by
  obtain⟨a1,a2⟩:=List.pairwise_cons.1 hx;obtain⟨b1,b2⟩:=List.pairwise_cons.1 hy;have e:x=y:=by
   have h1:=(h x).1 (List.mem_cons_self ..);have h2:=(h y).2 (List.mem_cons_self ..);rcases List.mem_cons.1 h1 with e|m1
   ·exact e
   ·rcases List.mem_cons.1 h2 with e|m2
    ·exact e.symm
    ·have:=a1 y m2;have:=b1 x m1;omega
  subst e
  have:r=s:=Dl a2 b2 (fun z=>by
   constructor
   ·intro m
    rcases List.mem_cons.1 ((h z).1 (List.mem_cons_of_mem _ m)) with e|m'
    ·have:=a1 z m;omega
    ·exact m'
   ·intro m
    rcases List.mem_cons.1 ((h z).2 (List.mem_cons_of_mem _ m)) with e|m'
    ·have:=b1 z m;omega
    ·exact m')
  rw[this]
def BX (p:Nat->Bool) (n:Nat):List Int:=((List.range n).filter p).map (fun k=>((k:Nat):Int))
theorem DG (p:Nat->Bool) (n:Nat):Bo (BX p n):=by
 unfold BX Bo;rw[List.pairwise_map];exact(List.pairwise_lt_range.filter p).imp (fun h=>by omega)
theorem G3 (p:Nat->Bool) (n:Nat) (x:Int):x∈BX p n↔∃k:Nat,k<n/\p k=true/\x=k:=by
 unfold BX;rw[List.mem_map];constructor
 ·rintro⟨k,h,rfl⟩;rw[List.mem_filter,List.mem_range] at h;exact⟨k,h.1,h.2,rfl⟩
 ·rintro⟨k,h1,h2,rfl⟩;exact⟨k,List.mem_filter.2 ⟨List.mem_range.2 h1,h2⟩,rfl⟩
def CV (qs:List P3) (n:Nat):List Int:=BX (fun f=>!Aw qs (f:Nat)) n
end Go.Proofs.YtnmhkgmmpkjjeaaGreat
namespace Go.Proofs.YtnmhkgmmpkjjeaaGreat
open Go.ChangeShapes Go.WideShapes Go.ChangeAt Go.RowKit
set_option linter.unusedVariables false
set_option maxRecDepth 100000
attribute [local go_sem ↓] Go.wp_at_zero Go.wp_at_succ
structure Aj (S:Nat->Prop) (w w':World):Prop where
 os:w'.os=w.os
 tape:w'.tape=w.tape
 output:w'.output=w.output
 size:w.heap.size<=w'.heap.size
 block:∀k,k<w.heap.size->¬S k->w'.heap[k]?=w.heap[k]?
theorem Aj.refl {S:Nat->Prop} (w:World):Aj S w w:=⟨rfl,rfl,rfl,Nat.le_refl _,fun _ _ _=>rfl⟩
theorem Aj.of_below {S:Nat->Prop} {a b:World} (h:Below a.heap.size a b):Aj S a b:=⟨h.os,h.tape,h.output,h.size,fun i hi _=>h.block i hi⟩
theorem Aj.of_grown {S:Nat->Prop} {a b:World} {row:Option Nat} (h:a.grownBy b row) (hS:∀k,row=some k->S k):Aj S a b :=
 ⟨h.os,h.tape,h.output,h.size,fun i hi hn=>h.block i hi (fun e=>hn (hS i e.symm))⟩
theorem Aj.then {S S':Nat->Prop} {a b c:World} (h:Aj S a b) (k:Aj S' b c) (hS:∀k,k<a.heap.size->S' k->S k):Aj S a c :=
 ⟨k.os.trans h.os,k.tape.trans h.tape,k.output.trans h.output,Nat.le_trans h.size k.size,fun i hi hn=>(k.block i (Nat.lt_of_lt_of_le hi h.size) (fun e=>hn (hS i hi e))).trans (h.block i hi hn)⟩
theorem Aj.set {S:Nat->Prop} {a b:World} (h:Aj S a b) (p:Addr) (v:Value) (hp:S p.block):Aj S a (b.setCell p v) :=
 ⟨h.os,h.tape,h.output,by simpa using h.size,fun k hk hn=>(Below.heap_setCell _ _ _ _ (fun e=>hn (by rw[e];exact hp))).trans (h.block k hk hn)⟩
theorem Aj.below {S:Nat->Prop} {a b:World} (h:Aj S a b) (hS:∀k,k<a.heap.size->¬S k):Below a.heap.size a b :=
 ⟨h.os,h.tape,h.output,h.size,fun k hk=>h.block k hk (hS k hk)⟩
theorem Aj.cell {S:Nat->Prop} {a b:World} (h:Aj S a b) {p:Addr} (hp:p.block<a.heap.size) (hn:¬S p.block):b.cell? p=a.cell? p:=by
 unfold World.cell?;rw[h.block _ hp hn]
theorem Aj.frozen {S:Nat->Prop} {a b:World} (h:Aj S a b) {p:Addr} (hp:p.block<a.heap.size) (hn:¬S p.block):b.frozen? p=a.frozen? p:=by
 unfold World.frozen?;rw[h.block _ hp hn]
theorem A6.tch {α:Type} {E:Dc α} {w w':World} {base:Nat} {a:Option Addr} {n c:Nat} {xs:List α} {S:Nat->Prop} (h:A6 E w base (.slice a n c) xs) (hg:Aj S w w') (hne:∀k,oB a=some k->¬S k):A6 E w' base (.slice a n c) xs:=by
 have hk:=h.own;refine⟨h.1,?_⟩;rcases h.2 with hh|⟨g,cap,cur,e,hb,hg',r⟩
 ·exact .inl hh
 ·refine .inr ⟨g,cap,cur,e,hb,?_,r⟩;have ho:(Value.slice a n c).ownBlock=some g:=by rw[e];rfl
  rw[hg.block g (hk g ho).2 (hne g (by rw[<- CC a n c];exact ho))];exact hg'
structure BH (w:World) (P k B:Nat) (a:Option Addr) (c:Nat) (xs:List Int):Prop where
 lt:P<w.heap.size
 cell:w.cell? ⟨P,k,none⟩=some (.slice a xs.length c)
 fz:w.frozen? ⟨P,k,none⟩=false
 row:A6 Ai w B (.slice a xs.length c) xs
 off:oB a≠some P
 base:B<=w.heap.size
theorem BH.tch {w w':World} {P k B c:Nat} {a:Option Addr} {xs:List Int} {S:Nat->Prop} (h:BH w P k B a c xs) (hg:Aj S w w') (hP:¬S P) (hne:∀k,oB a=some k->¬S k):BH w' P k B a c xs :=
 ⟨Nat.lt_of_lt_of_le h.lt hg.size,(hg.cell (p:=⟨P,k,none⟩) h.lt hP).trans h.cell,(hg.frozen (p:=⟨P,k,none⟩) h.lt hP).trans h.fz,h.row.tch hg hne,h.off,Nat.le_trans h.base hg.size⟩
structure BQ (w w':World) (P k B:Nat) (a a':Option Addr) (c':Nat) (ys:List Int):Prop where
 set:BH w' P k B a' c' ys
 tch:Aj (fun j=>j=P\/oB a=some j) w w'
 oth:∀i,i≠k->w'.cell? ⟨P,i,none⟩=w.cell? ⟨P,i,none⟩
 ofz:∀i,w'.frozen? ⟨P,i,none⟩=w.frozen? ⟨P,i,none⟩
 own:oB a'=oB a\/∃j,oB a'=some j/\w.heap.size<=j
theorem BQ.same {w w':World} {P k B c:Nat} {a:Option Addr} {xs:List Int} (h:BH w P k B a c xs) (hb:Below w.heap.size w w'):BQ w w' P k B a a c xs :=
 ⟨h.tch (Aj.of_below (S:=fun _=>False) hb) (fun f=>f) (fun _ _ f=>f),Aj.of_below hb,fun i _=>hb.cell (p:=⟨P,i,none⟩) h.lt,fun i=>by unfold World.frozen?;rw[hb.block P h.lt],.inl rfl⟩
theorem BQ.put {w wa w1:World} {P k B c c':Nat} {a a':Option Addr} {xs ys:List Int} (h:BH w P k B a c xs) (hb:Below w.heap.size w wa) (hr:A6 Ai w1 B (.slice a' ys.length c') ys) (hg:wa.grownBy w1 (oB a)) (ho:oB a'=oB a\/∃j,oB a'=some j/\w.heap.size<=j):BQ w (w1.setCell ⟨P,k,none⟩ (.slice a' ys.length c')) P k B a a' c' ys:=by
 have hP:oB a≠some P:=h.off;have hPa:P<wa.heap.size:=Nat.lt_of_lt_of_le h.lt hb.size;have hblk:w1.heap[P]?=w.heap[P]?:=(hg.block P hPa (fun e=>hP e.symm)).trans (hb.block P h.lt);have hP1:P<w1.heap.size:=Nat.lt_of_lt_of_le hPa hg.size;have hc1:∀i,w1.cell? ⟨P,i,none⟩=w.cell? ⟨P,i,none⟩:=fun i=>by unfold World.cell?;rw[hblk]
 have hf1:∀i,w1.frozen? ⟨P,i,none⟩=w.frozen? ⟨P,i,none⟩:=fun i=>by unfold World.frozen?;rw[hblk]
 have hT:Aj (fun j=>j=P\/oB a=some j) w w1:=⟨hg.os.trans hb.os,hg.tape.trans hb.tape,hg.output.trans hb.output,Nat.le_trans hb.size hg.size,fun i hi hn=>(hg.block i (Nat.lt_of_lt_of_le hi hb.size) (fun e=>hn (.inr e.symm))).trans (hb.block i hi)⟩;have hoP:oB a'≠some P:=by
  rcases ho with e|⟨j,e,hj⟩
  ·rw[e];exact hP
  ·rw[e];intro e2;simp only[Option.some.injEq] at e2;have:=h.lt;omega
 refine⟨⟨by simpa using hP1,?_,by simp[hf1,h.fz],hr.tch (S:=fun j=>j=P) ⟨rfl,rfl,rfl,by simp,fun i hi hn=>Below.heap_setCell _ _ _ _ (fun e=>hn e)⟩ (fun j e e2=>hoP (by rw[e,e2])),hoP,by have:=h.base;have:=hb.size;have:=hg.size;simp;omega⟩,hT.set _ _ (.inl rfl),fun i hi=>?_,fun i=>by simp[hf1],ho⟩
 ·exact World.cell?_setCell_same _ _ _ (by rw[hc1,h.cell])
 ·rw[<- hc1];exact World.cell?_setCell_other _ _ _ _ (fun e=>hi (by simp only[Addr.mk.injEq,true_and,and_true] at e;exact e.symm))
set_option maxHeartbeats 1000000 in
theorem Mg (P k B c:Nat) (a:Option Addr) (xs:List Int) (e0:Int) (w:World) (hs:Bo xs) (hn:xs.length<=100000) (h:BH w P k B a c xs) : Calls Tryz.prog 142 #[.pointer (some ⟨P,k,none⟩),.int .i64 e0] w fun r w'=>r=.returned (.tuple #[])/\∃a' c',BQ w w' P k B a a' c' (JN xs e0):=by
 have hb:=J9 a c B xs e0 w hn hs h.row;have c0:=h.cell;have hlt:=h.lt;have f0:=h.fz;have HS:Hid (BH w P k B a c xs):=h;cases hf:Co xs e0<;>rw[hf] at hb
 ·have HL:Hid (JN xs e0=El xs (Bc xs e0) e0):=A3 <| by unfold JN;rw[hf];rfl
  clear hs h hf;go_enter Tryz.func142,Tryz.ntmps142
  go_wp2_with fail
  refine hb.mono ?_;rintro e w1 ⟨rfl,hb1,hp⟩;have hins:∀w2,Below w.heap.size w w2->Calls Tryz.prog 182 #[.slice a xs.length c,.int .i64 (Bc xs e0:Nat),.slice (some ⟨w2.heap.size,0,none⟩) 1 1] (w2.alloc (.cells #[.int .i64 e0] 3)) fun r w'=>∃a' c',r=.returned (.slice a' (El xs (Bc xs e0) e0).length c')/\A6 Ai w' B (.slice a' (El xs (Bc xs e0) e0).length c') (El xs (Bc xs e0) e0)/\(w2.alloc (.cells #[.int .i64 e0] 3)).grownBy w' (oB a)/\(oB a'=oB a\/oB a'=some (w2.heap.size+1)):=fun w2 hb2=>by
   have hr:=HS.out.row.below (hb2.trans (Ao (w:=w2) (o:=.cells #[.int .i64 e0] 3) |>.mono hb2.size));have ho:oB a≠some w2.heap.size:=fun ee=>by
    have:=(HS.out.row.own _ (by rw[CC];exact ee)).2;have:=hb2.size;omega
   have h1:=Uy a c B (Bc xs e0) w2.heap.size xs e0 (w2.alloc (.cells #[.int .i64 e0] 3)) hp (by have:=HS.out.base;have:=hb2.size;simp;omega) hn ho (heap_alloc_new w2 _) hr;refine h1.mono ?_;rintro r w' ⟨a',c',e1,e2,e3,e4⟩;exact⟨a',c',e1,e2,e3,by simpa using e4⟩
  have hi:=hins w1 hb1;have c1:=(hb1.cell (p:=⟨P,k,none⟩) hlt).trans c0;have lt1:P<w1.heap.size:=Nat.lt_of_lt_of_le hlt hb1.size;have HB:Hid (Below w.heap.size w w1):=hb1;have HF:Hid (w1.frozen? ⟨P,k,none⟩=false):=A3 <| by unfold World.frozen? at f0 ⊢;rw[hb1.block P hlt];exact f0
  generalize El xs (Bc xs e0) e0=YS at hi HL;clear hins hb1 hb c0 f0;go_wp2_with fail
  refine hi.mono ?_;rintro e w2 ⟨a',c',rfl,hr2,hg2,ho2⟩;have hba:Below w.heap.size w (w1.alloc (.cells #[.int .i64 e0] 3)):=HB.out.trans (Ao.mono HB.out.size);have hblk:w2.heap[P]?=w1.heap[P]?:=(hg2.block P (by simp;omega) (fun ee=>HS.out.off ee.symm)).trans (Below.heap_alloc w1 _ _ lt1);have c2:w2.cell? ⟨P,k,none⟩=some (.slice a xs.length c):=by unfold World.cell? at c1 ⊢;rw[hblk];exact c1
  have f2:w2.frozen? ⟨P,k,none⟩=false:=by have:=HF.out;unfold World.frozen? at this ⊢;rw[hblk];exact this
  have lt2:P<w2.heap.size:=Nat.lt_of_lt_of_le (by simp;omega) hg2.size;have HST:Hid (BQ w (w2.setCell ⟨P,k,none⟩ (.slice a' YS.length c')) P k B a a' c' YS):=BQ.put HS.out hba hr2 hg2 (ho2.imp id (fun ee=>⟨_,ee,by have:=HB.out.size;omega⟩));clear hba hblk hi hr2 hg2 ho2 c1;go_wp2_with fail
  refine bodyPost_end (v:=.tuple #[]) (by simp[results,Tryz.results142,go_sem]) rfl ?_;exact⟨rfl,a',c',by rw[HL.out];exact HST.out⟩
 ·have HL:Hid (JN xs e0=xs):=A3 <| by unfold JN;rw[hf];rfl
  clear hs h hf;go_enter Tryz.func142,Tryz.ntmps142
  go_wp2_with fail
  refine hb.mono ?_;rintro e w1 ⟨rfl,hb1,hp⟩;clear hb;go_wp2_with fail
  refine bodyPost_end (v:=.tuple #[]) (by simp[results,Tryz.results142,go_sem]) rfl ?_;exact⟨rfl,a,c,by rw[HL.out];exact BQ.same HS.out hb1⟩
set_option maxHeartbeats 1000000 in
theorem Ow (P k B c:Nat) (a:Option Addr) (xs:List Int) (e0:Int) (w:World) (hs:Bo xs) (hn:xs.length<=100000) (h:BH w P k B a c xs) : Calls Tryz.prog 144 #[.pointer (some ⟨P,k,none⟩),.int .i64 e0] w fun r w'=>r=.returned (.tuple #[])/\∃a' c',BQ w w' P k B a a' c' (L9 xs e0):=by
 have hb:=J9 a c B xs e0 w hn hs h.row;have c0:=h.cell;have hlt:=h.lt;have f0:=h.fz;have HS:Hid (BH w P k B a c xs):=h;cases hf:Co xs e0<;>rw[hf] at hb
 ·have HL:Hid (L9 xs e0=xs):=A3 <| by unfold L9;rw[hf];rfl
  clear hs h hf;go_enter Tryz.func144,Tryz.ntmps144
  go_wp2_with fail
  refine hb.mono ?_;rintro e w1 ⟨rfl,hb1,hp⟩;clear hb;go_wp2_with fail
  refine bodyPost_end (v:=.tuple #[]) (by simp[results,Tryz.results144,go_sem]) rfl ?_;exact⟨rfl,a,c,by rw[HL.out];exact BQ.same HS.out hb1⟩
 ·have HL:Hid (L9 xs e0=F3 xs (Bc xs e0)):=A3 <| by unfold L9;rw[hf];rfl
  have hp0:Bc xs e0<xs.length:=by
   unfold Co at hf;exact(of_decide_eq_true hf).1
  clear hs h hf;go_enter Tryz.func144,Tryz.ntmps144
  go_wp2_with fail
  refine hb.mono ?_;rintro e w1 ⟨rfl,hb1,hp⟩;have hi:=VC a c B (Bc xs e0) xs w1 hp0 (HS.out.row.below hb1);have c1:=(hb1.cell (p:=⟨P,k,none⟩) hlt).trans c0;have lt1:P<w1.heap.size:=Nat.lt_of_lt_of_le hlt hb1.size;have HB:Hid (Below w.heap.size w w1):=hb1;have HF:Hid (w1.frozen? ⟨P,k,none⟩=false):=A3 <| by unfold World.frozen? at f0 ⊢;rw[hb1.block P hlt];exact f0
  generalize F3 xs (Bc xs e0)=YS at hi HL;clear hb1 hb c0 f0;go_wp2_with fail
  refine hi.mono ?_;rintro e w2 ⟨rfl,hr2,hg2⟩;have hblk:w2.heap[P]?=w1.heap[P]?:=hg2.block P lt1 (fun ee=>HS.out.off ee.symm);have c2:w2.cell? ⟨P,k,none⟩=some (.slice a xs.length c):=by unfold World.cell? at c1 ⊢;rw[hblk];exact c1
  have f2:w2.frozen? ⟨P,k,none⟩=false:=by have:=HF.out;unfold World.frozen? at this ⊢;rw[hblk];exact this
  have lt2:P<w2.heap.size:=Nat.lt_of_lt_of_le lt1 hg2.size;have HST:Hid (BQ w (w2.setCell ⟨P,k,none⟩ (.slice a YS.length c)) P k B a a c YS):=BQ.put HS.out HB.out hr2 hg2 (.inl rfl);clear hblk hi hr2 hg2 c1;go_wp2_with fail
  refine bodyPost_end (v:=.tuple #[]) (by simp[results,Tryz.results144,go_sem]) rfl ?_;exact⟨rfl,a,c,by rw[HL.out];exact HST.out⟩
set_option maxHeartbeats 1000000 in
theorem Ru (P k g o c n:Nat) (x:Int) (w:World) (hlt:P<w.heap.size) (hg:g<w.heap.size) (c0:w.cell? ⟨P,k,none⟩=some (.slice (some ⟨g,o,none⟩) (n+1) c)) (f0:w.frozen? ⟨P,k,none⟩=false) (x0:w.cell? ⟨g,o,none⟩=some (.int .i64 x)) (hc:n+1<=c) : Calls Tryz.prog 145 #[.pointer (some ⟨P,k,none⟩)] w fun r w'=>r=.returned (.int .i64 x)/\∃A,(0<n->A=some ⟨g,o+1,none⟩)/\w'=w.setCell ⟨P,k,none⟩ (.slice A n (c-1)):=by
 obtain⟨AD,hAD⟩:∃AD:Addr,(if c=1 then some (⟨g,o,none⟩:Addr) else some ⟨g,o+1,none⟩)=some AD:=by
  by_cases h:c=1
  ·exact⟨_,if_pos h⟩
  ·exact⟨_,if_neg h⟩
 have HD:Hid (0<n->some AD=some (⟨g,o+1,none⟩:Addr)):=fun hn=>by rw[<- hAD,if_neg (by omega)]
 have L1:(0:Int)<(n:Int)+1:=by omega
 have L2:(1:Int)<=(n:Int)+1:=by omega
 go_enter Tryz.func145,Tryz.ntmps145
 go_wp2_with fail
 go_ret;exact⟨rfl,some AD,HD.out,rfl⟩
end Go.Proofs.YtnmhkgmmpkjjeaaGreat
