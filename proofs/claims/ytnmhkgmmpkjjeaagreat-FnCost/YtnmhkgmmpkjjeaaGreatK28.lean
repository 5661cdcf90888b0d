import Derived.Test.YtnmhkgmmpkjjeaaGreatK26
import Derived.Test.YtnmhkgmmpkjjeaaGreatK27
namespace Go.Proofs.YtnmhkgmmpkjjeaaGreat
set_option linter.unusedVariables false
open Go.ChangeShapes Go.WideShapes Go.ChangeAt Go.RowKit
def C6 (H:Nat->Ht) (all:List P3) (lv pg:Int):Int :=
 if lv=3 then (if (H pg.toNat).k=1 then Am 3 3 (H pg.toNat).o (H pg.toNat).p else 0)
 else if lv=2/\(H pg.toNat).s=16 then Am 2 2 (H pg.toNat).o (H pg.toNat).p
 else if AE all (lv+1) pg<0 then 0 else Am lv 1 (AE all (lv+1) pg) 0
def GI (zs:List Int) (ad:Int):Int:=zs.getD ad.toNat 0
def GZ (zs:List Int) (H:Nat->Ht) (all:List P3) (e:En):Bool:=decide (GI zs e.ad%2=1/\¬GI zs e.ad=C6 H all e.lv e.pg)
def Lt (zs:List Int) (H:Nat->Ht) (all:List P3) (e:En):Bool:=decide (¬C6 H all e.lv e.pg=0/\¬C6 H all e.lv e.pg=GI zs e.ad)
def Ez (zs:List Int) (H:Nat->Ht) (all:List P3) (es:List En) (p:Nat):Bool:=es.any fun e=>GZ zs H all e&&decide (e.pg<=p/\(p:Int)<e.pg+CH e.lv)
def Cz:BP:=⟨2,0,0,0⟩
def BG (l:List BP):List BP:=if l.isEmpty then [] else l++[Cz]
def AX (zs:List Int) (H:Nat->Ht) (all:List P3) (es:List En):List BP:=(es.filter (GZ zs H all)).map fun e=>⟨1,e.ad,0,0⟩
def BB (mk:Nat->Bool):List BP:=(Bs mk 4096 4096).map fun r=>⟨3,r.1,r.2,0⟩
def Al (n:Nat) (gone:List P3):List BP:=((List.range n).filter (fun f=>B5 gone (f:Nat))).map fun f=>⟨4,(f:Nat),0,0⟩
def Ak (H:Nat->Ht) (all:List P3) (t:P3) (k:Nat):List BP:=(List.range k).map fun i=>⟨1,t.fr*16+(i:Nat),0,C6 H all t.lv (t.pg+(i:Nat)*CH t.lv)⟩
def AM (H:Nat->Ht) (all fresh:List P3):List BP:=fresh.flatMap fun t=>Ak H all t 16
def Af (zs:List Int) (H:Nat->Ht) (all:List P3) (es:List En):List BP:=(es.filter (Lt zs H all)).map fun e=>⟨1,e.ad,0,C6 H all e.lv e.pg⟩
def DD (H:Nat->Ht) (ps:List P3):List P3:=BK (AA H ps) (AC H 256) (AC H 256).length
def AU (H:Nat->Ht) (ps:List P3):List P3:=AA H ps++DD H ps
def CE (H:Nat->Ht) (ps:List P3):List En:=Bc (AA H ps) 4096
def C8 (zs:List Int) (n:Nat) (H:Nat->Ht) (ps:List P3):List BP :=
 BG (AX zs H (AU H ps) (CE H ps))++(BG (BB (Ez zs H (AU H ps) (CE H ps)))++(Al n (Cr H ps)++(BG (AM H (AU H ps) (DD H ps))++BG (Af zs H (AU H ps) (CE H ps)))))
theorem JB:BG []=[]:=rfl
theorem Ef {l:List BP} (h:l≠[]):BG l=l++[Cz]:=by
 unfold BG;rw[if_neg (by rw[List.isEmpty_iff];exact h)]
theorem GR {kept:List P3} {n:Nat} {e:En} (h:e∈Bc kept n):∃page lv:Nat,page<n/\1<=lv/\lv<=3/\page%Ao lv=0/\e.lv=lv/\e.pg=page/\0<=AE kept lv (page-page%(Ao lv*16):Nat)/\e.ad=AE kept lv (page-page%(Ao lv*16):Nat)*16+(page/Ao lv%16:Nat):=by
 unfold Bc at h;obtain⟨page,hp,h⟩:=List.mem_flatMap.1 h;have hp':=List.mem_range.1 hp;unfold Lw at h;have one:∀lv:Nat,1<=lv->lv<=3->e∈ET kept page lv->∃page lv:Nat,page<n/\1<=lv/\lv<=3/\page%Ao lv=0/\e.lv=lv/\e.pg=page/\0<=AE kept lv (page-page%(Ao lv*16):Nat)/\e.ad=AE kept lv (page-page%(Ao lv*16):Nat)*16+(page/Ao lv%16:Nat):=by
  intro lv h1 h3 hm;unfold ET at hm;split at hm
  ·rename_i hh;rw[List.mem_singleton] at hm;subst hm;exact⟨page,lv,hp',h1,h3,hh.1,rfl,rfl,hh.2,rfl⟩
  ·cases hm
 rcases List.mem_append.1 h with h|h
 ·exact one 1 (by decide) (by decide) h
 ·rcases List.mem_append.1 h with h|h
  ·exact one 2 (by decide) (by decide) h
  ·exact one 3 (by decide) (by decide) h
theorem Ci (lv:Nat):CH lv=Ao lv:=by
 unfold CH Ao;by_cases h1:lv=1
 ·subst h1;rfl
 ·by_cases h2:lv=2
  ·subst h2;rfl
  ·rw[if_neg (by omega),if_neg (by omega),if_neg h1,if_neg h2];rfl
theorem H8 (lv:Nat):1<=Ao lv:=by unfold Ao;split<;>(try split)<;>omega
theorem Tr {mk:Nat->Bool} {m:Nat} (h:Bs mk m m=[]):∀p,p<m->mk p=false:=by
 intro p hp;cases hm:mk p
 ·rfl
 ·obtain⟨q,hq1,hq2,_⟩:=Hu mk p hm;have:(q,B9 mk m q)∈Bs mk m m:=by
   unfold Bs;refine List.mem_flatMap.2 ⟨q,List.mem_range.2 (by omega),?_⟩;rw[if_pos hq2];exact List.mem_singleton.2 rfl
  rw[h] at this;cases this
theorem Rl (zs:List Int) (H:Nat->Ht) (ps:List P3):AX zs H (AU H ps) (CE H ps)=[]↔BB (Ez zs H (AU H ps) (CE H ps))=[]:=by
 unfold AX BB;rw[List.map_eq_nil_iff,List.map_eq_nil_iff];constructor
 ·intro h;have hm:∀p,Ez zs H (AU H ps) (CE H ps) p=false:=by
   intro p;unfold Ez;rw[List.any_eq_false];intro e he;cases hb:GZ zs H (AU H ps) e
   ·simp
   ·have:e∈(CE H ps).filter (GZ zs H (AU H ps)):=List.mem_filter.2 ⟨he,hb⟩;rw[h] at this;cases this
  unfold Bs;rw[List.flatMap_eq_nil_iff];intro p hp;unfold By;rw[hm p];simp
 ·intro h;rw[List.filter_eq_nil_iff];intro e he hb;obtain⟨page,lv,hp,h1,h3,_,e1,e2,_⟩:=GR he;have:=Tr h page hp;unfold Ez at this;rw[List.any_eq_false] at this;have h4:=this e he;have hc:=Ci lv;have hc2:=H8 lv;rw[hb,e1,e2,hc] at h4;simp at h4;omega
theorem Tn (zs:List Int) (n:Nat) (H:Nat->Ht) (ps:List P3):C8 zs n H ps = (if (AX zs H (AU H ps) (CE H ps)).isEmpty then [] else ((AX zs H (AU H ps) (CE H ps)++[Cz])++BB (Ez zs H (AU H ps) (CE H ps)))++[Cz])++(Al n (Cr H ps)++(BG (AM H (AU H ps) (DD H ps))++BG (Af zs H (AU H ps) (CE H ps)))):=by
 unfold C8;by_cases h:AX zs H (AU H ps) (CE H ps)=[]
 ·rw[(Rl zs H ps).1 h,h];simp[JB]
 ·have h2:BB (Ez zs H (AU H ps) (CE H ps))≠[]:=fun e=>h ((Rl zs H ps).2 e)
  rw[Ef h,Ef h2,if_neg (by rw[List.isEmpty_iff];exact h)];simp
def K7 (xs:List Int) (e:Int):List Int:=if D3 xs e then xs else Eo xs (Bl xs e) e
def Lv (xs:List Int) (e:Int):List Int:=if D3 xs e then F6 xs (Bl xs e) else xs
theorem Gp {x:Int} {r:List Int} {e:Int} (h:x<e):Bl (x :: r) e=Bl r e+1:=by
 unfold Bl;rw[List.countP_cons_of_pos (by exact decide_eq_true h)]
theorem Gk {x:Int} {r:List Int} {e:Int} (hr:Bx (x :: r)) (h:¬x<e):Bl (x :: r) e=0:=by
 unfold Bl;rw[List.countP_eq_zero];intro y hy;rcases List.mem_cons.1 hy with rfl|hy
 ·simpa using h
 ·have:=(List.pairwise_cons.1 hr).1 y hy;simp only[decide_eq_true_eq];omega
theorem Fd {e:Int}:∀{xs:List Int},Bx xs->(D3 xs e=true↔e∈xs)
 | [],_=>by simp[D3]
 | x :: r,hr=>by
  obtain⟨h1,h2⟩:=List.pairwise_cons.1 hr;unfold D3;rw[decide_eq_true_eq];by_cases h:x<e
  ·have ih:=Fd (e:=e) h2;unfold D3 at ih;rw[decide_eq_true_eq] at ih;rw[Gp h,List.mem_cons,List.length_cons];have e1:AI AW (x :: r) (Bl r e+1)=AI AW r (Bl r e):=rfl;rw[e1];constructor
   ·rintro⟨a,b⟩;exact .inr (ih.1 ⟨by omega,b⟩)
   ·rintro(rfl|hm)
    ·omega
    ·have:=ih.2 hm;exact⟨by omega,this.2⟩
  ·rw[Gk hr h];have e1:AI AW (x :: r) 0=x:=rfl;rw[e1,List.mem_cons,List.length_cons];constructor
   ·rintro⟨_,b⟩;exact .inl b.symm
   ·rintro(rfl|hm)
    ·exact⟨by omega,rfl⟩
    ·have:=h1 e hm;omega
theorem RX (xs:List Int) (i:Nat) (e x:Int):x∈Eo xs i e↔x=e\/x∈xs:=by
 unfold Eo;rw[List.mem_append,List.mem_cons];have:x∈xs↔x∈xs.take i\/x∈xs.drop i:=by
  rw[<- List.mem_append,List.take_append_drop]
 rw[this];constructor
 ·rintro(a|a|a)
  ·exact .inr (.inl a)
  ·exact .inl a
  ·exact .inr (.inr a)
 ·rintro(a|a|a)
  ·exact .inr (.inl a)
  ·exact .inl a
  ·exact .inr (.inr a)
theorem KX {e:Int}:∀{xs:List Int},Bx xs->e ∉ xs->Bx (Eo xs (Bl xs e) e)
 | [],_,_=>List.pairwise_singleton _ _
 | x :: r,hr,hm=>by
  obtain⟨h1,h2⟩:=List.pairwise_cons.1 hr;by_cases h:x<e
  ·rw[Gp h];have e1:Eo (x :: r) (Bl r e+1) e=x :: Eo r (Bl r e) e:=rfl;rw[e1];refine List.pairwise_cons.2 ⟨fun y hy=>?_,KX h2 (fun hh=>hm (List.mem_cons_of_mem _ hh))⟩;rcases(RX _ _ _ _).1 hy with rfl|hy
   ·exact h
   ·exact h1 y hy
  ·rw[Gk hr h];have e1:Eo (x :: r) 0 e=e :: x :: r:=rfl;(have hne:¬e=x:=fun hh=>hm (by rw[hh];exact List.mem_cons_self ..));rw[e1];refine List.pairwise_cons.2 ⟨fun y hy=>?_,hr⟩;rcases List.mem_cons.1 hy with rfl|hy
   ·omega
   ·have:=h1 y hy;omega
theorem Mo {xs:List Int} (h:Bx xs) (e x:Int):x∈K7 xs e↔x=e\/x∈xs:=by
 unfold K7;split
 ·rename_i hf;have:=(Fd h).1 hf;exact⟨fun a=>.inr a,fun a=>a.elim (fun ee=>by rw[ee];exact this) id⟩
 ·exact RX _ _ _ _
theorem I9 {xs:List Int} (h:Bx xs) (e:Int):Bx (K7 xs e):=by
 unfold K7;split
 ·exact h
 ·rename_i hf;exact KX h (fun hm=>hf ((Fd h).2 hm))
theorem Qr {e x:Int}:∀{xs:List Int},Bx xs->e∈xs->(x∈F6 xs (Bl xs e)↔x∈xs/\x≠e)
 | [],_,hm=>by cases hm
 | y :: r,hr,hm=>by
  obtain⟨h1,h2⟩:=List.pairwise_cons.1 hr;by_cases h:y<e
  ·have hm':e∈r:=by
    rcases List.mem_cons.1 hm with rfl|hm
    ·omega
    ·exact hm
   rw[Gp h];have e1:F6 (y :: r) (Bl r e+1)=y :: F6 r (Bl r e):=rfl;rw[e1,List.mem_cons,List.mem_cons,Qr h2 hm'];constructor
   ·rintro(rfl|⟨a,b⟩)
    ·exact⟨.inl rfl,by omega⟩
    ·exact⟨.inr a,b⟩
   ·rintro⟨rfl|a,b⟩
    ·exact .inl rfl
    ·exact .inr ⟨a,b⟩
  ·have hy:e=y:=by
    rcases List.mem_cons.1 hm with a|a
    ·exact a
    ·have:=h1 e a;omega
   rw[Gk hr h];have e1:F6 (y :: r) 0=r:=rfl;rw[e1,List.mem_cons];constructor
   ·intro a;have:=h1 x a;exact⟨.inr a,by omega⟩
   ·rintro⟨a|a,b⟩
    ·exact absurd (a.trans hy.symm) b
    ·exact a
theorem WY (xs:List Int) (i:Nat):(F6 xs i).Sublist xs:=by
 unfold F6;have h:(xs.take i++xs.drop (i+1)).Sublist (xs.take i++xs.drop i):=by
  refine List.Sublist.append (List.Sublist.refl _) ?_;rw[<- List.drop_drop];exact List.drop_sublist _ _
 rwa [List.take_append_drop] at h
theorem Vf {xs:List Int} (h:Bx xs) (e x:Int):x∈Lv xs e↔x∈xs/\x≠e:=by
 unfold Lv;split
 ·rename_i hf;exact Qr h ((Fd h).1 hf)
 ·rename_i hf;have:e ∉ xs:=fun hm=>hf ((Fd h).2 hm)
  exact⟨fun a=>⟨a,fun hh=>this (by rw[<- hh];exact a)⟩,fun a=>a.1⟩
theorem Pc {xs:List Int} (h:Bx xs) (e:Int):Bx (Lv xs e):=by
 unfold Lv;split
 ·exact List.Pairwise.sublist (WY _ _) h
 ·exact h
theorem Ds:∀{xs ys:List Int},Bx xs->Bx ys->(∀x,x∈xs↔x∈ys)->xs=ys
 | [],[],_,_,_=>rfl
 | [],y :: r,_,_,h=>by
  have:=(h y).2 (List.mem_cons_self ..);cases this
 | x :: r,[],_,_,h=>by
  have:=(h x).1 (List.mem_cons_self ..);cases this
 | x :: r,y :: s,hx,hy,h=>by
  obtain⟨a1,a2⟩:=List.pairwise_cons.1 hx;obtain⟨b1,b2⟩:=List.pairwise_cons.1 hy;have e:x=y:=by
   have h1:=(h x).1 (List.mem_cons_self ..);have h2:=(h y).2 (List.mem_cons_self ..);rcases List.mem_cons.1 h1 with e|m1
   ·exact e
   ·rcases List.mem_cons.1 h2 with e|m2
    ·exact e.symm
    ·have:=a1 y m2;have:=b1 x m1;omega
  subst e
  have:r=s:=Ds a2 b2 (fun z=>by
   constructor
   ·intro m
    rcases List.mem_cons.1 ((h z).1 (List.mem_cons_of_mem _ m)) with e|m'
    ·have:=a1 z m;omega
    ·exact m'
   ·intro m
    rcases List.mem_cons.1 ((h z).2 (List.mem_cons_of_mem _ m)) with e|m'
    ·have:=b1 z m;omega
    ·exact m')
  rw[this]
def Bf (p:Nat->Bool) (n:Nat):List Int:=((List.range n).filter p).map (fun k=>((k:Nat):Int))
theorem DT (p:Nat->Bool) (n:Nat):Bx (Bf p n):=by
 unfold Bf Bx;rw[List.pairwise_map];exact(List.pairwise_lt_range.filter p).imp (fun h=>by omega)
theorem Ga (p:Nat->Bool) (n:Nat) (x:Int):x∈Bf p n↔∃k:Nat,k<n/\p k=true/\x=k:=by
 unfold Bf;rw[List.mem_map];constructor
 ·rintro⟨k,h,rfl⟩;rw[List.mem_filter,List.mem_range] at h;exact⟨k,h.1,h.2,rfl⟩
 ·rintro⟨k,h1,h2,rfl⟩;exact⟨k,List.mem_filter.2 ⟨List.mem_range.2 h1,h2⟩,rfl⟩
def Ch (qs:List P3) (n:Nat):List Int:=Bf (fun f=>!B5 qs (f:Nat)) n
end Go.Proofs.YtnmhkgmmpkjjeaaGreat
namespace Go.Proofs.YtnmhkgmmpkjjeaaGreat
open Go.ChangeShapes Go.WideShapes Go.ChangeAt Go.RowKit
set_option linter.unusedVariables false
set_option maxRecDepth 100000
attribute [local go_sem ↓] Go.wp_at_zero Go.wp_at_succ
structure BJ (S:Nat->Prop) (w w':World):Prop where
 os:w'.os=w.os
 tape:w'.tape=w.tape
 output:w'.output=w.output
 size:w.heap.size<=w'.heap.size
 block:∀k,k<w.heap.size->¬S k->w'.heap[k]?=w.heap[k]?
theorem BJ.refl {S:Nat->Prop} (w:World):BJ S w w:=⟨rfl,rfl,rfl,Nat.le_refl _,fun _ _ _=>rfl⟩
theorem BJ.of_below {S:Nat->Prop} {a b:World} (h:Below a.heap.size a b):BJ S a b:=⟨h.os,h.tape,h.output,h.size,fun i hi _=>h.block i hi⟩
theorem BJ.of_grown {S:Nat->Prop} {a b:World} {row:Option Nat} (h:a.grownBy b row) (hS:∀k,row=some k->S k):BJ S a b :=
 ⟨h.os,h.tape,h.output,h.size,fun i hi hn=>h.block i hi (fun e=>hn (hS i e.symm))⟩
theorem BJ.then {S S':Nat->Prop} {a b c:World} (h:BJ S a b) (k:BJ S' b c) (hS:∀k,k<a.heap.size->S' k->S k):BJ S a c :=
 ⟨k.os.trans h.os,k.tape.trans h.tape,k.output.trans h.output,Nat.le_trans h.size k.size,fun i hi hn=>(k.block i (Nat.lt_of_lt_of_le hi h.size) (fun e=>hn (hS i hi e))).trans (h.block i hi hn)⟩
theorem BJ.set {S:Nat->Prop} {a b:World} (h:BJ S a b) (p:Addr) (v:Value) (hp:S p.block):BJ S a (b.setCell p v) :=
 ⟨h.os,h.tape,h.output,by simpa using h.size,fun k hk hn=>(Below.heap_setCell _ _ _ _ (fun e=>hn (by rw[e];exact hp))).trans (h.block k hk hn)⟩
theorem BJ.below {S:Nat->Prop} {a b:World} (h:BJ S a b) (hS:∀k,k<a.heap.size->¬S k):Below a.heap.size a b :=
 ⟨h.os,h.tape,h.output,h.size,fun k hk=>h.block k hk (hS k hk)⟩
theorem BJ.cell {S:Nat->Prop} {a b:World} (h:BJ S a b) {p:Addr} (hp:p.block<a.heap.size) (hn:¬S p.block):b.cell? p=a.cell? p:=by
 unfold World.cell?;rw[h.block _ hp hn]
theorem BJ.frozen {S:Nat->Prop} {a b:World} (h:BJ S a b) {p:Addr} (hp:p.block<a.heap.size) (hn:¬S p.block):b.frozen? p=a.frozen? p:=by
 unfold World.frozen?;rw[h.block _ hp hn]
theorem A6.tch {α:Type} {E:E8 α} {w w':World} {base:Nat} {a:Option Addr} {n c:Nat} {xs:List α} {S:Nat->Prop} (h:A6 E w base (.slice a n c) xs) (hg:BJ S w w') (hne:∀k,oB a=some k->¬S k):A6 E w' base (.slice a n c) xs:=by
 have hk:=h.own;refine⟨h.1,?_⟩;rcases h.2 with hh|⟨g,cap,cur,e,hb,hg',r⟩
 ·exact .inl hh
 ·refine .inr ⟨g,cap,cur,e,hb,?_,r⟩;have ho:(Value.slice a n c).ownBlock=some g:=by rw[e];rfl
  rw[hg.block g (hk g ho).2 (hne g (by rw[<- CS a n c];exact ho))];exact hg'
structure BI (w:World) (P k B:Nat) (a:Option Addr) (c:Nat) (xs:List Int):Prop where
 lt:P<w.heap.size
 cell:w.cell? ⟨P,k,none⟩=some (.slice a xs.length c)
 fz:w.frozen? ⟨P,k,none⟩=false
 row:A6 AW w B (.slice a xs.length c) xs
 off:oB a≠some P
 base:B<=w.heap.size
theorem BI.tch {w w':World} {P k B c:Nat} {a:Option Addr} {xs:List Int} {S:Nat->Prop} (h:BI w P k B a c xs) (hg:BJ S w w') (hP:¬S P) (hne:∀k,oB a=some k->¬S k):BI w' P k B a c xs :=
 ⟨Nat.lt_of_lt_of_le h.lt hg.size,(hg.cell (p:=⟨P,k,none⟩) h.lt hP).trans h.cell,(hg.frozen (p:=⟨P,k,none⟩) h.lt hP).trans h.fz,h.row.tch hg hne,h.off,Nat.le_trans h.base hg.size⟩
structure BV (w w':World) (P k B:Nat) (a a':Option Addr) (c':Nat) (ys:List Int):Prop where
 set:BI w' P k B a' c' ys
 tch:BJ (fun j=>j=P\/oB a=some j) w w'
 oth:∀i,i≠k->w'.cell? ⟨P,i,none⟩=w.cell? ⟨P,i,none⟩
 ofz:∀i,w'.frozen? ⟨P,i,none⟩=w.frozen? ⟨P,i,none⟩
 own:oB a'=oB a\/∃j,oB a'=some j/\w.heap.size<=j
theorem BV.same {w w':World} {P k B c:Nat} {a:Option Addr} {xs:List Int} (h:BI w P k B a c xs) (hb:Below w.heap.size w w'):BV w w' P k B a a c xs :=
 ⟨h.tch (BJ.of_below (S:=fun _=>False) hb) (fun f=>f) (fun _ _ f=>f),BJ.of_below hb,fun i _=>hb.cell (p:=⟨P,i,none⟩) h.lt,fun i=>by unfold World.frozen?;rw[hb.block P h.lt],.inl rfl⟩
theorem BV.put {w wa w1:World} {P k B c c':Nat} {a a':Option Addr} {xs ys:List Int} (h:BI w P k B a c xs) (hb:Below w.heap.size w wa) (hr:A6 AW w1 B (.slice a' ys.length c') ys) (hg:wa.grownBy w1 (oB a)) (ho:oB a'=oB a\/∃j,oB a'=some j/\w.heap.size<=j):BV w (w1.setCell ⟨P,k,none⟩ (.slice a' ys.length c')) P k B a a' c' ys:=by
 have hP:oB a≠some P:=h.off;have hPa:P<wa.heap.size:=Nat.lt_of_lt_of_le h.lt hb.size;have hblk:w1.heap[P]?=w.heap[P]?:=(hg.block P hPa (fun e=>hP e.symm)).trans (hb.block P h.lt);have hP1:P<w1.heap.size:=Nat.lt_of_lt_of_le hPa hg.size;have hc1:∀i,w1.cell? ⟨P,i,none⟩=w.cell? ⟨P,i,none⟩:=fun i=>by unfold World.cell?;rw[hblk]
 have hf1:∀i,w1.frozen? ⟨P,i,none⟩=w.frozen? ⟨P,i,none⟩:=fun i=>by unfold World.frozen?;rw[hblk]
 have hT:BJ (fun j=>j=P\/oB a=some j) w w1:=⟨hg.os.trans hb.os,hg.tape.trans hb.tape,hg.output.trans hb.output,Nat.le_trans hb.size hg.size,fun i hi hn=>(hg.block i (Nat.lt_of_lt_of_le hi hb.size) (fun e=>hn (.inr e.symm))).trans (hb.block i hi)⟩;have hoP:oB a'≠some P:=by
  rcases ho with e|⟨j,e,hj⟩
  ·rw[e];exact hP
  ·rw[e];intro e2;simp only[Option.some.injEq] at e2;have:=h.lt;omega
 refine⟨⟨by simpa using hP1,?_,by simp[hf1,h.fz],hr.tch (S:=fun j=>j=P) ⟨rfl,rfl,rfl,by simp,fun i hi hn=>Below.heap_setCell _ _ _ _ (fun e=>hn e)⟩ (fun j e e2=>hoP (by rw[e,e2])),hoP,by have:=h.base;have:=hb.size;have:=hg.size;simp;omega⟩,hT.set _ _ (.inl rfl),fun i hi=>?_,fun i=>by simp[hf1],ho⟩
 ·exact World.cell?_setCell_same _ _ _ (by rw[hc1,h.cell])
 ·rw[<- hc1];exact World.cell?_setCell_other _ _ _ _ (fun e=>hi (by simp only[Addr.mk.injEq,true_and,and_true] at e;exact e.symm))
set_option maxHeartbeats 1000000 in
theorem NO (P k B c:Nat) (a:Option Addr) (xs:List Int) (e0:Int) (w:World) (hs:Bx xs) (hn:xs.length<=100000) (h:BI w P k B a c xs) : Calls Tryz.prog 142 #[.pointer (some ⟨P,k,none⟩),.int .i64 e0] w fun r w'=>r=.returned (.tuple #[])/\∃a' c',BV w w' P k B a a' c' (K7 xs e0):=by
 have hb:=JX a c B xs e0 w hn hs h.row;have c0:=h.cell;have hlt:=h.lt;have f0:=h.fz;have HS:Hid (BI w P k B a c xs):=h;cases hf:D3 xs e0<;>rw[hf] at hb
 ·have HL:Hid (K7 xs e0=Eo xs (Bl xs e0) e0):=A5 <| by unfold K7;rw[hf];rfl
  clear hs h hf;go_enter Tryz.func142,Tryz.ntmps142
  go_wp2_with fail
  refine hb.mono ?_;rintro e w1 ⟨rfl,hb1,hp⟩;have hins:∀w2,Below w.heap.size w w2->Calls Tryz.prog 182 #[.slice a xs.length c,.int .i64 (Bl xs e0:Nat),.slice (some ⟨w2.heap.size,0,none⟩) 1 1] (w2.alloc (.cells #[.int .i64 e0] 3)) fun r w'=>∃a' c',r=.returned (.slice a' (Eo xs (Bl xs e0) e0).length c')/\A6 AW w' B (.slice a' (Eo xs (Bl xs e0) e0).length c') (Eo xs (Bl xs e0) e0)/\(w2.alloc (.cells #[.int .i64 e0] 3)).grownBy w' (oB a)/\(oB a'=oB a\/oB a'=some (w2.heap.size+1)):=fun w2 hb2=>by
   have hr:=HS.out.row.below (hb2.trans (Ax (w:=w2) (o:=.cells #[.int .i64 e0] 3) |>.mono hb2.size));have ho:oB a≠some w2.heap.size:=fun ee=>by
    have:=(HS.out.row.own _ (by rw[CS];exact ee)).2;have:=hb2.size;omega
   have h1:=Vu a c B (Bl xs e0) w2.heap.size xs e0 (w2.alloc (.cells #[.int .i64 e0] 3)) hp (by have:=HS.out.base;have:=hb2.size;simp;omega) hn ho (heap_alloc_new w2 _) hr;refine h1.mono ?_;rintro r w' ⟨a',c',e1,e2,e3,e4⟩;exact⟨a',c',e1,e2,e3,by simpa using e4⟩
  have hi:=hins w1 hb1;have c1:=(hb1.cell (p:=⟨P,k,none⟩) hlt).trans c0;have lt1:P<w1.heap.size:=Nat.lt_of_lt_of_le hlt hb1.size;have HB:Hid (Below w.heap.size w w1):=hb1;have HF:Hid (w1.frozen? ⟨P,k,none⟩=false):=A5 <| by unfold World.frozen? at f0 ⊢;rw[hb1.block P hlt];exact f0
  generalize Eo xs (Bl xs e0) e0=YS at hi HL;clear hins hb1 hb c0 f0;go_wp2_with fail
  refine hi.mono ?_;rintro e w2 ⟨a',c',rfl,hr2,hg2,ho2⟩;have hba:Below w.heap.size w (w1.alloc (.cells #[.int .i64 e0] 3)):=HB.out.trans (Ax.mono HB.out.size);have hblk:w2.heap[P]?=w1.heap[P]?:=(hg2.block P (by simp;omega) (fun ee=>HS.out.off ee.symm)).trans (Below.heap_alloc w1 _ _ lt1);have c2:w2.cell? ⟨P,k,none⟩=some (.slice a xs.length c):=by unfold World.cell? at c1 ⊢;rw[hblk];exact c1
  have f2:w2.frozen? ⟨P,k,none⟩=false:=by have:=HF.out;unfold World.frozen? at this ⊢;rw[hblk];exact this
  have lt2:P<w2.heap.size:=Nat.lt_of_lt_of_le (by simp;omega) hg2.size;have HST:Hid (BV w (w2.setCell ⟨P,k,none⟩ (.slice a' YS.length c')) P k B a a' c' YS):=BV.put HS.out hba hr2 hg2 (ho2.imp id (fun ee=>⟨_,ee,by have:=HB.out.size;omega⟩));clear hba hblk hi hr2 hg2 ho2 c1;go_wp2_with fail
  refine bodyPost_end (v:=.tuple #[]) (by simp[results,Tryz.results142,go_sem]) rfl ?_;exact⟨rfl,a',c',by rw[HL.out];exact HST.out⟩
 ·have HL:Hid (K7 xs e0=xs):=A5 <| by unfold K7;rw[hf];rfl
  clear hs h hf;go_enter Tryz.func142,Tryz.ntmps142
  go_wp2_with fail
  refine hb.mono ?_;rintro e w1 ⟨rfl,hb1,hp⟩;clear hb;go_wp2_with fail
  refine bodyPost_end (v:=.tuple #[]) (by simp[results,Tryz.results142,go_sem]) rfl ?_;exact⟨rfl,a,c,by rw[HL.out];exact BV.same HS.out hb1⟩
set_option maxHeartbeats 1000000 in
theorem Pb (P k B c:Nat) (a:Option Addr) (xs:List Int) (e0:Int) (w:World) (hs:Bx xs) (hn:xs.length<=100000) (h:BI w P k B a c xs) : Calls Tryz.prog 144 #[.pointer (some ⟨P,k,none⟩),.int .i64 e0] w fun r w'=>r=.returned (.tuple #[])/\∃a' c',BV w w' P k B a a' c' (Lv xs e0):=by
 have hb:=JX a c B xs e0 w hn hs h.row;have c0:=h.cell;have hlt:=h.lt;have f0:=h.fz;have HS:Hid (BI w P k B a c xs):=h;cases hf:D3 xs e0<;>rw[hf] at hb
 ·have HL:Hid (Lv xs e0=xs):=A5 <| by unfold Lv;rw[hf];rfl
  clear hs h hf;go_enter Tryz.func144,Tryz.ntmps144
  go_wp2_with fail
  refine hb.mono ?_;rintro e w1 ⟨rfl,hb1,hp⟩;clear hb;go_wp2_with fail
  refine bodyPost_end (v:=.tuple #[]) (by simp[results,Tryz.results144,go_sem]) rfl ?_;exact⟨rfl,a,c,by rw[HL.out];exact BV.same HS.out hb1⟩
 ·have HL:Hid (Lv xs e0=F6 xs (Bl xs e0)):=A5 <| by unfold Lv;rw[hf];rfl
  have hp0:Bl xs e0<xs.length:=by
   unfold D3 at hf;exact(of_decide_eq_true hf).1
  clear hs h hf;go_enter Tryz.func144,Tryz.ntmps144
  go_wp2_with fail
  refine hb.mono ?_;rintro e w1 ⟨rfl,hb1,hp⟩;have hi:=VH a c B (Bl xs e0) xs w1 hp0 (HS.out.row.below hb1);have c1:=(hb1.cell (p:=⟨P,k,none⟩) hlt).trans c0;have lt1:P<w1.heap.size:=Nat.lt_of_lt_of_le hlt hb1.size;have HB:Hid (Below w.heap.size w w1):=hb1;have HF:Hid (w1.frozen? ⟨P,k,none⟩=false):=A5 <| by unfold World.frozen? at f0 ⊢;rw[hb1.block P hlt];exact f0
  generalize F6 xs (Bl xs e0)=YS at hi HL;clear hb1 hb c0 f0;go_wp2_with fail
  refine hi.mono ?_;rintro e w2 ⟨rfl,hr2,hg2⟩;have hblk:w2.heap[P]?=w1.heap[P]?:=hg2.block P lt1 (fun ee=>HS.out.off ee.symm);have c2:w2.cell? ⟨P,k,none⟩=some (.slice a xs.length c):=by unfold World.cell? at c1 ⊢;rw[hblk];exact c1
  have f2:w2.frozen? ⟨P,k,none⟩=false:=by have:=HF.out;unfold World.frozen? at this ⊢;rw[hblk];exact this
  have lt2:P<w2.heap.size:=Nat.lt_of_lt_of_le lt1 hg2.size;have HST:Hid (BV w (w2.setCell ⟨P,k,none⟩ (.slice a YS.length c)) P k B a a c YS):=BV.put HS.out HB.out hr2 hg2 (.inl rfl);clear hblk hi hr2 hg2 c1;go_wp2_with fail
  refine bodyPost_end (v:=.tuple #[]) (by simp[results,Tryz.results144,go_sem]) rfl ?_;exact⟨rfl,a,c,by rw[HL.out];exact HST.out⟩
set_option maxHeartbeats 1000000 in
theorem ST (P k g o c n:Nat) (x:Int) (w:World) (hlt:P<w.heap.size) (hg:g<w.heap.size) (c0:w.cell? ⟨P,k,none⟩=some (.slice (some ⟨g,o,none⟩) (n+1) c)) (f0:w.frozen? ⟨P,k,none⟩=false) (x0:w.cell? ⟨g,o,none⟩=some (.int .i64 x)) (hc:n+1<=c) : Calls Tryz.prog 145 #[.pointer (some ⟨P,k,none⟩)] w fun r w'=>r=.returned (.int .i64 x)/\∃A,(0<n->A=some ⟨g,o+1,none⟩)/\w'=w.setCell ⟨P,k,none⟩ (.slice A n (c-1)):=by
 obtain⟨AD,hAD⟩:∃AD:Addr,(if c=1 then some (⟨g,o,none⟩:Addr) else some ⟨g,o+1,none⟩)=some AD:=by
  by_cases h:c=1
  ·exact⟨_,if_pos h⟩
  ·exact⟨_,if_neg h⟩
 have HD:Hid (0<n->some AD=some (⟨g,o+1,none⟩:Addr)):=fun hn=>by rw[<- hAD,if_neg (by omega)]
 have L1:(0:Int)<(n:Int)+1:=by omega
 have L2:(1:Int)<=(n:Int)+1:=by omega
 go_enter Tryz.func145,Tryz.ntmps145
 go_wp2_with fail
 go_ret;exact⟨rfl,some AD,HD.out,rfl⟩
end Go.Proofs.YtnmhkgmmpkjjeaaGreat
namespace Go.Proofs.YtnmhkgmmpkjjeaaGreat
set_option linter.unusedVariables false
def Mg (zs:List Int) (o:BP):List Int:=if o.kind=1 then zs.set o.a.toNat o.word else zs
def EQ (zs:List Int) (l:List BP):List Int:=l.foldl Mg zs
theorem Rb (zs:List Int) (o:BP):(Mg zs o).length=zs.length:=by unfold Mg;split<;>simp
theorem E7 (l:List BP):∀zs:List Int,(EQ zs l).length=zs.length:=by
 induction l with
 | nil=>intro zs;rfl
 | cons o r ih =>
  intro zs;show (EQ (Mg zs o) r).length=zs.length;rw[ih,Rb]
theorem PI (zs:List Int) (l:List BP) (i:Nat) (hi:i<l.length):EQ zs (l.take (i+1))=Mg (EQ zs (l.take i)) (AI Ba l i):=by
 unfold EQ;rw[CV Ba l i hi,List.foldl_append];rfl
end Go.Proofs.YtnmhkgmmpkjjeaaGreat
