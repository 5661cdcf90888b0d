import Derived.Test.YtnmhkgmmpkjjeaaGreatK46
import Derived.Lib.SmallJoins
namespace Go.Proofs.YtnmhkgmmpkjjeaaGreat
set_option linter.unusedVariables false
set_option maxRecDepth 100000
theorem B6.wd1 {zs:List Int} {n:Nat} {H:Nat->Ht} (h:B6 zs n H) {p:Nat} (hp:p<4096) (hm:p%256=0):GI zs (AE (AA H (A8 zs)) 1 (p-p%(256*16):Nat)*16+(p/256%16:Nat))=DV zs p:=by
 have hr:=(RD H (by have:=h.pos;omega) h.plc).root;rw[show p-p%(256*16)=0 by omega,show ((0:Nat):Int)=0 from rfl,hr];unfold GI DV;rw[EW zs 0 (p/256) _ (by omega) (by omega)]
theorem B6.wd2 {zs:List Int} {n:Nat} {H:Nat->Ht} (h:B6 zs n H) {p:Nat} (hp:p<4096) (hf:0<=AE (AA H (A8 zs)) 2 (p-p%(16*16):Nat)) : At n 1 (DV zs p)=true/\GI zs (AE (AA H (A8 zs)) 2 (p-p%(16*16):Nat)*16+(p/16%16:Nat))=D6 zs p:=by
 have hk:=h.kp 2 (p-p%(16*16));rw[show ((2:Nat):Int)=2 from rfl] at hk;have hw:DV zs (p-p%(16*16))=DV zs p:=by unfold DV;rw[show (p-p%(16*16))/256=p/256 by omega]
 split at hk
 ·rw[hk] at hf ⊢;have o:=h.o2 (p-p%(16*16)) (by omega) (by omega);have hl:=o.2 hf;have e:=o.1 hl;rw[hw] at hl e;refine⟨hl,?_⟩;rw[e] at hf ⊢;unfold GI D6;exact EW zs _ (p/16%16) _ hf rfl
 ·omega
theorem B6.wd3 {zs:List Int} {n:Nat} {H:Nat->Ht} (h:B6 zs n H) {p:Nat} (hp:p<4096) (hf:0<=AE (AA H (A8 zs)) 3 (p-p%(1*16):Nat)) : At n 1 (DV zs p)=true/\At n 2 (D6 zs p)=true/\GI zs (AE (AA H (A8 zs)) 3 (p-p%(1*16):Nat)*16+(p/1%16:Nat))=Ii zs p:=by
 have hk:=h.kp 3 (p-p%(1*16));rw[show ((3:Nat):Int)=3 from rfl] at hk;have hw:DV zs (p-p%(1*16))=DV zs p:=by unfold DV;rw[show (p-p%(1*16))/256=p/256 by omega]
 have hw2:D6 zs (p-p%(1*16))=D6 zs p:=by unfold D6;rw[hw,show (p-p%(1*16))/16%16=p/16%16 by omega]
 split at hk
 ·rw[hk] at hf ⊢;have o:=h.o3 (p-p%(1*16)) (by omega) (by omega);obtain⟨hl,hl2⟩:=o.2 hf;have e:=o.1 hl hl2;rw[hw] at hl;rw[hw2] at hl2 e;refine⟨hl,hl2,?_⟩;rw[e] at hf ⊢;unfold GI Ii;exact EW zs _ (p%16) _ hf (by omega)
 ·omega
def FY (zs:List Int) (H:Nat->Ht) (p lv:Nat):Nat:=(ET (AA H (A8 zs)) p lv).countP (GZ zs H (AU H (A8 zs)))+(ET (AA H (A8 zs)) p lv).countP (Lt zs H (AU H (A8 zs)))
theorem NG (zs:List Int) (H:Nat->Ht) (p lv:Nat):FY zs H p lv=if p%Ao lv=0/\0<=AE (AA H (A8 zs)) lv (p-p%(Ao lv*16):Nat) then PP zs H ⟨lv,p,AE (AA H (A8 zs)) lv (p-p%(Ao lv*16):Nat)*16+(p/Ao lv%16:Nat)⟩ else 0:=by
 unfold FY ET;split
 ·unfold PP bn;simp[List.countP_cons]
 ·rfl
theorem B6.page {zs:List Int} {n:Nat} {H:Nat->Ht} (h:B6 zs n H) {p:Nat} (hp:p<4096):FY zs H p 1+(FY zs H p 2+FY zs H p 3)<=2*bn (Vp zs H p)+(tB zs H 2 p+tB zs H 3 p):=by
 have h1:FY zs H p 1<=tB zs H 2 p:=by
  rw[NG];split
  ·rename_i hc;have hm:p%256=0:=hc.1;exact(h.cost1 hp hm (h.wd1 hp hm)).1
  ·exact Nat.zero_le _
 have h3:FY zs H p 3<=2*bn (Vp zs H p)/\(p%16=0->AE (AA H (A8 zs)) 3 p<0->FY zs H p 3=0):=by
  rw[NG];refine⟨?_,fun hm hf=>?_⟩
  ·split
   ·rename_i hc;obtain⟨hl,hl2,hw⟩:=h.wd3 hp hc.2;by_cases hs:BT zs p=Lj (H p)
    ·have e:=(h.cost3 hp hl hl2 hw hs).1;rw[show ((3:Nat):Int)=3 from rfl,show Ao 3=1 from rfl,e];exact Nat.zero_le _
    ·have:=Mp hs;have:=QC zs H ⟨(3:Nat),p,AE (AA H (A8 zs)) (3:Nat) (p-p%(Ao 3*16):Nat)*16+(p/Ao 3%16:Nat)⟩;omega
   ·exact Nat.zero_le _
  ·rw[if_neg];rintro⟨_,h0⟩;(have e:p-p%(Ao 3*16)=p:=by show p-p%(1*16)=p;omega);rw[e,show ((3:Nat):Int)=3 from rfl] at h0;omega
 have h2:FY zs H p 2=0\/(p%16=0/\AE (AA H (A8 zs)) 3 p<0/\FY zs H p 2<=2*bn (Vp zs H p)+tB zs H 3 p):=by
  rw[NG];split
  ·rename_i hc;have hm:p%16=0:=hc.1;obtain⟨hl,hw⟩:=h.wd2 hp hc.2;rcases h.cost2 hp hm hl hw with e|⟨e1,e2⟩
   ·exact .inl e
   ·exact .inr ⟨hm,e1,e2⟩
  ·exact .inl rfl
 rcases h2 with e|⟨a,b,c⟩
 ·have:=h3.1;omega
 ·have:=h3.2 a b;omega
def sm (f:Nat->Nat):Nat->Nat
 | 0=>0
 | k+1=>sm f k+f k
theorem X9 {f g:Nat->Nat}:∀k,(∀p,p<k->f p<=g p)->sm f k<=sm g k
 | 0,_=>Nat.le_refl _
 | k+1,h=>by
  have h1:=X9 k (fun p hp=>h p (by omega));have h2:=h k (by omega);show sm f k+f k<=sm g k+g k;omega
theorem Ux (f g:Nat->Nat):∀k,sm (fun p=>f p+g p) k=sm f k+sm g k
 | 0=>rfl
 | k+1=>by
  have:=Ux f g k;show sm (fun p=>f p+g p) k+(f k+g k)=(sm f k+f k)+(sm g k+g k);omega
theorem Ql {f g g2:Nat->Nat} (k:Nat) (h:∀p,p<k->f p<=g p+g2 p):sm f k<=sm g k+sm g2 k:=by
 rw[<- Ux];exact X9 k h
theorem Ta (f:Nat->Nat) (c:Nat):∀k,sm (fun p=>c*f p) k=c*sm f k
 | 0=>rfl
 | k+1=>by
  have:=Ta f c k;show sm (fun p=>c*f p) k+c*f k=c*(sm f k+f k);rw[this,Nat.mul_add]
theorem Rp:∀k,sm (fun _=>0) k=0
 | 0=>rfl
 | k+1=>by show sm (fun _=>0) k+0=0;rw[Rp k]
theorem UG (a:Int):∀k:Nat,sm (fun p=>bn (decide (a=(p:Int)))) k<=1/\((k:Int)<=a->sm (fun p=>bn (decide (a=(p:Int)))) k=0)
 | 0=>⟨Nat.zero_le _,fun _=>rfl⟩
 | k+1=>by
  obtain⟨h1,h2⟩:=UG a k;show sm _ k+bn (decide (a=(k:Int)))<=1/\(((k+1:Nat):Int)<=a->sm _ k+bn (decide (a=(k:Int)))=0);by_cases e:a=(k:Int)
  ·have:=h2 (by omega);rw[decide_eq_true e];exact⟨by rw[this];decide,fun hh=>by omega⟩
  ·rw[decide_eq_false e];exact⟨by show _+0<=1;omega,fun hh=>by rw[h2 (by omega)];rfl⟩
theorem QG:∀(F:List P3) (N:Nat),sm (fun p=>bn (F.any (AJ 2 (p:Nat)))+bn (F.any (AJ 3 (p:Nat)))) N<=F.length
 | [],N=>by
  have:(fun p:Nat=>bn (([]:List P3).any (AJ 2 (p:Nat)))+bn (([]:List P3).any (AJ 3 (p:Nat))))=fun _=>0:=rfl
  rw[this,Rp];exact Nat.zero_le _
 | q :: F,N=>by
  have ih:=QG F N;have h1:sm (fun p=>bn ((q :: F).any (AJ 2 (p:Nat)))+bn ((q :: F).any (AJ 3 (p:Nat)))) N<=sm (fun p=>bn (decide (q.pg=(p:Int)))) N+sm (fun p=>bn (F.any (AJ 2 (p:Nat)))+bn (F.any (AJ 3 (p:Nat)))) N:=by
   refine Ql N (fun p hp=>?_);rw[List.any_cons,List.any_cons];by_cases e:q.pg=(p:Int)
   ·rw[decide_eq_true e];by_cases e2:q.lv=2
    ·have a:AJ 2 (p:Nat) q=true:=decide_eq_true ⟨e2,e⟩;have b:AJ 3 (p:Nat) q=false:=decide_eq_false (fun hh=>by have:=hh.1;omega);rw[a,b,Bool.true_or,Bool.false_or];have:=KL (F.any (AJ 2 (p:Nat)));show 1+_<=1+_;omega
    ·have a:AJ 2 (p:Nat) q=false:=decide_eq_false (fun hh=>e2 hh.1);rw[a,Bool.false_or];have:=KL (AJ 3 (p:Nat) q||F.any (AJ 3 (p:Nat)));show _<=1+_;omega
   ·have a:AJ 2 (p:Nat) q=false:=decide_eq_false (fun hh=>e hh.2);have b:AJ 3 (p:Nat) q=false:=decide_eq_false (fun hh=>e hh.2);rw[a,b,Bool.false_or,Bool.false_or];omega
  have h2:=(UG q.pg N).1;rw[List.length_cons];omega
def wT (a b:List P3):Nat:=(a.filter fun q=>!b.any (AJ q.lv q.pg)).length
def Yp (zs:List Int) (H:Nat->Ht) (k:Nat):Nat:=sm (fun p=>bn (Vp zs H p)) k
theorem Oj (zs:List Int) (H:Nat->Ht):∀k,(Bc (AA H (A8 zs)) k).countP (GZ zs H (AU H (A8 zs)))+(Bc (AA H (A8 zs)) k).countP (Lt zs H (AU H (A8 zs)))=sm (fun p=>FY zs H p 1+(FY zs H p 2+FY zs H p 3)) k
 | 0=>by simp[Bc,sm]
 | k+1=>by
  have ih:=Oj zs H k;rw[JS,List.countP_append,List.countP_append];unfold Lw;rw[List.countP_append,List.countP_append,List.countP_append,List.countP_append];show _=sm _ k+(FY zs H k 1+(FY zs H k 2+FY zs H k 3));rw[<- ih];unfold FY;omega
theorem B6.seats {zs:List Int} {n:Nat} {H:Nat->Ht} (h:B6 zs n H) {now:List P3} (hn:∀q,q∈now↔q∈AU H (A8 zs)):sm (fun p=>tB zs H 2 p+tB zs H 3 p) 4096<=wT now (A8 zs)+wT (A8 zs) now:=by
 have hold:∀(l p:Nat),(A8 zs).any (AJ l p)=true->0<=AE (A8 zs) l p:=fun l p ha=>by
  obtain⟨q,hq,hs⟩:=List.any_eq_true.1 ha;have e:=of_decide_eq_true hs;have h1:=Cg h.plc.sorted hq;have h2:=(h.plc.fr (by have:=h.pos;omega) hq).1;rw[e.1,e.2] at h1;omega
 have hnow:∀(l p:Nat),now.any (AJ l p)=true->0<=AE (AU H (A8 zs)) l p:=fun l p ha=>by
  obtain⟨q,hq,hs⟩:=List.any_eq_true.1 ha;have e:=of_decide_eq_true hs;have hm:=(hn q).1 hq;have h1:=h.all.uniq q hm;have h2:=(h.all.fr q hm).1;rw[e.1,e.2] at h1;omega
 have key1:∀l p:Nat,bn (Nb zs H l p&&!NQ zs l p)<=bn ((now.filter fun q=>!(A8 zs).any (AJ q.lv q.pg)).any (AJ l p)):=fun l p=>by
  cases hc:(Nb zs H l p&&!NQ zs l p)
  ·exact Nat.zero_le _
  ·rw[Bool.and_eq_true] at hc;obtain⟨q,hq,e1,e2,_⟩:=CI (of_decide_eq_true hc.1);have ho:¬0<=AE (A8 zs) l p:=fun hh=>by
    have:=hc.2;unfold NQ at this;rw[decide_eq_true hh] at this;cases this
   rw[show (now.filter fun q=>!(A8 zs).any (AJ q.lv q.pg)).any (AJ l p)=true from List.any_eq_true.2 ⟨q,List.mem_filter.2 ⟨(hn q).2 hq,by
    rw[e1,e2]
    cases hx:(A8 zs).any (AJ (l:Int) (p:Int))
    ·rfl
    ·exact absurd (hold l p hx) ho⟩,decide_eq_true ⟨e1,e2⟩⟩]
   exact Nat.le_refl _
 have key2:∀l p:Nat,bn (NQ zs l p&&!Nb zs H l p)<=bn (((A8 zs).filter fun q=>!now.any (AJ q.lv q.pg)).any (AJ l p)):=fun l p=>by
  cases hc:(NQ zs l p&&!Nb zs H l p)
  ·exact Nat.zero_le _
  ·rw[Bool.and_eq_true] at hc;obtain⟨q,hq,e1,e2,_⟩:=CI (of_decide_eq_true hc.1);have ho:¬0<=AE (AU H (A8 zs)) l p:=fun hh=>by
    have:=hc.2;unfold Nb at this;rw[decide_eq_true hh] at this;cases this
   rw[show ((A8 zs).filter fun q=>!now.any (AJ q.lv q.pg)).any (AJ l p)=true from List.any_eq_true.2 ⟨q,List.mem_filter.2 ⟨hq,by
    rw[e1,e2]
    cases hx:now.any (AJ (l:Int) (p:Int))
    ·rfl
    ·exact absurd (hnow l p hx) ho⟩,decide_eq_true ⟨e1,e2⟩⟩]
   exact Nat.le_refl _
 have a:=QG (now.filter fun q=>!(A8 zs).any (AJ q.lv q.pg)) 4096;have b:=QG ((A8 zs).filter fun q=>!now.any (AJ q.lv q.pg)) 4096;have c:sm (fun p=>tB zs H 2 p+tB zs H 3 p) 4096<=sm (fun p=>bn ((now.filter fun q=>!(A8 zs).any (AJ q.lv q.pg)).any (AJ 2 (p:Nat)))+bn ((now.filter fun q=>!(A8 zs).any (AJ q.lv q.pg)).any (AJ 3 (p:Nat)))) 4096+sm (fun p=>bn (((A8 zs).filter fun q=>!now.any (AJ q.lv q.pg)).any (AJ 2 (p:Nat)))+bn (((A8 zs).filter fun q=>!now.any (AJ q.lv q.pg)).any (AJ 3 (p:Nat)))) 4096:=by
  refine Ql _ (fun p hp=>?_);have k1:=key1 2 p;have k2:=key1 3 p;have k3:=key2 2 p;have k4:=key2 3 p;rw[show ((2:Nat):Int)=2 from rfl] at k1 k3;rw[show ((3:Nat):Int)=3 from rfl] at k2 k4;unfold tB;omega
 unfold wT;omega
theorem B6.fresh {zs:List Int} {n:Nat} {H:Nat->Ht} (h:B6 zs n H) {now:List P3} (hn:∀q,q∈now↔q∈AU H (A8 zs)):(DD H (A8 zs)).length<=wT now (A8 zs):=by
 have hd:(DD H (A8 zs)).Pairwise (fun a b=>a.fr≠b.fr):=(List.pairwise_append.1 h.all.dis).2.1;have hfm:=Cx (H:=H) (by have:=h.pos;omega) h.plc h.room (AC H 256).length (Nat.le_refl _)
 have hl:=NP ((DD H (A8 zs)).map P3.fr) ((now.filter fun q=>!(A8 zs).any (AJ q.lv q.pg)).map P3.fr) (List.pairwise_map.2 hd) (fun x hx=>by
  obtain⟨q,hq,rfl⟩:=List.mem_map.1 hx
  refine List.mem_map.2 ⟨q,List.mem_filter.2 ⟨(hn q).2 (List.mem_append_right _ hq),?_⟩,rfl⟩
  obtain⟨j,_,hj2,e1,e2,hneg,_⟩:=hfm q hq
  cases hx:(A8 zs).any (AJ q.lv q.pg)
  ·rfl
  ·exfalso
   obtain⟨q',hq',hs⟩:=List.any_eq_true.1 hx
   have e:=of_decide_eq_true hs
   have h1:=Cg h.plc.sorted hq'
   have h2:=(h.plc.fr (by have:=h.pos;omega) hq').1
   rw[e.1,e.2] at h1
   have hk:=h.kp ((AC H 256)[j]).1 ((AC H 256)[j]).2
   rw[if_pos (Bo (List.getElem_mem hj2)).2.2.2.1,<- e1,<- e2] at hk
   omega)
 rw[List.length_map,List.length_map] at hl;exact hl
def nK (k:Int) (l:List BP):Nat:=l.countP fun o=>decide (o.kind=k)
theorem Eu (k:Int) (l m:List BP):nK k (l++m)=nK k l+nK k m:=by unfold nK;exact List.countP_append
theorem FC (l:List BP):nK 1 (BG l)=nK 1 l/\nK 2 (BG l)<=nK 2 l+1:=by
 unfold BG;split
 ·rename_i h;rw[List.isEmpty_iff] at h;rw[h];exact⟨rfl,Nat.zero_le _⟩
 ·rw[Eu,Eu];exact⟨rfl,Nat.le_refl _⟩
theorem QV {k:Int} {l:List BP} (h:∀o∈l,o.kind=k):nK k l=l.length:=by
 unfold nK;rw[List.countP_eq_length];exact fun o ho=>decide_eq_true (h o ho)
theorem Fx {k:Int} {l:List BP} (h:∀o∈l,o.kind≠k):nK k l=0:=by
 unfold nK;rw[List.countP_eq_zero];exact fun o ho hh=>h o ho (of_decide_eq_true hh)
theorem Uy (H:Nat->Ht) (all:List P3):∀fresh:List P3,(AM H all fresh).length=16*fresh.length
 | []=>rfl
 | t :: r=>by
  have:=Uy H all r;unfold AM at this ⊢;rw[List.flatMap_cons,List.length_append,this,List.length_cons];unfold Ak;rw[List.length_map,List.length_range];omega
theorem Uf (zs:List Int) (n:Nat) (H:Nat->Ht) (ps:List P3) : nK 1 (C8 zs n H ps)=(CE H ps).countP (GZ zs H (AU H ps))+(CE H ps).countP (Lt zs H (AU H ps))+16*(DD H ps).length/\nK 2 (C8 zs n H ps)<=4:=by
 have b1:∀o∈AX zs H (AU H ps) (CE H ps),o.kind=1:=fun o ho=>by unfold AX at ho;obtain⟨e,_,rfl⟩:=List.mem_map.1 ho;rfl
 have b2:∀o∈BB (Ez zs H (AU H ps) (CE H ps)),o.kind=3:=fun o ho=>by unfold BB at ho;obtain⟨e,_,rfl⟩:=List.mem_map.1 ho;rfl
 have b3:∀o∈Al n (Cr H ps),o.kind=4:=fun o ho=>by unfold Al at ho;obtain⟨e,_,rfl⟩:=List.mem_map.1 ho;rfl
 have b4:∀o∈AM H (AU H ps) (DD H ps),o.kind=1:=fun o ho=>by
  unfold AM at ho;obtain⟨t,_,ho⟩:=List.mem_flatMap.1 ho;unfold Ak at ho;obtain⟨e,_,rfl⟩:=List.mem_map.1 ho;rfl
 have b5:∀o∈Af zs H (AU H ps) (CE H ps),o.kind=1:=fun o ho=>by unfold Af at ho;obtain⟨e,_,rfl⟩:=List.mem_map.1 ho;rfl
 unfold C8;rw[Eu,Eu,Eu,Eu,Eu,Eu,Eu,Eu,(FC _).1,(FC _).1,(FC _).1,(FC _).1];rw[QV b1,Fx (l:=BB _) (k:=1) (fun o ho=>by rw[b2 o ho];decide),Fx (l:=Al _ _) (k:=1) (fun o ho=>by rw[b3 o ho];decide),QV b4,QV b5,Uy];rw[Fx (l:=Al _ _) (k:=2) (fun o ho=>by rw[b3 o ho];decide)];have c1:=(FC (AX zs H (AU H ps) (CE H ps))).2;have c2:=(FC (BB (Ez zs H (AU H ps) (CE H ps)))).2;have c4:=(FC (AM H (AU H ps) (DD H ps))).2;have c5:=(FC (Af zs H (AU H ps) (CE H ps))).2;rw[Fx (l:=AX zs H (AU H ps) (CE H ps)) (k:=2) (fun o ho=>by rw[b1 o ho];decide)] at c1;rw[Fx (l:=BB (Ez zs H (AU H ps) (CE H ps))) (k:=2) (fun o ho=>by rw[b2 o ho];decide)] at c2;rw[Fx (l:=AM H (AU H ps) (DD H ps)) (k:=2) (fun o ho=>by rw[b4 o ho];decide)] at c4;rw[Fx (l:=Af zs H (AU H ps) (CE H ps)) (k:=2) (fun o ho=>by rw[b5 o ho];decide)] at c5;have d1:(AX zs H (AU H ps) (CE H ps)).length=(CE H ps).countP (GZ zs H (AU H ps)):=by unfold AX;rw[List.length_map,List.countP_eq_length_filter]
 have d5:(Af zs H (AU H ps) (CE H ps)).length=(CE H ps).countP (Lt zs H (AU H ps)):=by unfold Af;rw[List.length_map,List.countP_eq_length_filter]
 rw[d1,d5];omega
theorem B6.cost {zs:List Int} {n:Nat} {H:Nat->Ht} (h:B6 zs n H) {now:List P3} (hn:∀q,q∈now↔q∈AU H (A8 zs)) : nK 1 (C8 zs n H (A8 zs))<=2*Yp zs H 4096+(wT now (A8 zs)+wT (A8 zs) now)+16*wT now (A8 zs):=by
 rw[(Uf zs n H (A8 zs)).1];have h1:=h.seats hn;have h2:=h.fresh hn;have h3:=Oj zs H 4096;have h4:sm (fun p=>FY zs H p 1+(FY zs H p 2+FY zs H p 3)) 4096<=sm (fun p=>2*bn (Vp zs H p)) 4096+sm (fun p=>tB zs H 2 p+tB zs H 3 p) 4096:=Ql _ (fun p hp=>h.page hp);rw[Ta] at h4;unfold Yp;unfold CE;omega
theorem B6.mark {zs:List Int} {n:Nat} {H:Nat->Ht} (h:B6 zs n H) {p:Nat} (hp:p<4096) (hm:Ez zs H (AU H (A8 zs)) (CE H (A8 zs)) p=true) (hs:BT zs p=Lj (H p)):(H p).k≠1:=by
 unfold Ez at hm;obtain⟨e,he,hb⟩:=List.any_eq_true.1 hm;rw[Bool.and_eq_true] at hb;obtain⟨hb,hc⟩:=hb;have hc:=of_decide_eq_true hc;obtain⟨P,lv,hP,l1,l3,hmod,e1,e2,hf,had⟩:=GR he;obtain⟨elv,epg',ead⟩:=e;dsimp only at e1 e2 had hc;subst e1 e2 had;have hl:lv=1\/lv=2\/lv=3:=by omega
 rcases hl with rfl|rfl|rfl
 ·have hmod':P%256=0:=hmod;have hno:=(h.cost1 hP hmod' (h.wd1 hP hmod')).2 hb;have hcv:CH ((1:Nat):Int)=256:=rfl;rw[hcv] at hc;intro hk
  have:=FF (H:=H) (lv:=2) (p:=P) (k:=p-P) (by show p-P<256;omega) (by
   rw[show P+(p-P)=p by omega]
   unfold hB
   exact decide_eq_true ⟨hk,.inl (by decide)⟩)
  rw[hno] at this;cases this
 ·have hmod':P%16=0:=hmod;obtain⟨hl1,hw⟩:=h.wd2 hP hf;have hcv:CH ((2:Nat):Int)=16:=rfl;rw[hcv] at hc;have a1:DV zs p=DV zs P:=by unfold DV;rw[show p/256=P/256 by omega]
  have a2:D6 zs p=D6 zs P:=by unfold D6;rw[a1,show p/16%16=P/16%16 by omega]
  unfold GZ at hb;obtain⟨hodd,hne⟩:=of_decide_eq_true hb;dsimp only at hodd hne;have hw':GI zs (AE (AA H (A8 zs)) ((2:Nat):Int) (P-P%(Ao 2*16):Nat)*16+(P/Ao 2%16:Nat))=D6 zs P:=hw;rw[hw'] at hodd hne;intro hk;have big:(H p).s=16->(H P).s=16/\(H p).o=(H P).o+(p:Int)%16/\(H p).p=(H P).p:=fun hs16=>by
   have hbg:=(h.lay.big p hp hs16).2;rw[show p-p%16=P by omega] at hbg;have b0:=hbg 0 (by omega);have bp:=hbg (p%16) (by omega);rw[show P+p%16=p by omega] at bp;rw[Nat.add_zero] at b0;refine⟨by rw[b0],?_,by rw[bp]⟩;rw[bp];dsimp only;omega
  rcases h.c2 P hP hl1 with⟨he',_,_⟩|⟨hl2,hcn,h0⟩|⟨hkd,hfl,hcn⟩
  ·omega
  ·have hsm:=h.small hp (by rw[a1];exact hl1) (by rw[a2];exact hl2);rw[hs] at hsm;have hs1:(H p).s=1:=by
    rcases(h.lay.one p hp hk).2.2.2.2 with e|e
    ·exact e
    ·exact absurd e hsm
   have hd:nd H 3 P=true:=FF (H:=H) (lv:=3) (p:=P) (k:=p-P) (by show p-P<16;omega) (by
    rw[show P+(p-P)=p by omega]
    unfold hB
    exact decide_eq_true ⟨hk,.inr hs1⟩)
   have hn3:=h.n3' hP hmod' hd;have hs16:¬(H P).s=16:=fun hh=>by
    have:=KM h.lay P hP hmod' hh;rw[hd] at this;cases this
   refine hne ?_;rw[show ((2:Nat):Int)=2 from rfl,Rx,if_neg hs16,if_neg (by omega),h.keep3 hP hmod' hl1 hl2 hn3];exact hcn
  ·have hwk:BT zs p=⟨1,AQ 2 (D6 zs P)+(p:Int)%16,Ae 2 (D6 zs P),16⟩:=by
    rw[h.walk1 hp (by rw[a1];exact hl1),a2,Kt _ _ _ _ _ hkd]
   rw[hwk] at hs;have e1:(H p).o=AQ 2 (D6 zs P)+(p:Int)%16:=(congrArg DH.out hs).symm;have e2:(H p).p=Ae 2 (D6 zs P):=(congrArg DH.perm hs).symm;have e3:(H p).s=16:=(congrArg DH.size hs).symm;obtain⟨b1,b2,b3⟩:=big e3;refine hne ?_;rw[show ((2:Nat):Int)=2 from rfl,Rx,if_pos b1,show (H P).o=AQ 2 (D6 zs P) by omega,<- b3,e2];exact hcn
 ·have hcv:CH ((3:Nat):Int)=1:=rfl;rw[hcv] at hc;obtain rfl:p=P:=by omega
  obtain⟨hl1,hl2,hw⟩:=h.wd3 hP hf;have:=(h.cost3 hP hl1 hl2 hw hs).2;have hb':GZ zs H (AU H (A8 zs)) ⟨3,(p:Nat),AE (AA H (A8 zs)) 3 (p-p%(1*16):Nat)*16+(p/1%16:Nat)⟩=true:=hb;rw[this] at hb';cases hb'
theorem UK {α:Type} {p:α->Bool}:∀{l:List α} {x:α},x∈l.takeWhile p->p x=true
 | [],x,h=>by cases h
 | y :: r,x,h=>by
  cases hy:p y
  ·rw[List.takeWhile_cons_of_neg (by rw[hy];decide)] at h;cases h
  ·rw[List.takeWhile_cons_of_pos hy] at h;rcases List.mem_cons.1 h with e|e
   ·rw[e];exact hy
   ·exact UK e
theorem Ma {mk:Nat->Bool} {m p k:Nat} (h:k<B9 mk m p):mk (p+k)=true/\p+k<m:=by
 unfold B9 at h;have hk2:k<m-p:=by
  have:=(List.takeWhile_sublist (l:=List.range (m-p)) (fun k=>mk (p+k))).length_le;rw[List.length_range] at this;omega
 have hm:=List.getElem_mem h;have h1:=UK hm;have hg:((List.range (m-p)).takeWhile (fun k=>mk (p+k)))[k]=k:=by
  have:=(List.takeWhile_prefix (l:=List.range (m-p)) (fun k=>mk (p+k))).getElem h;rw[this,List.getElem_range]
 rw[hg] at h1;exact⟨h1,by omega⟩
theorem Vz {mk:Nat->Bool} {m p:Nat} (hs:By mk p=true) (hp:p<m):1<=B9 mk m p:=by
 unfold B9;unfold By at hs;rw[Bool.and_eq_true] at hs;obtain⟨j,hj⟩:∃j,m-p=j+1:=⟨m-p-1,by omega⟩
 rw[hj,List.range_succ_eq_map,List.takeWhile_cons_of_pos (by simpa using hs.1),List.length_cons];omega
theorem B6.tlb {zs:List Int} {n:Nat} {H:Nat->Ht} (h:B6 zs n H) {o:BP} (ho:o∈C8 zs n H (A8 zs)) (hk:o.kind=3) : ∃a b:Nat,o.a=a/\o.b=b/\1<=b/\a+b<=4096/\∀k,k<b->BT zs (a+k:Nat)=Lj (H (a+k))->(H (a+k)).k≠1:=by
 have hseal:∀l:List BP,o∈BG l->o∈l:=fun l hl=>by
  unfold BG at hl;split at hl
  ·cases hl
  ·rcases List.mem_append.1 hl with hl|hl
   ·exact hl
   ·rw[List.mem_singleton] at hl;rw[hl] at hk;cases hk
 unfold C8 at ho;rcases List.mem_append.1 ho with ho|ho
 ·have:=hseal _ ho;unfold AX at this;obtain⟨e,_,rfl⟩:=List.mem_map.1 this;cases hk
 rcases List.mem_append.1 ho with ho|ho
 ·have:=hseal _ ho;unfold BB Bs at this;obtain⟨r,hr,rfl⟩:=List.mem_map.1 this;obtain⟨p,hp,hr⟩:=List.mem_flatMap.1 hr;have hp:=List.mem_range.1 hp;split at hr
  ·rename_i hst;rw[List.mem_singleton] at hr;subst hr;have hpos:=Vz hst hp;refine⟨p,_,rfl,rfl,hpos,?_,fun k hk2 hs=>?_⟩
   ·have:=(Ma (mk:=Ez zs H (AU H (A8 zs)) (CE H (A8 zs))) (m:=4096) (p:=p) (k:=B9 (Ez zs H (AU H (A8 zs)) (CE H (A8 zs))) 4096 p-1) (by omega)).2;omega
   ·obtain⟨m1,m2⟩:=Ma hk2;exact h.mark m2 m1 hs
  ·cases hr
 rcases List.mem_append.1 ho with ho|ho
 ·unfold Al at ho;obtain⟨e,_,rfl⟩:=List.mem_map.1 ho;cases hk
 rcases List.mem_append.1 ho with ho|ho
 ·have:=hseal _ ho;unfold AM at this;obtain⟨t,_,this⟩:=List.mem_flatMap.1 this;unfold Ak at this;obtain⟨e,_,rfl⟩:=List.mem_map.1 this;cases hk
 ·have:=hseal _ ho;unfold Af at this;obtain⟨e,_,rfl⟩:=List.mem_map.1 this;cases hk
end Go.Proofs.YtnmhkgmmpkjjeaaGreat
namespace Go.Proofs.YtnmhkgmmpkjjeaaGreat
open Go.ChangeShapes Go.WideShapes Go.ChangeAt Go.RowKit
set_option linter.unusedVariables false
set_option linter.unusedSimpArgs false
set_option maxRecDepth 100000
attribute [local go_sem ↓] Go.wp_at_zero Go.wp_at_succ
def Jv (a b:List P3) (i:Nat):Nat:=((a.take i).filter fun q=>!b.any (AJ q.lv q.pg)).length
def Hl (b:List P3) (L G:Int) (j:Nat):Bool:=(b.take j).any (AJ L G)
theorem OL (ps:List P3) (i:Nat) (h:i<ps.length):ps.take (i+1)=ps.take i++[Ai ps i]:=by
 rw[List.take_succ_eq_append_getElem h];unfold Ai;rw[List.getD_eq_getElem?_getD,List.getElem?_eq_getElem h];rfl
theorem SO (a b:List P3) (i:Nat) (h:i<a.length):Jv a b (i+1)=Jv a b i+(if b.any (AJ (Ai a i).lv (Ai a i).pg)=true then 0 else 1):=by
 unfold Jv;rw[OL a i h,List.filter_append,List.length_append];congr 1;cases hb:b.any (AJ (Ai a i).lv (Ai a i).pg)
 ·rw[List.filter_cons_of_pos (by rw[hb];rfl)];rfl
 ·rw[List.filter_cons_of_neg (by rw[hb];decide)];rfl
theorem VG (a b:List P3) (i:Nat):Jv a b i<=i:=by
 unfold Jv;refine Nat.le_trans (List.length_filter_le _ _) ?_;rw[List.length_take];omega
theorem Qc (b:List P3) (L G:Int) (j:Nat) (h:j<b.length):Hl b L G (j+1)=(Hl b L G j||AJ L G (Ai b j)):=by
 unfold Hl;rw[OL b j h,List.any_append];simp
set_option maxHeartbeats 8000000 in
theorem Jr (v u:Value) (bv bu:Nat) (ls ms:List P3) (w:World) (ha:ls.length<=8192) (hb:ms.length<=8192) (hv:Aa w bv v ls) (hu:Aa w bu u ms) : Calls Tryz.prog 28 #[v,u] w fun e w'=>e=.returned (.int .i64 ((wT ls ms:Nat):Int))/\Below w.heap.size w w':=by
 obtain⟨aa,ca,rfl,hfa⟩:=hv.form;obtain⟨ab,cb,rfl,hfb⟩:=hu.form;have HA:Hid (∀i,i<ls.length->∃g,aa=some ⟨g,0,none⟩/\∀wX,Below w.heap.size w wX->wX.cell? ⟨g,i*3+1,none⟩=some (.int .i64 (Ai ls i).lv)/\wX.cell? ⟨g,i*3+2,none⟩=some (.int .i64 (Ai ls i).pg)):=A5 fun i hi=>by
  obtain⟨g,N,f,rfl,_,hr,hN,hf⟩:=hfa (by omega);refine⟨g,rfl,fun wX hX=>?_⟩;have hr2:=hr.of_block (hX.block g hr.lt);have c1:=hr2.cell (i:=i*3+1) (by omega);have c2:=hr2.cell (i:=i*3+2) (by omega);rw[(hf i hi).2.1] at c1;rw[(hf i hi).2.2] at c2;exact⟨c1,c2⟩
 have HB:Hid (∀i,i<ms.length->∃g,ab=some ⟨g,0,none⟩/\∀wX,Below w.heap.size w wX->wX.cell? ⟨g,i*3+1,none⟩=some (.int .i64 (Ai ms i).lv)/\wX.cell? ⟨g,i*3+2,none⟩=some (.int .i64 (Ai ms i).pg)):=A5 fun i hi=>by
  obtain⟨g,N,f,rfl,_,hr,hN,hf⟩:=hfb (by omega);refine⟨g,rfl,fun wX hX=>?_⟩;have hr2:=hr.of_block (hX.block g hr.lt);have c1:=hr2.cell (i:=i*3+1) (by omega);have c2:=hr2.cell (i:=i*3+2) (by omega);rw[(hf i hi).2.1] at c1;rw[(hf i hi).2.2] at c2;exact⟨c1,c2⟩
 clear hv hu hfa hfb;have HEQ:Hid (Jv ls ms ls.length=wT ls ms):=A5 (by unfold Jv wT;rw[List.take_length]);go_enter Tryz.func28,Tryz.ntmps28
 go_wp2_with fail
 go_loopw [5,6] (fun nv iv wr=>∃i n:Nat,i<=ls.length/\nv=.int .i64 (n:Int)/\iv=.int .i64 (i:Int)/\Hid (n=Jv ls ms i)/\Below w.heap.size w wr) (fun _ iv _=>ls.length-(intOf iv).toNat)
 case atStart=>exact⟨0,0,Nat.zero_le _,rfl,rfl,A5 rfl,Below.refl _ _⟩
 case round =>
  obtain⟨i,n,hi,rfl,rfl,HN,hbl⟩:=hrel;have hn8:n<=8192:=by rw[HN.out];have:=VG ls ms i;omega
  by_cases hlt:i<ls.length
  ·obtain⟨ga,rfl,hca⟩:=HA.out i hlt;have HCA:Hid _:=hca;have HST:Hid (Jv ls ms (i+1)=Jv ls ms i+(if ms.any (AJ (Ai ls i).lv (Ai ls i).pg)=true then 0 else 1)):=A5 (SO ls ms i hlt);generalize (Ai ls i).lv=L at *;generalize (Ai ls i).pg=G at *;(have K1:(0:Int)<=(i:Int):=by omega);(have K2:(i:Int)<(ls.length:Int):=by omega);have HBL:Hid (Below _ _ _):=hbl;clear hca hbl;(go_wp2_with fail);(go_loopw [7,8] (fun fv jv wr=>∃(j:Nat) (B:Bool),j<=ms.length/\fv=.bool B/\jv=.int .i64 (j:Int)/\Hid (B=Hl ms L G j)/\Below w.heap.size w wr) (fun _ jv _=>ms.length-(intOf jv).toNat));(case atStart=>exact⟨0,false,Nat.zero_le _,rfl,rfl,A5 rfl,HBL.out⟩);case round =>
    obtain⟨j,B,hj,rfl,rfl,HBB,hb2⟩:=hrel;by_cases hjl:j<ms.length
    ·obtain⟨gb,rfl,hcb⟩:=HB.out j hjl;obtain⟨x1,x2⟩:=HCA.out _ hb2;obtain⟨y1,y2⟩:=hcb _ hb2;have HS2:Hid (Hl ms L G (j+1)=(Hl ms L G j||AJ L G (Ai ms j))):=A5 (Qc ms L G j hjl);have HSS:Hid (AJ L G (Ai ms j)=decide ((Ai ms j).lv=L/\(Ai ms j).pg=G)):=A5 rfl;generalize (Ai ms j).lv=L2 at *;generalize (Ai ms j).pg=G2 at *;(have J1:(0:Int)<=(j:Int):=by omega);(have J2:(j:Int)<(ms.length:Int):=by omega);have HB2:Hid (Below _ _ _):=hb2;clear hcb hb2;by_cases e1:L=L2
     ·(have e1b:(L==L2)=true:=by simpa using e1);by_cases e2:G=G2
      ·(have e2b:(G==G2)=true:=by simpa using e2);have HV:Hid (true=Hl ms L G (j+1)):=A5 (by rw[HS2.out,HSS.out,decide_eq_true ⟨e1.symm,e2.symm⟩,Bool.or_true]);clear e1 e2;(go_wp2_with fail);(go_quiet (fail));(go_wp2_with fail);go_roundw;(case rel=>exact⟨j+1,true,by omega,rfl,by go_num,HV,DZ HB2.out _⟩);case measure=>first|(simp[intOf];done)|(simp[intOf];omega)
      ·(have e2b:(G==G2)=false:=by simpa using e2);have HV:Hid (B=Hl ms L G (j+1)):=A5 (by rw[HS2.out,HSS.out,decide_eq_false (fun h=>e2 h.2.symm),Bool.or_false];exact HBB.out);clear e1 e2;(go_wp2_with fail);(go_quiet (fail));(go_wp2_with fail);go_roundw;(case rel=>exact⟨j+1,B,by omega,rfl,by go_num,HV,DZ HB2.out _⟩);case measure=>first|(simp[intOf];done)|(simp[intOf];omega)
     ·(have e1b:(L==L2)=false:=by simpa using e1);have HV:Hid (B=Hl ms L G (j+1)):=A5 (by rw[HS2.out,HSS.out,decide_eq_false (fun h=>e1 h.1.symm),Bool.or_false];exact HBB.out);clear e1;(go_wp2_with fail);(go_quiet (fail));(go_wp2_with fail);go_roundw;(case rel=>exact⟨j+1,B,by omega,rfl,by go_num,HV,DZ HB2.out _⟩);case measure=>first|(simp[intOf];done)|(simp[intOf];omega)
    (have J2:¬(j:Int)<(ms.length:Int):=by omega);have HBA:Hid (B=ms.any (AJ L G)):=A5 (by rw[HBB.out,show j=ms.length by omega];unfold Hl;rw[List.take_length]);have HB2:Hid (Below _ _ _):=hb2;clear hb2 hjl;cases B
    ·have HV:Hid (n+1=Jv ls ms (i+1)):=A5 (by rw[HST.out,<- HBA.out,HN.out];rfl);(go_wp2_with fail);go_roundw;(case rel=>exact⟨i+1,n+1,by omega,by go_num,by go_num,HV,HB2.out⟩);case measure=>first|(simp[intOf];done)|(simp[intOf];omega)
    ·have HV:Hid (n=Jv ls ms (i+1)):=A5 (by rw[HST.out,<- HBA.out,HN.out];rfl);(go_wp2_with fail);go_roundw;(case rel=>exact⟨i+1,n,by omega,rfl,by go_num,HV,HB2.out⟩);case measure=>first|(simp[intOf];done)|(simp[intOf];omega)
  ·(have K2:¬(i:Int)<(ls.length:Int):=by omega);have HF:Hid (n=wT ls ms):=A5 (by rw[HN.out,show i=ls.length by omega];exact HEQ.out);(go_wp2_with fail);go_ret;exact⟨by rw[<- HF.out];rfl,hbl⟩
end Go.Proofs.YtnmhkgmmpkjjeaaGreat
