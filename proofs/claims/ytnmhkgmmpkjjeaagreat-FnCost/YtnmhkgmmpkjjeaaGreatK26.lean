import Derived.Test.YtnmhkgmmpkjjeaaGreatK21
namespace Go.Proofs.YtnmhkgmmpkjjeaaGreat
set_option linter.unusedVariables false
def key (q:P3):Int:=q.pg*4+q.lv
theorem KO (zs:List Int) (n:Int):∀(d:Nat) (p:P3),p.lv=3-(d:Int)->d<=2->(∀q∈As zs n d p,key p<=key q/\key q<4*(p.pg+16*CH p.lv))/\(As zs n d p).Pairwise (fun a b=>key a<key b)
 | 0,p,hp,_=>by
  have e:As zs n 0 p=[p]:=rfl;rw[e];refine⟨fun q hq=>?_,List.pairwise_singleton _ _⟩;rw[List.mem_singleton] at hq;subst hq;have hc:CH q.lv=1:=by rw[hp];rfl
  rw[hc];unfold key;omega
 | d+1,p,hp,hd=>by
  have e:As zs n (d+1) p=Ah zs n (As zs n d) p 16:=rfl;have hcov:CH p.lv=16*CH (p.lv+1)/\1<=CH (p.lv+1):=by
   (have:d=0\/d=1:=by omega);rcases this with rfl|rfl<;>(rw[hp];decide)
  have ih:=fun i=>KO zs n d (Aq zs p i) (by show p.lv+1=_;omega) (by omega)
  have main:∀k,k<=16->(∀q∈Ah zs n (As zs n d) p k,key p<=key q/\(q=p\/key q<4*(p.pg+k*CH p.lv)))/\(Ah zs n (As zs n d) p k).Pairwise (fun a b=>key a<key b):=by
   intro k;induction k with
   | zero =>
    intro _;have e0:Ah zs n (As zs n d) p 0=[p]:=rfl;rw[e0];refine⟨fun q hq=>?_,List.pairwise_singleton _ _⟩;rw[List.mem_singleton] at hq;subst hq;exact⟨Int.le_refl _,.inl rfl⟩
   | succ k ihk =>
    intro hk;obtain⟨h1,h2⟩:=ihk (by omega);rw[GE];have hu1:(Aq zs p k).lv=p.lv+1:=rfl;have hu2:(Aq zs p k).pg=p.pg+k*CH p.lv:=rfl;(have hk1:((k:Nat):Int)*CH p.lv+CH p.lv=((k+1:Nat):Int)*CH p.lv:=by rw[show ((k+1:Nat):Int)=(k:Int)+1 by omega,Int.add_mul,Int.one_mul]);have hk0:0<=(k:Int)*CH p.lv:=Int.mul_nonneg (by omega) (by omega);have hnew:∀q∈(if De zs n p k then As zs n d (Aq zs p k) else []),4*(p.pg+k*CH p.lv)+p.lv+1<=key q/\key q<4*(p.pg+((k+1:Nat):Int)*CH p.lv):=by
     intro q hq;split at hq
     ·have:=(ih k).1 q hq;rw[hu1,hu2] at this;unfold key at this ⊢;rw[hu1,hu2] at this;omega
     ·cases hq
    refine⟨fun q hq=>?_,?_⟩
    ·rcases List.mem_append.1 hq with hq|hq
     ·obtain⟨a,b⟩:=h1 q hq;refine⟨a,?_⟩;rcases b with b|b
      ·exact .inl b
      ·right;omega
     ·have:=hnew q hq;refine⟨?_,.inr this.2⟩;unfold key at this ⊢;omega
    ·rw[List.pairwise_append];refine⟨h2,?_,fun a ha b hb=>?_⟩
     ·split
      ·exact(ih k).2
      ·exact List.Pairwise.nil
     ·have hb':=hnew b hb;obtain⟨_,h⟩:=h1 a ha;rcases h with h|h
      ·subst h;unfold key at hb' ⊢;omega
      ·omega
  obtain⟨h1,h2⟩:=main 16 (Nat.le_refl _);rw[e];refine⟨fun q hq=>?_,h2⟩;obtain⟨a,b⟩:=h1 q hq;refine⟨a,?_⟩;rcases b with b|b
  ·subst b;unfold key;(have hl:q.lv<=3:=by omega);omega
  ·have e16:((16:Nat):Int)=16:=rfl;rw[e16] at b;exact b
theorem Sn (zs:List Int) (n:Int) (q:P3) (h:q∈As zs n 2 ⟨0,1,0⟩) : q=⟨0,1,0⟩\/(∃i:Nat,i<16/\q.lv=2/\q.pg=(i*256:Nat)/\0<=q.fr/\q.fr<n)\/(∃i j:Nat,i<16/\j<16/\q.lv=3/\q.pg=(i*256+j*16:Nat)/\0<=q.fr/\q.fr<n/\∃r∈As zs n 2 ⟨0,1,0⟩,r.lv=2/\r.pg=(i*256:Nat)):=by
 have c1:CH 1=256:=rfl;have c2:CH 2=16:=rfl;have e:As zs n 2 ⟨0,1,0⟩=⟨0,1,0⟩ :: (List.range 16).flatMap fun i=>if De zs n ⟨0,1,0⟩ i then As zs n 1 (Aq zs ⟨0,1,0⟩ i) else []:=rfl
 have e2:∀p,As zs n 1 p=p :: (List.range 16).flatMap fun i=>if De zs n p i then As zs n 0 (Aq zs p i) else []:=fun p=>rfl
 rw[e] at h;rcases List.mem_cons.1 h with h|h
 ·exact .inl h
 ·obtain⟨i,hi,h⟩:=List.mem_flatMap.1 h;have hi':=List.mem_range.1 hi;split at h
  ·rename_i hl;have hfr:0<=(Aq zs ⟨0,1,0⟩ i).fr/\(Aq zs ⟨0,1,0⟩ i).fr<n:=by
    unfold De at hl;simp only[Bool.and_eq_true,decide_eq_true_eq] at hl;exact⟨(Cw _ _).1,hl.2⟩
   have hpg:(Aq zs ⟨0,1,0⟩ i).pg=(i*256:Nat):=by
    show (0:Int)+i*CH 1=_;rw[c1];omega
   have hself:Aq zs ⟨0,1,0⟩ i∈As zs n 2 ⟨0,1,0⟩:=by
    rw[e];refine List.mem_cons_of_mem _ (List.mem_flatMap.2 ⟨i,hi,?_⟩);rw[if_pos hl,e2];exact List.mem_cons_self ..
   rw[e2] at h;rcases List.mem_cons.1 h with h|h
   ·subst h;exact .inr (.inl ⟨i,hi',rfl,hpg,hfr⟩)
   ·obtain⟨j,hj,h⟩:=List.mem_flatMap.1 h;have hj':=List.mem_range.1 hj;split at h
    ·rename_i hl2;have e3:As zs n 0 (Aq zs (Aq zs ⟨0,1,0⟩ i) j)=[Aq zs (Aq zs ⟨0,1,0⟩ i) j]:=rfl;rw[e3,List.mem_singleton] at h;subst h;refine .inr (.inr ⟨i,j,hi',hj',rfl,?_,?_,?_,Aq zs ⟨0,1,0⟩ i,hself,rfl,hpg⟩)
     ·show (Aq zs ⟨0,1,0⟩ i).pg+j*CH 2=_;rw[hpg,c2];omega
     ·exact(Cw _ _).1
     ·unfold De at hl2;simp only[Bool.and_eq_true,decide_eq_true_eq] at hl2;exact hl2.2
    ·cases h
  ·cases h
theorem Cg {qs:List P3} (hs:qs.Pairwise (fun a b=>key a<key b)) {q:P3} (hq:q∈qs):AE qs q.lv q.pg=q.fr:=by
 unfold AE;induction qs with
 | nil=>cases hq
 | cons a r ih =>
  obtain⟨h1,h2⟩:=List.pairwise_cons.1 hs;rcases List.mem_cons.1 hq with e|e
  ·subst e;rw[List.find?_cons_of_pos (by unfold AJ;simp)]
  ·have hne:AJ q.lv q.pg a=false:=by
    unfold AJ;rw[decide_eq_false_iff_not];rintro⟨x,y⟩;have:=h1 q e;unfold key at this;omega
   rw[List.find?_cons_of_neg (by rw[hne];decide)];exact ih h2 e
structure BO (n:Int) (ps:List P3):Prop where
 sorted:ps.Pairwise (fun a b=>key a<key b)
 root:(⟨0,1,0⟩:P3)∈ps
 mem:∀q∈ps,q=⟨0,1,0⟩\/(∃i:Nat,i<16/\q.lv=2/\q.pg=(i*256:Nat)/\0<=q.fr/\q.fr<n)\/(∃i j:Nat,i<16/\j<16/\q.lv=3/\q.pg=(i*256+j*16:Nat)/\0<=q.fr/\q.fr<n/\∃r∈ps,r.lv=2/\r.pg=(i*256:Nat))
theorem Gr (zs:List Int) (n:Int):BO n (As zs n 2 ⟨0,1,0⟩) :=
 ⟨(KO zs n 2 ⟨0,1,0⟩ rfl (by decide)).2,List.mem_cons_self ..,fun q hq=>Sn zs n q hq⟩
theorem BO.lv {n:Int} {ps:List P3} (h:BO n ps) {q:P3} (hq:q∈ps):1<=q.lv/\q.lv<=3:=by
 rcases h.mem q hq with e|⟨i,_,e,_⟩|⟨i,j,_,_,e,_⟩
 ·rw[e];decide
 ·omega
 ·omega
theorem BO.fr {n:Int} {ps:List P3} (h:BO n ps) (hn:0<n) {q:P3} (hq:q∈ps):0<=q.fr/\q.fr<n:=by
 rcases h.mem q hq with e|⟨i,_,_,_,e⟩|⟨i,j,_,_,_,_,e1,e2,_⟩
 ·rw[e];exact⟨Int.le_refl _,hn⟩
 ·exact e
 ·exact⟨e1,e2⟩
def AA (H:Nat->Ht) (ps:List P3):List P3:=ps.filter (SJ H)
def Cr (H:Nat->Ht) (ps:List P3):List P3:=ps.filter (fun p=>!SJ H p)
theorem BN {H:Nat->Ht} {ps:List P3} {q:P3}:q∈AA H ps↔q∈ps/\SJ H q=true:=by unfold AA;exact List.mem_filter
theorem Cm {n:Int} {ps:List P3} (H:Nat->Ht) (h:BO n ps):(AA H ps).Pairwise (fun a b=>key a<key b):=h.sorted.filter _
theorem RD {n:Int} {ps:List P3} (H:Nat->Ht) (hn:0<n) (h:BO n ps):Kq (AA H ps):=by
 have hs:=Cm H h;refine⟨?_,?_,?_⟩
 ·exact Cg hs (BN.2 ⟨h.root,by unfold SJ;exact Gc H _⟩)
 ·intro i j hj h0;obtain⟨q,hq,h1,h2,h3⟩:=CI h0;obtain⟨hq1,hq2⟩:=BN.1 hq;rcases h.mem q hq1 with e|⟨i',_,e,_⟩|⟨i',j',hi',hj',_,e,_,_,r,hr,hr1,hr2⟩
  ·rw[e] at h1;simp at h1
  ·rw[e] at h1;simp at h1
  ·(have hij:i'=i:=by omega);subst hij;have hr3:r∈AA H ps:=by
    refine BN.2 ⟨hr,?_⟩;unfold SJ at hq2 ⊢;rw[h1,h2] at hq2;rw[hr1,hr2];exact UN hj hq2
   have:=Cg hs hr3;rw[hr1,hr2] at this;have h4:=(h.fr hn hr).1;rw[<- this] at h4;exact h4
 ·intro p
  have:AE (AA H ps) 4 p=-1:=Fa (fun q hq hh=>by
   have:=(h.lv (BN.1 hq).1).2
   omega)
  omega
def JD (s:Nat×Nat):Nat:=s.2*4+s.1
theorem OH {H:Nat->Ht} {g:Nat} {s:Nat×Nat} (h:s∈ER H g):(s=(2,g*16)/\g%16=0/\nd H 2 (g*16)=true)\/(s=(3,g*16)/\nd H 3 (g*16)=true):=by
 unfold ER st at h;rcases List.mem_append.1 h with h|h
 ·split at h
  ·rename_i hh;rw[List.mem_singleton] at h;exact .inl ⟨h,hh⟩
  ·cases h
 ·split at h
  ·rename_i hh;rw[List.mem_singleton] at h;exact .inr ⟨h,hh⟩
  ·cases h
theorem Of (H:Nat->Ht) (g:Nat):(ER H g).Pairwise (fun a b=>JD a<JD b):=by
 unfold ER st;split<;>split<;>simp[JD]
theorem LG (H:Nat->Ht):∀g,(∀s∈AC H g,JD s<g*64+2)/\(AC H g).Pairwise (fun a b=>JD a<JD b)
 | 0=>by
  have e:AC H 0=[(1,0)]:=rfl;rw[e];exact⟨fun s hs=>by rw[List.mem_singleton] at hs;subst hs;decide,List.pairwise_singleton _ _⟩
 | g+1=>by
  obtain⟨h1,h2⟩:=LG H g;rw[Gw];have hk:∀s∈ER H g,g*64+2<=JD s/\JD s<(g+1)*64+2:=fun s hs=>by
   rcases OH hs with⟨rfl,_⟩|⟨rfl,_⟩<;>(unfold JD;dsimp only;omega)
  refine⟨fun s hs=>?_,?_⟩
  ·rcases List.mem_append.1 hs with hs|hs
   ·have:=h1 s hs;omega
   ·exact(hk s hs).2
  ·rw[List.pairwise_append];refine⟨h2,Of H g,fun a ha b hb=>?_⟩;have:=h1 a ha;have:=(hk b hb).1;omega
theorem Js (H:Nat->Ht) (g:Nat):(AC H g).Pairwise (fun a b=>JD a<JD b):=(LG H g).2
theorem Ic {H:Nat->Ht} {n:Nat} {s:Nat×Nat}:s∈AC H n↔s=(1,0)\/∃g,g<n/\s∈ER H g:=by
 unfold AC;rw[List.mem_cons,List.mem_flatMap];exact or_congr Iff.rfl ⟨fun ⟨g,a,b⟩=>⟨g,List.mem_range.1 a,b⟩,fun ⟨g,a,b⟩=>⟨g,List.mem_range.2 a,b⟩⟩
theorem Bo {H:Nat->Ht} {s:Nat×Nat} (h:s∈AC H 256):1<=s.1/\s.1<=3/\s.2+ID s.1<=4096/\nd H s.1 s.2=true/\(s.1=1->s.2=0)/\s.2%ID s.1=0:=by
 rcases Ic.1 h with rfl|⟨g,hg,hs⟩
 ·exact⟨by decide,by decide,by decide,Gc H 0,fun _=>rfl,by decide⟩
 ·rcases OH hs with⟨rfl,hm,hn⟩|⟨rfl,hn⟩
  ·exact⟨show 1<=2 by decide,show 2<=3 by decide,show g*16+256<=4096 by omega,hn,fun h=>absurd (show (2:Nat)=1 from h) (by decide),show g*16%256=0 by omega⟩
  ·exact⟨show 1<=3 by decide,show 3<=3 by decide,show g*16+16<=4096 by omega,hn,fun h=>absurd (show (3:Nat)=1 from h) (by decide),show g*16%16=0 by omega⟩
theorem Kk {H:Nat->Ht} {i:Nat} (hi:i<16) (h:nd H 2 (i*256)=true):(2,i*256)∈AC H 256:=by
 refine Ic.2 (.inr ⟨i*16,by omega,?_⟩);unfold ER;rw[show i*16*16=i*256 by omega,if_pos ⟨by omega,h⟩];exact List.mem_append_left _ (List.mem_singleton.2 rfl)
theorem Kd {H:Nat->Ht} {g:Nat} (hg:g<256) (h:nd H 3 (g*16)=true):(3,g*16)∈AC H 256:=by
 refine Ic.2 (.inr ⟨g,hg,?_⟩);unfold ER st;rw[h];exact List.mem_append_right _ (List.mem_singleton.2 rfl)
theorem DM {H:Nat->Ht} {n:Int} {ps:List P3} (h:BO n ps) {q:P3} (hq:q∈AA H ps):(q.lv.toNat,q.pg.toNat)∈AC H 256/\((q.lv.toNat:Nat):Int)=q.lv/\((q.pg.toNat:Nat):Int)=q.pg:=by
 obtain⟨h1,h2⟩:=BN.1 hq;unfold SJ at h2;rcases h.mem q h1 with e|⟨i,hi,e1,e2,_⟩|⟨i,j,hi,hj,e1,e2,_⟩
 ·rw[e];exact⟨Ic.2 (.inl rfl),rfl,rfl⟩
 ·rw[e1,e2] at h2 ⊢;have e3:(2:Int).toNat=2:=rfl;have e4:((i*256:Nat):Int).toNat=i*256:=rfl;rw[e3,e4] at h2 ⊢;exact⟨Kk hi h2,rfl,rfl⟩
 ·rw[e1,e2] at h2 ⊢;have e3:(3:Int).toNat=3:=rfl;have e4:((i*256+j*16:Nat):Int).toNat=i*256+j*16:=rfl;rw[e3,e4] at h2 ⊢;rw[show i*256+j*16=(i*16+j)*16 by omega] at h2 ⊢;exact⟨Kd (by omega) h2,rfl,rfl⟩
theorem NP {α:Type} [BEq α] [LawfulBEq α]:∀(l m:List α),l.Pairwise (fun a b=>a≠b)->(∀x∈l,x∈m)->l.length<=m.length
 | [],m,_,_=>Nat.zero_le _
 | x :: r,m,hp,hs=>by
  obtain⟨h1,h2⟩:=List.pairwise_cons.1 hp;have hx:x∈m:=hs x (List.mem_cons_self ..);have:=NP r (m.erase x) h2 (fun y hy=>(List.mem_erase_of_ne (fun e=>h1 y hy e.symm)).2 (hs y (List.mem_cons_of_mem _ hy)));rw[List.length_erase_of_mem hx] at this;have hpos:0<m.length:=List.length_pos_of_mem hx;rw[List.length_cons];omega
def Qf (kept:List P3) (s:Nat×Nat):Bool:=decide (0<=AE kept s.1 s.2)
theorem Qs {H:Nat->Ht} {n:Int} {ps:List P3} (hn:0<n) (h:BO n ps):(AA H ps).length<=(AC H 256).countP (Qf (AA H ps)):=by
 have hs:=Cm H h;have hl:((AA H ps).map (fun q=>(q.lv.toNat,q.pg.toNat))).length<=((AC H 256).filter (Qf (AA H ps))).length:=by
  refine NP _ _ ?_ ?_
  ·rw[List.pairwise_map];refine List.Pairwise.imp_of_mem ?_ hs;intro a b ha hb hlt e;obtain⟨_,a1,a2⟩:=DM h ha;obtain⟨_,b1,b2⟩:=DM h hb;simp only[Prod.mk.injEq] at e;unfold key at hlt;rw[<- a1,<- a2,<- b1,<- b2,e.1,e.2] at hlt;omega
  ·intro x hx;obtain⟨q,hq,rfl⟩:=List.mem_map.1 hx;obtain⟨h1,h2,h3⟩:=DM h hq;refine List.mem_filter.2 ⟨h1,?_⟩;unfold Qf;dsimp only;rw[h2,h3,Cg hs hq];exact decide_eq_true (h.fr hn (BN.1 hq).1).1
 rwa [List.length_map,<- List.countP_eq_length_filter] at hl
theorem Lb (kept:List P3) (ws:List (Nat×Nat)):∀k,k<=ws.length->(BK kept ws k).length+(ws.take k).countP (Qf kept)=k
 | 0,_=>by rw[Cv];simp
 | k+1,h=>by
  have ih:=Lb kept ws k (by omega);rw[DN kept ws k (by omega),List.take_succ_eq_append_getElem (by omega),List.countP_append];unfold Dx;by_cases hc:AE kept (ws[k]'(by omega)).1 (ws[k]'(by omega)).2<0
  ·rw[if_pos hc,List.length_append,List.length_singleton];have:List.countP (Qf kept) [ws[k]'(by omega)]=0:=by
    rw[List.countP_singleton];unfold Qf;rw[if_neg (by simp;omega)]
   omega
  ·rw[if_neg hc];have:List.countP (Qf kept) [ws[k]'(by omega)]=1:=by
    rw[List.countP_singleton];unfold Qf;rw[if_pos (by simp;omega)]
   omega
theorem Kc {H:Nat->Ht} {n:Int} {ps:List P3} (hn:0<n) (h:BO n ps) (k:Nat) (hk:k<(AC H 256).length) (hf:AE (AA H ps) ((AC H 256)[k]).1 ((AC H 256)[k]).2<0):(AA H ps++BK (AA H ps) (AC H 256) k).length<(AC H 256).length:=by
 have h1:=Qs (H:=H) hn h;have h2:=Lb (AA H ps) (AC H 256) k (by omega);have e:(AC H 256).countP (Qf (AA H ps))=((AC H 256).take k).countP (Qf (AA H ps))+((AC H 256).drop k).countP (Qf (AA H ps)):=by
  rw[<- List.countP_append,List.take_append_drop]
 have e2:(AC H 256).drop k=(AC H 256)[k] :: (AC H 256).drop (k+1):=List.drop_eq_getElem_cons hk;have e3:((AC H 256).drop k).countP (Qf (AA H ps))<=(AC H 256).length-(k+1):=by
  rw[e2,List.countP_cons_of_neg (by unfold Qf;simp;omega)];have:=List.countP_le_length (p:=Qf (AA H ps)) (l:=(AC H 256).drop (k+1));rwa [List.length_drop] at this
 rw[List.length_append];omega
theorem Cx {H:Nat->Ht} {n:Nat} {ps:List P3} (hn:0<n) (h:BO n ps) (hw:(AC H 256).length<=n):∀k,k<=(AC H 256).length->∀q∈BK (AA H ps) (AC H 256) k,∃j,∃hj:j<k,∃hj2:j<(AC H 256).length,q.lv=((AC H 256)[j]).1/\q.pg=((AC H 256)[j]).2/\AE (AA H ps) q.lv q.pg<0/\∃F:Nat,q.fr=F/\F<n
 | 0,_,q,hq=>by rw[Cv] at hq;cases hq
 | k+1,hk,q,hq=>by
  rw[DN _ _ k (by omega)] at hq;unfold Dx at hq;split at hq
  ·rename_i hf;rcases List.mem_append.1 hq with hq|hq
   ·obtain⟨j,hj,r⟩:=Cx hn h hw k (by omega) q hq;exact⟨j,by omega,r⟩
   ·rw[List.mem_singleton] at hq;have hr:=Kc (H:=H) (n:=n) (by omega) h k (by omega) hf;have hl:=(FQ (AA H ps++BK (AA H ps) (AC H 256) k)).1;subst hq;exact⟨k,by omega,by omega,rfl,rfl,hf,_,rfl,by omega⟩
  ·obtain⟨j,hj,r⟩:=Cx hn h hw k (by omega) q hq;exact⟨j,by omega,r⟩
end Go.Proofs.YtnmhkgmmpkjjeaaGreat
