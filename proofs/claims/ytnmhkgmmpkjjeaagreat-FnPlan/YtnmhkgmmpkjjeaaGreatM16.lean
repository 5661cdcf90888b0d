import Derived.Test.YtnmhkgmmpkjjeaaGreatM05
namespace Go.Proofs.YtnmhkgmmpkjjeaaGreat
open  Proofs.Tryz
set_option linter.all false
set_option maxRecDepth 100000
structure En where
 lv:Int
 pg:Int
 ad:Int
def CA (t:P3) (i:Nat):En:=⟨t.lv,t.pg+i*BX t.lv,t.fr*16+i⟩
def DP (kept:List P3) (t:P3) (i:Nat):P3:=⟨AI kept (t.lv+1) (t.pg+i*BX t.lv),t.lv+1,t.pg+i*BX t.lv⟩
def Lc (kept:List P3):Nat->P3->List En
 | 0,_=>[]
 | f+1,t=>(List.range 16).flatMap fun i=>CA t i :: (if 0<=(DP kept t i).fr then Lc kept f (DP kept t i) else [])
def Dy (kept:List P3) (page lv:Nat):List En:=if page%Ay lv=0/\0<=AI kept lv (page-page%(Ay lv*16):Nat) then [⟨lv,page,AI kept lv (page-page%(Ay lv*16):Nat)*16+(page/Ay lv%16:Nat)⟩] else []
def Lm (kept:List P3) (page:Nat):List En:=Dy kept page 1++(Dy kept page 2++Dy kept page 3)
def Bf (kept:List P3) (n:Nat):List En:=(List.range n).flatMap (Lm kept)
theorem Hi(kept:List P3)(n:Nat):Bf kept (n+1)=Bf kept n++Lm kept n:=by
 unfold Bf;rw[List.range_succ,List.flatMap_append];simp
theorem H4(kept:List P3)(page lv:Nat):(Dy kept page lv).length<=1:=by unfold Dy;split<;>simp
theorem In(kept:List P3):∀n,(Bf kept n).length<=n*3
 | 0=>by simp[Bf]
 | n+1=>by
  rw[Hi,List.length_append];have:=In kept n;have h1:=H4 kept n 1;have h2:=H4 kept n 2;have h3:=H4 kept n 3;unfold Lm;rw[List.length_append,List.length_append];omega
theorem Z0{α:Type}(A:List α)(f:Nat->List α):(List.range 16).flatMap (fun j=>(if j=0 then A else [])++f j)=A++(List.range 16).flatMap f:=by
 rw[show (16:Nat)=15+1 from rfl,List.range_succ_eq_map,List.flatMap_cons,List.flatMap_cons,List.flatMap_map,List.flatMap_map];simp
structure Lu (kept:List P3):Prop where
 root:AI kept 1 0=0
 up:∀i j:Nat,j<16->0<=AI kept 3 (i*256+j*16:Nat)->0<=AI kept 2 (i*256:Nat)
 no4:∀p:Int,AI kept 4 p<0
theorem Xf(kept:List P3)(i j:Nat)(hj:j<16):(List.range 16).flatMap (fun k=>Dy kept ((i*16+j)*16+k) 3)=if 0<=AI kept 3 ((i*16+j)*16:Nat) then (List.range 16).flatMap (fun k=>[(⟨3,((i*16+j)*16+k:Nat),AI kept 3 ((i*16+j)*16:Nat)*16+k⟩:En)]) else []:=by
 have e:(List.range 16).flatMap (fun k=>Dy kept ((i*16+j)*16+k) 3)=(List.range 16).flatMap (fun k=>if 0<=AI kept 3 ((i*16+j)*16:Nat) then [(⟨3,((i*16+j)*16+k:Nat),AI kept 3 ((i*16+j)*16:Nat)*16+k⟩:En)] else []):=by
  refine BT (fun k hk=>?_);unfold Dy;have e1:Ay 3=1:=rfl;have e2:(i*16+j)*16+k-((i*16+j)*16+k)%(1*16)=(i*16+j)*16:=by omega
  have e3:((i*16+j)*16+k)/1%16=k:=by omega
  rw[e1,e2,e3];by_cases h:0<=AI kept 3 ((i*16+j)*16:Nat)
  ·rw[if_pos ⟨Nat.mod_one _,h⟩,if_pos h];rfl
  ·rw[if_neg (fun hh=>h hh.2),if_neg h]
 rw[e];split
 ·rfl
 ·simp
theorem Zt(kept:List P3)(i j k:Nat)(hj:j<16)(hk:k<16):Dy kept ((i*16+j)*16+k) 2=if k=0 then (if 0<=AI kept 2 (i*256:Nat) then [(⟨2,(i*256+j*16:Nat),AI kept 2 (i*256:Nat)*16+j⟩:En)] else []) else []:=by
 unfold Dy;have e1:Ay 2=16:=rfl;have e2:(i*16+j)*16+k-((i*16+j)*16+k)%(16*16)=i*256:=by omega
 have e3:((i*16+j)*16+k)/16%16=j:=by omega
 have e4:((i*16+j)*16+k)%16=k:=by omega
 rw[e1,e2,e3,e4];by_cases h0:k=0
 ·subst h0;rw[if_pos rfl];by_cases h:0<=AI kept 2 (i*256:Nat)
  ·rw[if_pos ⟨rfl,h⟩,if_pos h,show (i*16+j)*16+0=i*256+j*16 by omega];rfl
  ·rw[if_neg (fun hh=>h hh.2),if_neg h]
 ·rw[if_neg (fun hh=>h0 hh.1),if_neg h0]
theorem ZY(kept:List P3)(hr:AI kept 1 0=0)(i j k:Nat)(hi:i<16)(hj:j<16)(hk:k<16):Dy kept ((i*16+j)*16+k) 1=if k=0 then (if j=0 then [(⟨1,(i*256:Nat),i⟩:En)] else []) else []:=by
 unfold Dy;have e1:Ay 1=256:=rfl;have e2:(i*16+j)*16+k-((i*16+j)*16+k)%(256*16)=0:=by omega
 have e3:((i*16+j)*16+k)/256%16=i:=by omega
 have hr':AI kept ((1:Nat):Int) ((0:Nat):Int)=0:=hr;rw[e1,e2,e3,hr'];by_cases h:k=0/\j=0
 ·obtain⟨rfl,rfl⟩:=h;rw[if_pos ⟨by omega,by omega⟩,if_pos rfl,if_pos rfl,show (i*16+0)*16+0=i*256 by omega];simp
 ·rw[if_neg (fun hh=>h (by omega))];by_cases h0:k=0
  ·rw[if_pos h0,if_neg (fun hh=>h ⟨h0,hh⟩)]
  ·rw[if_neg h0]
theorem aM(kept:List P3)(hk:Lu kept)(f:Int)(p:Nat):Lc kept 1 ⟨f,3,p⟩=(List.range 16).flatMap (fun k=>[(⟨3,(p+k:Nat),f*16+k⟩:En)]):=by
 have e:Lc kept 1 ⟨f,3,p⟩=(List.range 16).flatMap fun i=>CA ⟨f,3,p⟩ i :: (if 0<=(DP kept ⟨f,3,p⟩ i).fr then Lc kept 0 (DP kept ⟨f,3,p⟩ i) else []):=rfl
 rw[e];refine BT (fun i hi=>?_);have h4:¬0<=(DP kept ⟨f,3,p⟩ i).fr:=by
  have:=hk.no4 (p+i*BX 3);show ¬0<=AI kept (3+1) (p+i*BX 3);have e:(3+1:Int)=4:=rfl;rw[e];omega
 rw[if_neg h4];unfold CA;have:BX 3=1:=rfl;simp[this]
theorem aN(kept:List P3)(hk:Lu kept)(f:Int)(p:Nat):Lc kept 2 ⟨f,2,p⟩=(List.range 16).flatMap (fun j=>⟨2,(p+j*16:Nat),f*16+j⟩ :: (if 0<=AI kept 3 (p+j*16:Nat) then (List.range 16).flatMap (fun k=>[(⟨3,(p+j*16+k:Nat),AI kept 3 (p+j*16:Nat)*16+k⟩:En)]) else [])):=by
 have e:Lc kept 2 ⟨f,2,p⟩=(List.range 16).flatMap fun i=>CA ⟨f,2,p⟩ i :: (if 0<=(DP kept ⟨f,2,p⟩ i).fr then Lc kept 1 (DP kept ⟨f,2,p⟩ i) else []):=rfl
 rw[e];refine BT (fun j hj=>?_);have c2:BX 2=16:=rfl;have ep:(p:Int)+j*BX 2=((p+j*16:Nat):Int):=by rw[c2];omega
 have eu:DP kept ⟨f,2,p⟩ j=⟨AI kept 3 (p+j*16:Nat),3,(p+j*16:Nat)⟩:=by
  unfold DP;dsimp only;rw[ep];rfl
 have eo:CA ⟨f,2,p⟩ j=⟨2,(p+j*16:Nat),f*16+j⟩:=by unfold CA;dsimp only;rw[ep]
 rw[eu,eo,aM kept hk]
theorem Qw(kept:List P3)(hk:Lu kept):Lc kept 3 ⟨0,1,0⟩=Bf kept 4096:=by
 have e:Lc kept 3 ⟨0,1,0⟩=(List.range 16).flatMap fun i=>CA ⟨0,1,0⟩ i :: (if 0<=(DP kept ⟨0,1,0⟩ i).fr then Lc kept 2 (DP kept ⟨0,1,0⟩ i) else []):=rfl
 rw[e];unfold Bf;rw[show (4096:Nat)=256*16 from rfl,NT,show (256:Nat)=16*16 from rfl,NT];refine BT (fun i hi=>?_);have c1:BX 1=256:=rfl;have ep:(0:Int)+i*BX 1=((i*256:Nat):Int):=by rw[c1];omega
 have eu:DP kept ⟨0,1,0⟩ i=⟨AI kept 2 (i*256:Nat),2,(i*256:Nat)⟩:=by
  unfold DP;dsimp only;rw[ep];rfl
 have eo:CA ⟨0,1,0⟩ i=⟨1,(i*256:Nat),i⟩:=by unfold CA;dsimp only;rw[ep];simp
 rw[eu,eo,aN kept hk];have hroot:=hk.root;have step:∀j,j<16->(List.range 16).flatMap (fun k=>Lm kept ((i*16+j)*16+k))=(if j=0 then [(⟨1,(i*256:Nat),i⟩:En)] else [])++((if 0<=AI kept 2 (i*256:Nat) then [(⟨2,(i*256+j*16:Nat),AI kept 2 (i*256:Nat)*16+j⟩:En)] else [])++(List.range 16).flatMap (fun k=>Dy kept ((i*16+j)*16+k) 3)):=by
  intro j hj;rw[<- Z0,<- Z0];refine BT (fun k hk=>?_);unfold Lm;rw[ZY kept hroot i j k hi hj hk,Zt kept i j k hj hk]
 rw[BT step,Z0];rw[List.singleton_append];congr 1;by_cases h2:0<=AI kept 2 (i*256:Nat)
 ·rw[if_pos h2];refine BT (fun j hj=>?_);rw[if_pos h2,Xf kept i j hj,List.singleton_append,show (i*16+j)*16=i*256+j*16 by omega]
 ·rw[if_neg h2];have:(List.range 16).flatMap (fun j=>(if 0<=AI kept 2 (i*256:Nat) then [(⟨2,(i*256+j*16:Nat),AI kept 2 (i*256:Nat)*16+j⟩:En)] else [])++(List.range 16).flatMap (fun k=>Dy kept ((i*16+j)*16+k) 3))=(List.range 16).flatMap (fun _=>([]:List En)):=by
   refine BT (fun j hj=>?_);rw[if_neg h2,Xf kept i j hj,if_neg (fun h3=>h2 (hk.up i j hj (by rw[show i*256+j*16=(i*16+j)*16 by omega];exact h3)))];rfl
  rw[this];simp
def BO (mk:Nat->Bool) (m p:Nat):Nat:=((List.range (m-p)).takeWhile (fun k=>mk (p+k))).length
def CO (mk:Nat->Bool) (p:Nat):Bool:=mk p&&(decide (p=0)||!mk (p-1))
def Br (mk:Nat->Bool) (m n:Nat):List (Nat×Nat):=(List.range n).flatMap (fun p=>if CO mk p then [(p,BO mk m p)] else [])
def CL (rs:List (Nat×Nat)) (n:Nat):List (Nat×Nat):=match rs.getLast? with
 | some r=>if r.1+r.2=n then rs.dropLast++[(r.1,r.2+1)] else rs++[(n,1)]
 | none=>[(n,1)]
theorem Fj{α:Type}{p:α->Bool}:∀{l:List α},(∀x∈l,p x=true)->l.takeWhile p=l
 | [],_=>rfl
 | x :: r,h=>by rw[List.takeWhile_cons_of_pos (h x (List.mem_cons_self ..)),Fj (fun y hy=>h y (List.mem_cons_of_mem _ hy))]
theorem LQ{α:Type}{p:α->Bool}(l:List α)(x:α):(l++[x]).takeWhile p=if l.all p then l++[x].takeWhile p else l.takeWhile p:=by
 induction l with
 | nil=>simp
 | cons y r ih =>
  cases hy:p y
  ·simp[hy]
  ·rw[List.cons_append,List.takeWhile_cons_of_pos hy,ih,List.all_cons,hy,Bool.true_and];split
   ·rfl
   ·rw[List.takeWhile_cons_of_pos hy]
theorem Fc(mk:Nat->Bool)(m p:Nat)(hp:p<=m):BO mk (m+1) p=if (∀k,k<m-p->mk (p+k)=true)/\mk m=true then m+1-p else BO mk m p:=by
 unfold BO;rw[show m+1-p=(m-p)+1 by omega,List.range_succ,LQ];have ha:((List.range (m-p)).all fun k=>mk (p+k))=true↔∀k,k<m-p->mk (p+k)=true:=by
  rw[List.all_eq_true];exact⟨fun h k hk=>h k (List.mem_range.2 hk),fun h k hk=>h k (List.mem_range.1 hk)⟩
 by_cases h1:∀k,k<m-p->mk (p+k)=true
 ·rw[if_pos (ha.2 h1)];have e:p+(m-p)=m:=by omega
  cases h2:mk m
  ·rw[if_neg (fun h=>by cases h.2),List.takeWhile_cons_of_neg (by rw[e,h2];decide),List.append_nil,Fj (fun k hk=>h1 k (List.mem_range.1 hk))]
  ·rw[if_pos ⟨h1,rfl⟩,List.takeWhile_cons_of_pos (by rw[e,h2])];simp
 ·rw[if_neg (fun h=>h1 (ha.1 h)),if_neg (fun h=>h1 h.1)]
theorem Gj(mk:Nat->Bool)(m p:Nat)(h:∀k,k<m-p->mk (p+k)=true):BO mk m p=m-p:=by
 unfold BO;rw[Fj (fun k hk=>h k (List.mem_range.1 hk)),List.length_range]
theorem GU{α:Type}{p:α->Bool}:∀{l:List α},(∃x∈l,p x=false)->(l.takeWhile p).length<l.length
 | [],h=>by obtain⟨x,hx,_⟩:=h;cases hx
 | y :: r,h=>by
  cases hy:p y
  ·rw[List.takeWhile_cons_of_neg (by rw[hy];decide)];simp
  ·rw[List.takeWhile_cons_of_pos hy,List.length_cons,List.length_cons];have:∃x∈r,p x=false:=by
    obtain⟨x,hx,hp⟩:=h;rcases List.mem_cons.1 hx with e|e
    ·rw[e,hy] at hp;cases hp
    ·exact⟨x,e,hp⟩
   have:=GU this;omega
theorem Oh(mk:Nat->Bool)(m p:Nat)(h:¬∀k,k<m-p->mk (p+k)=true):BO mk m p<m-p:=by
 unfold BO;have:∃k∈List.range (m-p),mk (p+k)=false:=by
  refine Classical.byContradiction fun hc=>h fun k hk=>?_
  cases hv:mk (p+k)
  ·exact absurd ⟨k,List.mem_range.2 hk,hv⟩ hc
  ·rfl
 have:=GU (p:=fun k=>mk (p+k)) this;rwa [List.length_range] at this
theorem GL(mk:Nat->Bool)(m n:Nat):Br mk m (n+1)=Br mk m n++(if CO mk n then [(n,BO mk m n)] else []):=by
 unfold Br;rw[List.range_succ,List.flatMap_append];simp
theorem IG(mk:Nat->Bool):∀m,mk m=true->∃p,p<=m/\CO mk p=true/\(∀k,k<m+1-p->mk (p+k)=true)/\∀q,p<q->q<=m->CO mk q=false
 | 0,h=>⟨0,Nat.le_refl _,by unfold CO;rw[h];rfl,fun k hk=>by rw[show 0+k=0 by omega];exact h,fun q h1 h2=>by omega⟩
 | m+1,h=>by
  cases hm:mk m
  ·refine⟨m+1,Nat.le_refl _,by unfold CO;rw[h,Nat.add_sub_cancel,hm];simp,fun k hk=>by rw[show m+1+k=m+1 by omega];exact h,fun q h1 h2=>by omega⟩
  ·obtain⟨p,h1,h2,h3,h4⟩:=IG mk m hm;refine⟨p,by omega,h2,fun k hk=>?_,fun q hq1 hq2=>?_⟩
   ·by_cases e:k<m+1-p
    ·exact h3 k e
    ·rw[show p+k=m+1 by omega];exact h
   ·by_cases e:q<=m
    ·exact h4 q hq1 e
    ·rw[show q=m+1 by omega];unfold CO;rw[Nat.add_sub_cancel,hm];simp
theorem QA{α:Type}(f:Nat->List α)(m p:Nat)(hp:p<m)(h:∀q,p<q->q<m->f q=[]):(List.range m).flatMap f=(List.range p).flatMap f++f p:=by
 have e:m=p+1+(m-p-1):=by omega
 rw[e,List.range_add,List.flatMap_append,List.range_succ,List.flatMap_append];have:(List.map (fun x=>p+1+x) (List.range (m-p-1))).flatMap f=[]:=by
  rw[List.flatMap_map];have:(List.range (m-p-1)).flatMap (fun x=>f (p+1+x))=(List.range (m-p-1)).flatMap (fun _=>([]:List α)):=BT (fun i hi=>h _ (by omega) (by omega));rw[this];simp
 rw[this];simp
theorem Qh(mk:Nat->Bool)(m:Nat):Br mk (m+1) (m+1)=if mk m then CL (Br mk m m) m else Br mk m m:=by
 cases hm:mk m
 ·rw[if_neg (by decide),GL,if_neg (by unfold CO;rw[hm];simp),List.append_nil];unfold Br;refine BT (fun p hp=>?_);have rl:BO mk (m+1) p=BO mk m p:=by rw[Fc mk m p (by omega),if_neg (fun h=>by rw[hm] at h;cases h.2)]
  rw[rl]
 ·rw[if_pos rfl,GL];rcases Nat.eq_zero_or_pos m with h0|h0
  ·subst h0;rw[if_pos (by unfold CO;rw[hm];rfl)];(have:BO mk (0+1) 0=1:=by rw[Gj mk (0+1) 0 (fun k hk=>by rw[show 0+k=0 by omega];exact hm)]);rw[this];rfl
  ·cases hm1:mk (m-1)
   ·rw[if_pos (by unfold CO;rw[hm,hm1];simp)];(have e1:BO mk (m+1) m=1:=by rw[Gj mk (m+1) m (fun k hk=>by rw[show m+k=m by omega];exact hm)];omega);have nf:∀p,p<m->¬∀k,k<m-p->mk (p+k)=true:=fun p hp h=>by
     have:=h (m-1-p) (by omega);rw[show p+(m-1-p)=m-1 by omega,hm1] at this;cases this
    have e2:Br mk (m+1) m=Br mk m m:=by
     unfold Br;refine BT (fun p hp=>?_);(have rl:BO mk (m+1) p=BO mk m p:=by rw[Fc mk m p (by omega),if_neg (fun h=>nf p hp h.1)]);rw[rl]
    rw[e1,e2];unfold CL;cases hl:(Br mk m m).getLast? with
    | none=>rw[List.getLast?_eq_none_iff] at hl;rw[hl];rfl
    | some r =>
     have hr:r∈Br mk m m:=List.mem_of_getLast? hl;unfold Br at hr;obtain⟨p,hp,hr⟩:=List.mem_flatMap.1 hr;have hp':=List.mem_range.1 hp;split at hr
     ·rw[List.mem_singleton] at hr;have:=Oh mk m p (nf p hp');subst hr;dsimp only;rw[if_neg (by omega)]
     ·cases hr
   ·rw[if_neg (by unfold CO;rw[hm,hm1];simp;omega),List.append_nil];obtain⟨p,h1,h2,h3,h4⟩:=IG mk (m-1) hm1;(have h3':∀k,k<m-p->mk (p+k)=true:=fun k hk=>h3 k (by omega));have hsp:∀M,Br mk M m=Br mk M p++[(p,BO mk M p)]:=fun M=>by
     unfold Br;rw[QA _ m p (by omega) (fun q hq1 hq2=>by rw[h4 q hq1 (by omega)];rfl),if_pos h2]
    have e2:Br mk (m+1) p=Br mk m p:=by
     unfold Br;refine BT (fun q hq=>?_);have rl:BO mk (m+1) q=BO mk m q:=by
      rw[Fc mk m q (by omega),if_neg (fun h=>?_)];have hq1:=h.1 (p-1-q) (by omega);rw[show q+(p-1-q)=p-1 by omega] at hq1;unfold CO at h2;rw[hq1] at h2;simp at h2;omega
     rw[rl]
    rw[hsp (m+1),hsp m,e2,Gj mk m p h3',Fc mk m p (by omega),if_pos ⟨h3',hm⟩];unfold CL;rw[List.getLast?_append];simp only[List.getLast?_singleton,Option.some_or];rw[if_pos (by omega),List.dropLast_concat,show m-p+1=m+1-p by omega]
theorem Rd(mk:Nat->Bool):∀m,((List.range m).filter mk).foldl CL []=Br mk m m
 | 0=>rfl
 | m+1=>by
  rw[Qh,List.range_succ,List.filter_append,List.foldl_append,Rd mk m];cases hm:mk m
  ·simp[hm]
  ·simp[hm]
def key (q:P3):Int:=q.pg*4+q.lv
theorem Lb(zs:List Int)(n:Int):∀(d:Nat) (p:P3),p.lv=3-(d:Int)->d<=2->(∀q∈Ax zs n d p,key p<=key q/\key q<4*(p.pg+16*BX p.lv))/\(Ax zs n d p).Pairwise (fun a b=>key a<key b)
 | 0,p,hp,_=>by
  have e:Ax zs n 0 p=[p]:=rfl;rw[e];refine⟨fun q hq=>?_,List.pairwise_singleton _ _⟩;rw[List.mem_singleton] at hq;subst hq;have hc:BX q.lv=1:=by rw[hp];rfl
  rw[hc];unfold key;omega
 | d+1,p,hp,hd=>by
  have e:Ax zs n (d+1) p=Ar zs n (Ax zs n d) p 16:=rfl;have hcov:BX p.lv=16*BX (p.lv+1)/\1<=BX (p.lv+1):=by
   (have:d=0\/d=1:=by omega);rcases this with rfl|rfl<;>(rw[hp];decide)
  have ih:=fun i=>Lb zs n d (Af zs p i) (by show p.lv+1=_;omega) (by omega)
  have main:∀k,k<=16->(∀q∈Ar zs n (Ax zs n d) p k,key p<=key q/\(q=p\/key q<4*(p.pg+k*BX p.lv)))/\(Ar zs n (Ax zs n d) p k).Pairwise (fun a b=>key a<key b):=by
   intro k;induction k with
   | zero =>
    intro _;have e0:Ar zs n (Ax zs n d) p 0=[p]:=rfl;rw[e0];refine⟨fun q hq=>?_,List.pairwise_singleton _ _⟩;rw[List.mem_singleton] at hq;subst hq;exact⟨Int.le_refl _,.inl rfl⟩
   | succ k ihk =>
    intro hk;obtain⟨h1,h2⟩:=ihk (by omega);rw[GJ];have hu1:(Af zs p k).lv=p.lv+1:=rfl;have hu2:(Af zs p k).pg=p.pg+k*BX p.lv:=rfl;(have hk1:((k:Nat):Int)*BX p.lv+BX p.lv=((k+1:Nat):Int)*BX p.lv:=by rw[show ((k+1:Nat):Int)=(k:Int)+1 by omega,Int.add_mul,Int.one_mul]);have hk0:0<=(k:Int)*BX p.lv:=Int.mul_nonneg (by omega) (by omega);have hnew:∀q∈(if Dq zs n p k then Ax zs n d (Af zs p k) else []),4*(p.pg+k*BX p.lv)+p.lv+1<=key q/\key q<4*(p.pg+((k+1:Nat):Int)*BX p.lv):=by
     intro q hq;split at hq
     ·have:=(ih k).1 q hq;rw[hu1,hu2] at this;unfold key at this ⊢;rw[hu1,hu2] at this;omega
     ·cases hq
    refine⟨fun q hq=>?_,?_⟩
    ·rcases List.mem_append.1 hq with hq|hq
     ·obtain⟨a,b⟩:=h1 q hq;refine⟨a,?_⟩;rcases b with b|b
      ·exact .inl b
      ·right;omega
     ·have:=hnew q hq;refine⟨?_,.inr this.2⟩;unfold key at this ⊢;omega
    ·rw[List.pairwise_append];refine⟨h2,?_,fun a ha b hb=>?_⟩
     ·split
      ·exact(ih k).2
      ·exact List.Pairwise.nil
     ·have hb':=hnew b hb;obtain⟨_,h⟩:=h1 a ha;rcases h with h|h
      ·subst h;unfold key at hb' ⊢;omega
      ·omega
  obtain⟨h1,h2⟩:=main 16 (Nat.le_refl _);rw[e];refine⟨fun q hq=>?_,h2⟩;obtain⟨a,b⟩:=h1 q hq;refine⟨a,?_⟩;rcases b with b|b
  ·subst b;unfold key;omega
  ·have e16:((16:Nat):Int)=16:=rfl;rw[e16] at b;exact b
theorem TP(zs:List Int)(n:Int)(q:P3)(h:q∈Ax zs n 2 ⟨0,1,0⟩):q=⟨0,1,0⟩\/(∃i:Nat,i<16/\q.lv=2/\q.pg=(i*256:Nat)/\0<=q.fr/\q.fr<n)\/(∃i j:Nat,i<16/\j<16/\q.lv=3/\q.pg=(i*256+j*16:Nat)/\0<=q.fr/\q.fr<n/\∃r∈Ax zs n 2 ⟨0,1,0⟩,r.lv=2/\r.pg=(i*256:Nat)):=by
 have c1:BX 1=256:=rfl;have c2:BX 2=16:=rfl;have e:Ax zs n 2 ⟨0,1,0⟩=⟨0,1,0⟩ :: (List.range 16).flatMap fun i=>if Dq zs n ⟨0,1,0⟩ i then Ax zs n 1 (Af zs ⟨0,1,0⟩ i) else []:=rfl
 have e2:∀p,Ax zs n 1 p=p :: (List.range 16).flatMap fun i=>if Dq zs n p i then Ax zs n 0 (Af zs p i) else []:=fun p=>rfl
 rw[e] at h;rcases List.mem_cons.1 h with h|h
 ·exact .inl h
 ·obtain⟨i,hi,h⟩:=List.mem_flatMap.1 h;have hi':=List.mem_range.1 hi;split at h
  ·rename_i hl;have hfr:0<=(Af zs ⟨0,1,0⟩ i).fr/\(Af zs ⟨0,1,0⟩ i).fr<n:=by
    unfold Dq at hl;simp only[Bool.and_eq_true,decide_eq_true_eq] at hl;exact⟨(Ci _ _).1,hl.2⟩
   have hpg:(Af zs ⟨0,1,0⟩ i).pg=(i*256:Nat):=by
    show (0:Int)+i*BX 1=_;rw[c1];omega
   have hself:Af zs ⟨0,1,0⟩ i∈Ax zs n 2 ⟨0,1,0⟩:=by
    rw[e];refine List.mem_cons_of_mem _ (List.mem_flatMap.2 ⟨i,hi,?_⟩);rw[if_pos hl,e2];exact List.mem_cons_self ..
   rw[e2] at h;rcases List.mem_cons.1 h with h|h
   ·subst h;exact .inr (.inl ⟨i,hi',rfl,hpg,hfr⟩)
   ·obtain⟨j,hj,h⟩:=List.mem_flatMap.1 h;have hj':=List.mem_range.1 hj;split at h
    ·rename_i hl2;have e3:Ax zs n 0 (Af zs (Af zs ⟨0,1,0⟩ i) j)=[Af zs (Af zs ⟨0,1,0⟩ i) j]:=rfl;rw[e3,List.mem_singleton] at h;subst h;refine .inr (.inr ⟨i,j,hi',hj',rfl,?_,?_,?_,Af zs ⟨0,1,0⟩ i,hself,rfl,hpg⟩)
     ·show (Af zs ⟨0,1,0⟩ i).pg+j*BX 2=_;rw[hpg,c2];omega
     ·exact(Ci _ _).1
     ·unfold Dq at hl2;simp only[Bool.and_eq_true,decide_eq_true_eq] at hl2;exact hl2.2
    ·cases h
  ·cases h
theorem Cg{qs:List P3}(hs:qs.Pairwise (fun a b=>key a<key b)){q:P3}(hq:q∈qs):AI qs q.lv q.pg=q.fr:=by
 unfold AI;induction qs with
 | nil=>cases hq
 | cons a r ih =>
  obtain⟨h1,h2⟩:=List.pairwise_cons.1 hs;rcases List.mem_cons.1 hq with e|e
  ·subst e;rw[List.find?_cons_of_pos (by unfold B5;simp)]
  ·have hne:B5 q.lv q.pg a=false:=by
    unfold B5;rw[decide_eq_false_iff_not];rintro⟨x,y⟩;have:=h1 q e;unfold key at this;omega
   rw[List.find?_cons_of_neg (by rw[hne];decide)];exact ih h2 e
structure Bc (n:Int) (ps:List P3):Prop where
 sorted:ps.Pairwise (fun a b=>key a<key b)
 root:(⟨0,1,0⟩:P3)∈ps
 mem:∀q∈ps,q=⟨0,1,0⟩\/(∃i:Nat,i<16/\q.lv=2/\q.pg=(i*256:Nat)/\0<=q.fr/\q.fr<n)\/(∃i j:Nat,i<16/\j<16/\q.lv=3/\q.pg=(i*256+j*16:Nat)/\0<=q.fr/\q.fr<n/\∃r∈ps,r.lv=2/\r.pg=(i*256:Nat))
theorem Ek(zs:List Int)(n:Int):Bc n (Ax zs n 2 ⟨0,1,0⟩) :=
 ⟨(Lb zs n 2 ⟨0,1,0⟩ rfl (by decide)).2,List.mem_cons_self ..,fun q hq=>TP zs n q hq⟩
theorem Bc.lv{n:Int}{ps:List P3}(h:Bc n ps){q:P3}(hq:q∈ps):1<=q.lv/\q.lv<=3:=by
 rcases h.mem q hq with e|⟨i,_,e,_⟩|⟨i,j,_,_,e,_⟩
 ·rw[e];decide
 ·omega
 ·omega
theorem Bc.fr{n:Int}{ps:List P3}(h:Bc n ps)(hn:0<n){q:P3}(hq:q∈ps):0<=q.fr/\q.fr<n:=by
 rcases h.mem q hq with e|⟨i,_,_,_,e⟩|⟨i,j,_,_,_,_,e1,e2,_⟩
 ·rw[e];exact⟨Int.le_refl _,hn⟩
 ·exact e
 ·exact⟨e1,e2⟩
theorem Bc.pg{n:Int}{ps:List P3}(h:Bc n ps){q:P3}(hq:q∈ps):0<=q.pg/\q.pg+16*BX q.lv<=4096:=by
 rcases h.mem q hq with e|⟨i,hi,e,hp,_⟩|⟨i,j,hi,hj,e,hp,_⟩
 ·rw[e];decide
 ·rw[e,hp,show BX 2=16 from rfl];omega
 ·rw[e,hp,show BX 3=1 from rfl];omega
def AF (H:Nat->Ht) (ps:List P3):List P3:=ps.filter (PP H)
def Cm (H:Nat->Ht) (ps:List P3):List P3:=ps.filter (fun p=>!PP H p)
theorem BB{H:Nat->Ht}{ps:List P3}{q:P3}:q∈AF H ps↔q∈ps/\PP H q=true:=by unfold AF;exact List.mem_filter
theorem D3{n:Int}{ps:List P3}(H:Nat->Ht)(h:Bc n ps):(AF H ps).Pairwise (fun a b=>key a<key b):=h.sorted.filter _
theorem Ry{n:Int}{ps:List P3}(H:Nat->Ht)(hn:0<n)(h:Bc n ps):Lu (AF H ps):=by
 have hs:=D3 H h;refine⟨?_,?_,?_⟩
 ·exact Cg hs (BB.2 ⟨h.root,by unfold PP;exact Fe H _⟩)
 ·intro i j hj h0;obtain⟨q,hq,h1,h2,h3⟩:=Co h0;obtain⟨hq1,hq2⟩:=BB.1 hq;rcases h.mem q hq1 with e|⟨i',_,e,_⟩|⟨i',j',hi',hj',_,e,_,_,r,hr,hr1,hr2⟩
  ·rw[e] at h1;simp at h1
  ·rw[e] at h1;simp at h1
  ·(have hij:i'=i:=by omega);subst hij;have hr3:r∈AF H ps:=by
    refine BB.2 ⟨hr,?_⟩;unfold PP at hq2 ⊢;rw[h1,h2] at hq2;rw[hr1,hr2];exact VQ hj hq2
   have:=Cg hs hr3;rw[hr1,hr2] at this;have h4:=(h.fr hn hr).1;rw[<- this] at h4;exact h4
 ·intro p
  have:AI (AF H ps) 4 p=-1:=Em (fun q hq hh=>by
   have:=(h.lv (BB.1 hq).1).2
   omega)
  omega
def Jk (s:Nat×Nat):Nat:=s.2*4+s.1
theorem P5{H:Nat->Ht}{g:Nat}{s:Nat×Nat}(h:s∈Es H g):(s=(2,g*16)/\g%16=0/\nd H 2 (g*16)=true)\/(s=(3,g*16)/\nd H 3 (g*16)=true):=by
 unfold Es st at h;rcases List.mem_append.1 h with h|h
 ·split at h
  ·rename_i hh;rw[List.mem_singleton] at h;exact .inl ⟨h,hh⟩
  ·cases h
 ·split at h
  ·rename_i hh;rw[List.mem_singleton] at h;exact .inr ⟨h,hh⟩
  ·cases h
theorem Ot(H:Nat->Ht)(g:Nat):(Es H g).Pairwise (fun a b=>Jk a<Jk b):=by
 unfold Es st;split<;>split<;>simp[Jk]
theorem Ky(H:Nat->Ht):∀g,(∀s∈AJ H g,Jk s<g*64+2)/\(AJ H g).Pairwise (fun a b=>Jk a<Jk b)
 | 0=>by
  have e:AJ H 0=[(1,0)]:=rfl;rw[e];exact⟨fun s hs=>by rw[List.mem_singleton] at hs;subst hs;decide,List.pairwise_singleton _ _⟩
 | g+1=>by
  obtain⟨h1,h2⟩:=Ky H g;rw[Hc];have hk:∀s∈Es H g,g*64+2<=Jk s/\Jk s<(g+1)*64+2:=fun s hs=>by
   rcases P5 hs with⟨rfl,_⟩|⟨rfl,_⟩<;>(unfold Jk;dsimp only;omega)
  refine⟨fun s hs=>?_,?_⟩
  ·rcases List.mem_append.1 hs with hs|hs
   ·have:=h1 s hs;omega
   ·exact(hk s hs).2
  ·rw[List.pairwise_append];refine⟨h2,Ot H g,fun a ha b hb=>?_⟩;have:=h1 a ha;have:=(hk b hb).1;omega
theorem Jt(H:Nat->Ht)(g:Nat):(AJ H g).Pairwise (fun a b=>Jk a<Jk b):=(Ky H g).2
theorem Ii{H:Nat->Ht}{n:Nat}{s:Nat×Nat}:s∈AJ H n↔s=(1,0)\/∃g,g<n/\s∈Es H g:=by
 unfold AJ;rw[List.mem_cons,List.mem_flatMap];exact or_congr Iff.rfl ⟨fun ⟨g,a,b⟩=>⟨g,List.mem_range.1 a,b⟩,fun ⟨g,a,b⟩=>⟨g,List.mem_range.2 a,b⟩⟩
theorem BY{H:Nat->Ht}{s:Nat×Nat}(h:s∈AJ H 256):1<=s.1/\s.1<=3/\s.2+Ga s.1<=4096/\nd H s.1 s.2=true/\(s.1=1->s.2=0)/\s.2%Ga s.1=0:=by
 rcases Ii.1 h with rfl|⟨g,hg,hs⟩
 ·exact⟨by decide,by decide,by decide,Fe H 0,fun _=>rfl,by decide⟩
 ·rcases P5 hs with⟨rfl,hm,hn⟩|⟨rfl,hn⟩
  ·exact⟨show 1<=2 by decide,show 2<=3 by decide,show g*16+256<=4096 by omega,hn,fun h=>absurd (show (2:Nat)=1 from h) (by decide),show g*16%256=0 by omega⟩
  ·exact⟨show 1<=3 by decide,show 3<=3 by decide,show g*16+16<=4096 by omega,hn,fun h=>absurd (show (3:Nat)=1 from h) (by decide),show g*16%16=0 by omega⟩
theorem Lg{H:Nat->Ht}{i:Nat}(hi:i<16)(h:nd H 2 (i*256)=true):(2,i*256)∈AJ H 256:=by
 refine Ii.2 (.inr ⟨i*16,by omega,?_⟩);unfold Es;rw[show i*16*16=i*256 by omega,if_pos ⟨by omega,h⟩];exact List.mem_append_left _ (List.mem_singleton.2 rfl)
theorem L9{H:Nat->Ht}{g:Nat}(hg:g<256)(h:nd H 3 (g*16)=true):(3,g*16)∈AJ H 256:=by
 refine Ii.2 (.inr ⟨g,hg,?_⟩);unfold Es st;rw[h];exact List.mem_append_right _ (List.mem_singleton.2 rfl)
theorem Dh{H:Nat->Ht}{n:Int}{ps:List P3}(h:Bc n ps){q:P3}(hq:q∈AF H ps):(q.lv.toNat,q.pg.toNat)∈AJ H 256/\((q.lv.toNat:Nat):Int)=q.lv/\((q.pg.toNat:Nat):Int)=q.pg:=by
 obtain⟨h1,h2⟩:=BB.1 hq;unfold PP at h2;rcases h.mem q h1 with e|⟨i,hi,e1,e2,_⟩|⟨i,j,hi,hj,e1,e2,_⟩
 ·rw[e];exact⟨Ii.2 (.inl rfl),rfl,rfl⟩
 ·rw[e1,e2] at h2 ⊢;have e3:(2:Int).toNat=2:=rfl;have e4:((i*256:Nat):Int).toNat=i*256:=rfl;rw[e3,e4] at h2 ⊢;exact⟨Lg hi h2,rfl,rfl⟩
 ·rw[e1,e2] at h2 ⊢;have e3:(3:Int).toNat=3:=rfl;have e4:((i*256+j*16:Nat):Int).toNat=i*256+j*16:=rfl;rw[e3,e4] at h2 ⊢;rw[show i*256+j*16=(i*16+j)*16 by omega] at h2 ⊢;exact⟨L9 (by omega) h2,rfl,rfl⟩
theorem SF{α:Type}[BEq α][LawfulBEq α]:∀(l m:List α),l.Pairwise (fun a b=>a≠b)->(∀x∈l,x∈m)->l.length<=m.length
 | [],m,_,_=>Nat.zero_le _
 | x :: r,m,hp,hs=>by
  obtain⟨h1,h2⟩:=List.pairwise_cons.1 hp;have hx:x∈m:=hs x (List.mem_cons_self ..);have:=SF r (m.erase x) h2 (fun y hy=>(List.mem_erase_of_ne (fun e=>h1 y hy e.symm)).2 (hs y (List.mem_cons_of_mem _ hy)));rw[List.length_erase_of_mem hx] at this;have hpos:0<m.length:=List.length_pos_of_mem hx;rw[List.length_cons];omega
def Om (kept:List P3) (s:Nat×Nat):Bool:=decide (0<=AI kept s.1 s.2)
theorem S7{H:Nat->Ht}{n:Int}{ps:List P3}(hn:0<n)(h:Bc n ps):(AF H ps).length<=(AJ H 256).countP (Om (AF H ps)):=by
 have hs:=D3 H h;have hl:((AF H ps).map (fun q=>(q.lv.toNat,q.pg.toNat))).length<=((AJ H 256).filter (Om (AF H ps))).length:=by
  refine SF _ _ ?_ ?_
  ·rw[List.pairwise_map];refine List.Pairwise.imp_of_mem ?_ hs;intro a b ha hb hlt e;obtain⟨_,a1,a2⟩:=Dh h ha;obtain⟨_,b1,b2⟩:=Dh h hb;simp only[Prod.mk.injEq] at e;unfold key at hlt;rw[<- a1,<- a2,<- b1,<- b2,e.1,e.2] at hlt;omega
  ·intro x hx;obtain⟨q,hq,rfl⟩:=List.mem_map.1 hx;obtain⟨h1,h2,h3⟩:=Dh h hq;refine List.mem_filter.2 ⟨h1,?_⟩;unfold Om;dsimp only;rw[h2,h3,Cg hs hq];exact decide_eq_true (h.fr hn (BB.1 hq).1).1
 rwa [List.length_map,<- List.countP_eq_length_filter] at hl
theorem G5(kept:List P3)(ws:List (Nat×Nat)):∀k,k<=ws.length->(Bd kept ws k).length+(ws.take k).countP (Om kept)=k
 | 0,_=>by rw[DE];simp
 | k+1,h=>by
  have ih:=G5 kept ws k (by omega);rw[De kept ws k (by omega),List.take_succ_eq_append_getElem (by omega),List.countP_append];unfold EF;by_cases hc:AI kept (ws[k]'(by omega)).1 (ws[k]'(by omega)).2<0
  ·rw[if_pos hc,List.length_append,List.length_singleton];have:List.countP (Om kept) [ws[k]'(by omega)]=0:=by
    rw[List.countP_singleton];unfold Om;rw[if_neg (by simp;omega)]
   omega
  ·rw[if_neg hc];have:List.countP (Om kept) [ws[k]'(by omega)]=1:=by
    rw[List.countP_singleton];unfold Om;rw[if_pos (by simp;omega)]
   omega
theorem Ln{H:Nat->Ht}{n:Int}{ps:List P3}(hn:0<n)(h:Bc n ps)(k:Nat)(hk:k<(AJ H 256).length)(hf:AI (AF H ps) ((AJ H 256)[k]).1 ((AJ H 256)[k]).2<0):(AF H ps++Bd (AF H ps) (AJ H 256) k).length<(AJ H 256).length:=by
 have h1:=S7 (H:=H) hn h;have h2:=G5 (AF H ps) (AJ H 256) k (by omega);have e:(AJ H 256).countP (Om (AF H ps))=((AJ H 256).take k).countP (Om (AF H ps))+((AJ H 256).drop k).countP (Om (AF H ps)):=by
  rw[<- List.countP_append,List.take_append_drop]
 have e2:(AJ H 256).drop k=(AJ H 256)[k] :: (AJ H 256).drop (k+1):=List.drop_eq_getElem_cons hk;have e3:((AJ H 256).drop k).countP (Om (AF H ps))<=(AJ H 256).length-(k+1):=by
  rw[e2,List.countP_cons_of_neg (by unfold Om;simp;omega)];have:=List.countP_le_length (p:=Om (AF H ps)) (l:=(AJ H 256).drop (k+1));rwa [List.length_drop] at this
 rw[List.length_append];omega
theorem Db{H:Nat->Ht}{n:Nat}{ps:List P3}(hn:0<n)(h:Bc n ps)(hw:(AJ H 256).length<=n):∀k,k<=(AJ H 256).length->∀q∈Bd (AF H ps) (AJ H 256) k,∃j,∃hj:j<k,∃hj2:j<(AJ H 256).length,q.lv=((AJ H 256)[j]).1/\q.pg=((AJ H 256)[j]).2/\AI (AF H ps) q.lv q.pg<0/\∃F:Nat,q.fr=F/\F<n
 | 0,_,q,hq=>by rw[DE] at hq;cases hq
 | k+1,hk,q,hq=>by
  rw[De _ _ k (by omega)] at hq;unfold EF at hq;split at hq
  ·rename_i hf;rcases List.mem_append.1 hq with hq|hq
   ·obtain⟨j,hj,r⟩:=Db hn h hw k (by omega) q hq;exact⟨j,by omega,r⟩
   ·rw[List.mem_singleton] at hq;have hr:=Ln (H:=H) (n:=n) (by omega) h k (by omega) hf;have hl:=(Fu (AF H ps++Bd (AF H ps) (AJ H 256) k)).1;subst hq;exact⟨k,by omega,by omega,rfl,rfl,hf,_,rfl,by omega⟩
  ·obtain⟨j,hj,r⟩:=Db hn h hw k (by omega) q hq;exact⟨j,by omega,r⟩
end Go.Proofs.YtnmhkgmmpkjjeaaGreat
