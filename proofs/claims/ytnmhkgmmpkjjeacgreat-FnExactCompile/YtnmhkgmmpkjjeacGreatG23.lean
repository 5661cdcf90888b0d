import Derived.Test.YtnmhkgmmpkjjeacGreatG07
import Derived.Test.YtnmhkgmmpkjjeacGreatG03
import Derived.Deep.RegionHeld3
import Derived.Deep.DrawnRows
import Derived.Test.YtnmhkgmmpkjjeacGreatG05
import Derived.Test.YtnmhkgmmpkjjeacGreatG22
namespace Go.Proofs.YtnmhkgmmpkjjeacGreat
set_option linter.unusedVariables false
def key (q:P3):Int:=q.pg * 4+q.lv
theorem below_keys (zs:List Int) (n:Int):∀ (d:Nat) (p:P3),p.lv=3 - (d:Int)->d<=2->(∀ q ∈ belowL zs n d p,key p<=key q/\key q < 4 * (p.pg+16 * cov p.lv))/\(belowL zs n d p).Pairwise (fun a b=>key a < key b)
 | 0,p,hp,_=>by
  have e:belowL zs n 0 p=[p]:=rfl
  rw [e]
  refine ⟨fun q hq=>?_,List.pairwise_singleton _ _⟩
  rw [List.mem_singleton] at hq
  subst hq
  have hc:cov q.lv=1:=by rw [hp]; rfl
  rw [hc]
  unfold key
  omega
 | d+1,p,hp,hd=>by
  have e:belowL zs n (d+1) p=downs zs n (belowL zs n d) p 16:=rfl
  have hcov:cov p.lv=16 * cov (p.lv+1)/\1<=cov (p.lv+1):=by
   have:d=0\/d=1:=by omega
   rcases this with rfl | rfl <;> (rw [hp]; decide)
  have ih:=fun i=>below_keys zs n d (under zs p i) (by show p.lv+1=_; omega) (by omega)
  have main:∀ k,k<=16->(∀ q ∈ downs zs n (belowL zs n d) p k,key p<=key q/\(q=p\/key q < 4 * (p.pg+k * cov p.lv)))/\(downs zs n (belowL zs n d) p k).Pairwise (fun a b=>key a < key b):=by
   intro k
   induction k with
   | zero =>
    intro _
    have e0:downs zs n (belowL zs n d) p 0=[p]:=rfl
    rw [e0]
    refine ⟨fun q hq=>?_,List.pairwise_singleton _ _⟩
    rw [List.mem_singleton] at hq
    subst hq
    exact ⟨Int.le_refl _,.inl rfl⟩
   | succ k ihk =>
    intro hk
    obtain ⟨h1,h2⟩:=ihk (by omega)
    rw [downs_succ]
    have hu1:(under zs p k).lv=p.lv+1:=rfl
    have hu2:(under zs p k).pg=p.pg+k * cov p.lv:=rfl
    have hk1:((k:Nat):Int) * cov p.lv+cov p.lv=((k+1:Nat):Int) * cov p.lv:=by rw [show ((k+1:Nat):Int)=(k:Int)+1 by omega,Int.add_mul,Int.one_mul]
    have hk0:0<=(k:Int) * cov p.lv:=Int.mul_nonneg (by omega) (by omega)
    have hnew:∀ q ∈ (if leads zs n p k then belowL zs n d (under zs p k) else []),4 * (p.pg+k * cov p.lv)+p.lv+1<=key q/\key q < 4 * (p.pg+((k+1:Nat):Int) * cov p.lv):=by
     intro q hq
     split at hq
     ·have:=(ih k).1 q hq
      rw [hu1,hu2] at this
      unfold key at this ⊢
      rw [hu1,hu2] at this
      omega
     ·cases hq
    refine ⟨fun q hq=>?_,?_⟩
    ·rcases List.mem_append.1 hq with hq | hq
     ·obtain ⟨a,b⟩:=h1 q hq
      refine ⟨a,?_⟩
      rcases b with b | b
      ·exact .inl b
      ·right; omega
     ·have:=hnew q hq
      refine ⟨?_,.inr this.2⟩
      unfold key at this ⊢
      omega
    ·rw [List.pairwise_append]
     refine ⟨h2,?_,fun a ha b hb=>?_⟩
     ·split
      ·exact (ih k).2
      ·exact List.Pairwise.nil
     ·have hb':=hnew b hb
      obtain ⟨_,h⟩:=h1 a ha
      rcases h with h | h
      ·subst h
       unfold key at hb' ⊢
       omega
      ·omega
  obtain ⟨h1,h2⟩:=main 16 (Nat.le_refl _)
  rw [e]
  refine ⟨fun q hq=>?_,h2⟩
  obtain ⟨a,b⟩:=h1 q hq
  refine ⟨a,?_⟩
  rcases b with b | b
  ·subst b
   unfold key
   have hl:q.lv<=3:=by omega
   omega
  ·have e16:((16:Nat):Int)=16:=rfl
   rw [e16] at b
   exact b
theorem below_mem (zs:List Int) (n:Int) (q:P3) (h:q ∈ belowL zs n 2 ⟨0,1,0⟩) :
  q=⟨0,1,0⟩\/(∃ i:Nat,i < 16/\q.lv=2/\q.pg=(i * 256:Nat)/\0<=q.fr/\q.fr < n)\/(∃ i j:Nat,i < 16/\j < 16/\q.lv=3/\q.pg=(i * 256+j * 16:Nat)/\0<=q.fr/\q.fr < n/\∃ r ∈ belowL zs n 2 ⟨0,1,0⟩,r.lv=2/\r.pg=(i * 256:Nat)):=by
 have c1:cov 1=256:=rfl
 have c2:cov 2=16:=rfl
 have e:belowL zs n 2 ⟨0,1,0⟩=⟨0,1,0⟩ :: (List.range 16).flatMap fun i=>if leads zs n ⟨0,1,0⟩ i then belowL zs n 1 (under zs ⟨0,1,0⟩ i) else []:=rfl
 have e2:∀ p,belowL zs n 1 p=p :: (List.range 16).flatMap fun i=>if leads zs n p i then belowL zs n 0 (under zs p i) else []:=fun p=>rfl
 rw [e] at h
 rcases List.mem_cons.1 h with h | h
 ·exact .inl h
 ·obtain ⟨i,hi,h⟩:=List.mem_flatMap.1 h
  have hi':=List.mem_range.1 hi
  split at h
  ·rename_i hl
   have hfr:0<=(under zs ⟨0,1,0⟩ i).fr/\(under zs ⟨0,1,0⟩ i).fr < n:=by
    unfold leads at hl
    simp only [Bool.and_eq_true,decide_eq_true_eq] at hl
    exact ⟨(dOut_lo _ _).1,hl.2⟩
   have hpg:(under zs ⟨0,1,0⟩ i).pg=(i * 256:Nat):=by
    show (0:Int)+i * cov 1=_
    rw [c1]; omega
   have hself:under zs ⟨0,1,0⟩ i ∈ belowL zs n 2 ⟨0,1,0⟩:=by
    rw [e]
    refine List.mem_cons_of_mem _ (List.mem_flatMap.2 ⟨i,hi,?_⟩)
    rw [if_pos hl,e2]
    exact List.mem_cons_self ..
   rw [e2] at h
   rcases List.mem_cons.1 h with h | h
   ·subst h
    exact .inr (.inl ⟨i,hi',rfl,hpg,hfr⟩)
   ·obtain ⟨j,hj,h⟩:=List.mem_flatMap.1 h
    have hj':=List.mem_range.1 hj
    split at h
    ·rename_i hl2
     have e3:belowL zs n 0 (under zs (under zs ⟨0,1,0⟩ i) j)=[under zs (under zs ⟨0,1,0⟩ i) j]:=rfl
     rw [e3,List.mem_singleton] at h
     subst h
     refine .inr (.inr ⟨i,j,hi',hj',rfl,?_,?_,?_,under zs ⟨0,1,0⟩ i,hself,rfl,hpg⟩)
     ·show (under zs ⟨0,1,0⟩ i).pg+j * cov 2=_
      rw [hpg,c2]; omega
     ·exact (dOut_lo _ _).1
     ·unfold leads at hl2
      simp only [Bool.and_eq_true,decide_eq_true_eq] at hl2
      exact hl2.2
    ·cases h
  ·cases h
theorem frOf_at {qs:List P3} (hs:qs.Pairwise (fun a b=>key a < key b)) {q:P3} (hq:q ∈ qs):frOf qs q.lv q.pg=q.fr:=by
 unfold frOf
 induction qs with
 | nil=>cases hq
 | cons a r ih =>
  obtain ⟨h1,h2⟩:=List.pairwise_cons.1 hs
  rcases List.mem_cons.1 hq with e | e
  ·subst e
   rw [List.find?_cons_of_pos (by unfold sameS; simp)]
  ·have hne:sameS q.lv q.pg a=false:=by
    unfold sameS
    rw [decide_eq_false_iff_not]
    rintro ⟨x,y⟩
    have:=h1 q e
    unfold key at this
    omega
   rw [List.find?_cons_of_neg (by rw [hne]; decide)]
   exact ih h2 e
structure PlcOk (n:Int) (ps:List P3):Prop where
 sorted:ps.Pairwise (fun a b=>key a < key b)
 root:(⟨0,1,0⟩:P3) ∈ ps
 mem:∀ q ∈ ps,q=⟨0,1,0⟩\/(∃ i:Nat,i < 16/\q.lv=2/\q.pg=(i * 256:Nat)/\0<=q.fr/\q.fr < n)\/(∃ i j:Nat,i < 16/\j < 16/\q.lv=3/\q.pg=(i * 256+j * 16:Nat)/\0<=q.fr/\q.fr < n/\∃ r ∈ ps,r.lv=2/\r.pg=(i * 256:Nat))
theorem plcOk_below (zs:List Int) (n:Int):PlcOk n (belowL zs n 2 ⟨0,1,0⟩) :=
 ⟨(below_keys zs n 2 ⟨0,1,0⟩ rfl (by decide)).2,List.mem_cons_self ..,fun q hq=>below_mem zs n q hq⟩
theorem PlcOk.lv {n:Int} {ps:List P3} (h:PlcOk n ps) {q:P3} (hq:q ∈ ps):1<=q.lv/\q.lv<=3:=by
 rcases h.mem q hq with e | ⟨i,_,e,_⟩ | ⟨i,j,_,_,e,_⟩
 ·rw [e]; decide
 ·omega
 ·omega
theorem PlcOk.fr {n:Int} {ps:List P3} (h:PlcOk n ps) (hn:0 < n) {q:P3} (hq:q ∈ ps):0<=q.fr/\q.fr < n:=by
 rcases h.mem q hq with e | ⟨i,_,_,_,e⟩ | ⟨i,j,_,_,_,_,e1,e2,_⟩
 ·rw [e]; exact ⟨Int.le_refl _,hn⟩
 ·exact e
 ·exact ⟨e1,e2⟩
theorem PlcOk.pg {n:Int} {ps:List P3} (h:PlcOk n ps) {q:P3} (hq:q ∈ ps):0<=q.pg/\q.pg+16 * cov q.lv<=4096:=by
 rcases h.mem q hq with e | ⟨i,hi,e,hp,_⟩ | ⟨i,j,hi,hj,e,hp,_⟩
 ·rw [e]; decide
 ·rw [e,hp,show cov 2=16 from rfl]; omega
 ·rw [e,hp,show cov 3=1 from rfl]; omega
def keptL (H:Nat->Ht) (ps:List P3):List P3:=ps.filter (ndP H)
def goneL (H:Nat->Ht) (ps:List P3):List P3:=ps.filter (fun p=>!ndP H p)
theorem kept_mem {H:Nat->Ht} {ps:List P3} {q:P3}:q ∈ keptL H ps ↔ q ∈ ps/\ndP H q=true:=by unfold keptL; exact List.mem_filter
theorem kept_sorted {n:Int} {ps:List P3} (H:Nat->Ht) (h:PlcOk n ps):(keptL H ps).Pairwise (fun a b=>key a < key b):=h.sorted.filter _
theorem kept_ok {n:Int} {ps:List P3} (H:Nat->Ht) (hn:0 < n) (h:PlcOk n ps):KeptOk (keptL H ps):=by
 have hs:=kept_sorted H h
 refine ⟨?_,?_,?_⟩
 ·exact frOf_at hs (kept_mem.2 ⟨h.root,by unfold ndP; exact nd_one H _⟩)
 ·intro i j hj h0
  obtain ⟨q,hq,h1,h2,h3⟩:=frOf_mem h0
  obtain ⟨hq1,hq2⟩:=kept_mem.1 hq
  rcases h.mem q hq1 with e | ⟨i',_,e,_⟩ | ⟨i',j',hi',hj',_,e,_,_,r,hr,hr1,hr2⟩
  ·rw [e] at h1; simp at h1
  ·rw [e] at h1; simp at h1
  ·have hij:i'=i:=by omega
   subst hij
   have hr3:r ∈ keptL H ps:=by
    refine kept_mem.2 ⟨hr,?_⟩
    unfold ndP at hq2 ⊢
    rw [h1,h2] at hq2
    rw [hr1,hr2]
    exact nd_up hj hq2
   have:=frOf_at hs hr3
   rw [hr1,hr2] at this
   have h4:=(h.fr hn hr).1
   rw [<- this] at h4
   exact h4
 ·intro p
  have:frOf (keptL H ps) 4 p=-1:=frOf_neg (fun q hq hh=>by
   have:=(h.lv (kept_mem.1 hq).1).2
   omega)
  omega
def skey (s:Nat × Nat):Nat:=s.2 * 4+s.1
theorem wOne_mem {H:Nat->Ht} {g:Nat} {s:Nat × Nat} (h:s ∈ wOne H g):(s=(2,g * 16)/\g % 16=0/\nd H 2 (g * 16)=true)\/(s=(3,g * 16)/\nd H 3 (g * 16)=true):=by
 unfold wOne st at h
 rcases List.mem_append.1 h with h | h
 ·split at h
  ·rename_i hh
   rw [List.mem_singleton] at h
   exact .inl ⟨h,hh⟩
  ·cases h
 ·split at h
  ·rename_i hh
   rw [List.mem_singleton] at h
   exact .inr ⟨h,hh⟩
  ·cases h
theorem wOne_sorted (H:Nat->Ht) (g:Nat):(wOne H g).Pairwise (fun a b=>skey a < skey b):=by
 unfold wOne st
 split <;> split <;> simp [skey]
theorem wPre_facts (H:Nat->Ht):∀ g,(∀ s ∈ wPre H g,skey s < g * 64+2)/\(wPre H g).Pairwise (fun a b=>skey a < skey b)
 | 0=>by
  have e:wPre H 0=[(1,0)]:=rfl
  rw [e]
  exact ⟨fun s hs=>by rw [List.mem_singleton] at hs; subst hs; decide,List.pairwise_singleton _ _⟩
 | g+1=>by
  obtain ⟨h1,h2⟩:=wPre_facts H g
  rw [wPre_succ]
  have hk:∀ s ∈ wOne H g,g * 64+2<=skey s/\skey s < (g+1) * 64+2:=fun s hs=>by
   rcases wOne_mem hs with ⟨rfl,_⟩ | ⟨rfl,_⟩ <;> (unfold skey; dsimp only; omega)
  refine ⟨fun s hs=>?_,?_⟩
  ·rcases List.mem_append.1 hs with hs | hs
   ·have:=h1 s hs; omega
   ·exact (hk s hs).2
  ·rw [List.pairwise_append]
   refine ⟨h2,wOne_sorted H g,fun a ha b hb=>?_⟩
   have:=h1 a ha
   have:=(hk b hb).1
   omega
theorem wPre_sorted (H:Nat->Ht) (g:Nat):(wPre H g).Pairwise (fun a b=>skey a < skey b):=(wPre_facts H g).2
theorem wPre_mem {H:Nat->Ht} {n:Nat} {s:Nat × Nat}:s ∈ wPre H n ↔ s=(1,0)\/∃ g,g < n/\s ∈ wOne H g:=by
 unfold wPre
 rw [List.mem_cons,List.mem_flatMap]
 exact or_congr Iff.rfl ⟨fun ⟨g,a,b⟩=>⟨g,List.mem_range.1 a,b⟩,fun ⟨g,a,b⟩=>⟨g,List.mem_range.2 a,b⟩⟩
theorem wanted_cases {H:Nat->Ht} {s:Nat × Nat} (h:s ∈ wPre H 256):1<=s.1/\s.1<=3/\s.2+tpg s.1<=4096/\nd H s.1 s.2=true/\(s.1=1->s.2=0)/\s.2 % tpg s.1=0:=by
 rcases wPre_mem.1 h with rfl | ⟨g,hg,hs⟩
 ·exact ⟨by decide,by decide,by decide,nd_one H 0,fun _=>rfl,by decide⟩
 ·rcases wOne_mem hs with ⟨rfl,hm,hn⟩ | ⟨rfl,hn⟩
  ·exact ⟨show 1<=2 by decide,show 2<=3 by decide,show g * 16+256<=4096 by omega,hn,fun h=>absurd (show (2:Nat)=1 from h) (by decide),show g * 16 % 256=0 by omega⟩
  ·exact ⟨show 1<=3 by decide,show 3<=3 by decide,show g * 16+16<=4096 by omega,hn,fun h=>absurd (show (3:Nat)=1 from h) (by decide),show g * 16 % 16=0 by omega⟩
theorem wanted_2 {H:Nat->Ht} {i:Nat} (hi:i < 16) (h:nd H 2 (i * 256)=true):(2,i * 256) ∈ wPre H 256:=by
 refine wPre_mem.2 (.inr ⟨i * 16,by omega,?_⟩)
 unfold wOne
 rw [show i * 16 * 16=i * 256 by omega,if_pos ⟨by omega,h⟩]
 exact List.mem_append_left _ (List.mem_singleton.2 rfl)
theorem wanted_3 {H:Nat->Ht} {g:Nat} (hg:g < 256) (h:nd H 3 (g * 16)=true):(3,g * 16) ∈ wPre H 256:=by
 refine wPre_mem.2 (.inr ⟨g,hg,?_⟩)
 unfold wOne st
 rw [h]
 exact List.mem_append_right _ (List.mem_singleton.2 rfl)
theorem kept_wanted {H:Nat->Ht} {n:Int} {ps:List P3} (h:PlcOk n ps) {q:P3} (hq:q ∈ keptL H ps):(q.lv.toNat,q.pg.toNat) ∈ wPre H 256/\((q.lv.toNat:Nat):Int)=q.lv/\((q.pg.toNat:Nat):Int)=q.pg:=by
 obtain ⟨h1,h2⟩:=kept_mem.1 hq
 unfold ndP at h2
 rcases h.mem q h1 with e | ⟨i,hi,e1,e2,_⟩ | ⟨i,j,hi,hj,e1,e2,_⟩
 ·rw [e]
  exact ⟨wPre_mem.2 (.inl rfl),rfl,rfl⟩
 ·rw [e1,e2] at h2 ⊢
  have e3:(2:Int).toNat=2:=rfl
  have e4:((i * 256:Nat):Int).toNat=i * 256:=rfl
  rw [e3,e4] at h2 ⊢
  exact ⟨wanted_2 hi h2,rfl,rfl⟩
 ·rw [e1,e2] at h2 ⊢
  have e3:(3:Int).toNat=3:=rfl
  have e4:((i * 256+j * 16:Nat):Int).toNat=i * 256+j * 16:=rfl
  rw [e3,e4] at h2 ⊢
  rw [show i * 256+j * 16=(i * 16+j) * 16 by omega] at h2 ⊢
  exact ⟨wanted_3 (by omega) h2,rfl,rfl⟩
theorem sub_len {α:Type} [BEq α] [LawfulBEq α]:∀ (l m:List α),l.Pairwise (fun a b=>a ≠ b)->(∀ x ∈ l,x ∈ m)->l.length<=m.length
 | [],m,_,_=>Nat.zero_le _
 | x :: r,m,hp,hs=>by
  obtain ⟨h1,h2⟩:=List.pairwise_cons.1 hp
  have hx:x ∈ m:=hs x (List.mem_cons_self ..)
  have:=sub_len r (m.erase x) h2 (fun y hy=>(List.mem_erase_of_ne (fun e=>h1 y hy e.symm)).2 (hs y (List.mem_cons_of_mem _ hy)))
  rw [List.length_erase_of_mem hx] at this
  have hpos:0 < m.length:=List.length_pos_of_mem hx
  rw [List.length_cons]
  omega
def isK (kept:List P3) (s:Nat × Nat):Bool:=decide (0<=frOf kept s.1 s.2)
theorem kept_le {H:Nat->Ht} {n:Int} {ps:List P3} (hn:0 < n) (h:PlcOk n ps):(keptL H ps).length<=(wPre H 256).countP (isK (keptL H ps)):=by
 have hs:=kept_sorted H h
 have hl:((keptL H ps).map (fun q=>(q.lv.toNat,q.pg.toNat))).length<=((wPre H 256).filter (isK (keptL H ps))).length:=by
  refine sub_len _ _ ?_ ?_
  ·rw [List.pairwise_map]
   refine List.Pairwise.imp_of_mem ?_ hs
   intro a b ha hb hlt e
   obtain ⟨_,a1,a2⟩:=kept_wanted h ha
   obtain ⟨_,b1,b2⟩:=kept_wanted h hb
   simp only [Prod.mk.injEq] at e
   unfold key at hlt
   rw [<- a1,<- a2,<- b1,<- b2,e.1,e.2] at hlt
   omega
  ·intro x hx
   obtain ⟨q,hq,rfl⟩:=List.mem_map.1 hx
   obtain ⟨h1,h2,h3⟩:=kept_wanted h hq
   refine List.mem_filter.2 ⟨h1,?_⟩
   unfold isK
   dsimp only
   rw [h2,h3,frOf_at hs hq]
   exact decide_eq_true (h.fr hn (kept_mem.1 hq).1).1
 rwa [List.length_map,<- List.countP_eq_length_filter] at hl
theorem frTo_count (kept:List P3) (ws:List (Nat × Nat)):∀ k,k<=ws.length->(frTo kept ws k).length+(ws.take k).countP (isK kept)=k
 | 0,_=>by rw [frTo_zero]; simp
 | k+1,h=>by
  have ih:=frTo_count kept ws k (by omega)
  rw [frTo_succ kept ws k (by omega),List.take_succ_eq_append_getElem (by omega),List.countP_append]
  unfold frStep
  by_cases hc:frOf kept (ws[k]'(by omega)).1 (ws[k]'(by omega)).2 < 0
  ·rw [if_pos hc,List.length_append,List.length_singleton]
   have:List.countP (isK kept) [ws[k]'(by omega)]=0:=by
    rw [List.countP_singleton]
    unfold isK
    rw [if_neg (by simp; omega)]
   omega
  ·rw [if_neg hc]
   have:List.countP (isK kept) [ws[k]'(by omega)]=1:=by
    rw [List.countP_singleton]
    unfold isK
    rw [if_pos (by simp; omega)]
   omega
theorem fresh_room {H:Nat->Ht} {n:Int} {ps:List P3} (hn:0 < n) (h:PlcOk n ps) (k:Nat) (hk:k < (wPre H 256).length) (hf:frOf (keptL H ps) ((wPre H 256)[k]).1 ((wPre H 256)[k]).2 < 0):(keptL H ps ++ frTo (keptL H ps) (wPre H 256) k).length < (wPre H 256).length:=by
 have h1:=kept_le (H:=H) hn h
 have h2:=frTo_count (keptL H ps) (wPre H 256) k (by omega)
 have e:(wPre H 256).countP (isK (keptL H ps))=((wPre H 256).take k).countP (isK (keptL H ps))+((wPre H 256).drop k).countP (isK (keptL H ps)):=by
  rw [<- List.countP_append,List.take_append_drop]
 have e2:(wPre H 256).drop k=(wPre H 256)[k] :: (wPre H 256).drop (k+1):=List.drop_eq_getElem_cons hk
 have e3:((wPre H 256).drop k).countP (isK (keptL H ps))<=(wPre H 256).length - (k+1):=by
  rw [e2,List.countP_cons_of_neg (by unfold isK; simp; omega)]
  have:=List.countP_le_length (p:=isK (keptL H ps)) (l:=(wPre H 256).drop (k+1))
  rwa [List.length_drop] at this
 rw [List.length_append]
 omega
theorem fresh_mem {H:Nat->Ht} {n:Nat} {ps:List P3} (hn:0 < n) (h:PlcOk n ps) (hw:(wPre H 256).length<=n):∀ k,k<=(wPre H 256).length->∀ q ∈ frTo (keptL H ps) (wPre H 256) k,∃ j,∃ hj:j < k,∃ hj2:j < (wPre H 256).length,q.lv=((wPre H 256)[j]).1/\q.pg=((wPre H 256)[j]).2/\frOf (keptL H ps) q.lv q.pg < 0/\∃ F:Nat,q.fr=F/\F < n
 | 0,_,q,hq=>by rw [frTo_zero] at hq; cases hq
 | k+1,hk,q,hq=>by
  rw [frTo_succ _ _ k (by omega)] at hq
  unfold frStep at hq
  split at hq
  ·rename_i hf
   rcases List.mem_append.1 hq with hq | hq
   ·obtain ⟨j,hj,r⟩:=fresh_mem hn h hw k (by omega) q hq
    exact ⟨j,by omega,r⟩
   ·rw [List.mem_singleton] at hq
    have hr:=fresh_room (H:=H) (n:=n) (by omega) h k (by omega) hf
    have hl:=(lowF_spec (keptL H ps ++ frTo (keptL H ps) (wPre H 256) k)).1
    subst hq
    exact ⟨k,by omega,by omega,rfl,rfl,hf,_,rfl,by omega⟩
  ·obtain ⟨j,hj,r⟩:=fresh_mem hn h hw k (by omega) q hq
   exact ⟨j,by omega,r⟩
end Go.Proofs.YtnmhkgmmpkjjeacGreat
namespace Go.Proofs.YtnmhkgmmpkjjeacGreat
open Go.ChangeShapes Go.WideShapes Go.ChangeAt Go.RowKit
set_option linter.unusedVariables false
set_option maxRecDepth 100000
attribute [local go_sem ↓] Go.wp_at_zero Go.wp_at_succ
theorem same_yes (k o p:Int) (w:World) :
  Calls Tryz.prog 85 #[.agg #[.int .i64 k,.int .i64 o,.int .i64 p],.agg #[.int .i64 k,.int .i64 o,.int .i64 p]] w fun e w'=>e=.returned (.bool true)/\Below w.heap.size w w':=by
 go_enter Tryz.func85,Tryz.ntmps85
 go_wp2
 go_ret
 exact ⟨rfl,((Below.refl _ _).alloc (Nat.le_refl _) _).alloc (by simp) _⟩
theorem same_no (k o p k' o' p':Int) (h:¬ (k=k'/\o=o'/\p=p')) (w:World) :
  Calls Tryz.prog 85 #[.agg #[.int .i64 k,.int .i64 o,.int .i64 p],.agg #[.int .i64 k',.int .i64 o',.int .i64 p']] w fun e w'=>e=.returned (.bool false)/\Below w.heap.size w w':=by
 by_cases a:k=k'
 ·by_cases b:o=o'
  ·have c:(p == p')=false:=by simp; intro c; exact h ⟨a,b,c⟩
   subst a b
   clear h
   go_enter Tryz.func85,Tryz.ntmps85
   go_wp2
   go_ret
   exact ⟨rfl,((Below.refl _ _).alloc (Nat.le_refl _) _).alloc (by simp) _⟩
  ·have b':(o == o')=false:=by simpa using b
   subst a
   clear h b
   go_enter Tryz.func85,Tryz.ntmps85
   go_wp2
   go_ret
   exact ⟨rfl,((Below.refl _ _).alloc (Nat.le_refl _) _).alloc (by simp) _⟩
 ·have a':(k == k')=false:=by simpa using a
  clear h a
  go_enter Tryz.func85,Tryz.ntmps85
  go_wp2
  go_ret
  exact ⟨rfl,((Below.refl _ _).alloc (Nat.le_refl _) _).alloc (by simp) _⟩
def encW (k o p:Int):Int:=1+p * 4+o * 4096+(if k=2 then 0 else 2)
abbrev Fits (l k o p:Int):Prop:=dKind l (encW k o p)=k/\dOut l (encW k o p)=o/\dPerm l (encW k o p)=p
theorem specEnc_kind (l k o p:Int) (h:¬ (k=1\/k=2\/k=3)) (w:World) :
  Calls Tryz.prog 61 #[.int .i64 l,.agg #[.int .i64 k,.int .i64 o,.int .i64 p]] w fun e w'=>e=.returned (.int .u64 0)/\Below w.heap.size w w':=by
 have a:(k != 1)=true:=by simp; omega
 have b:(k != 2)=true:=by simp; omega
 have c:(k != 3)=true:=by simp; omega
 clear h
 go_enter Tryz.func61,Tryz.ntmps61
 go_wp2
 go_ret
 exact ⟨rfl,(Below.refl _ _).alloc (Nat.le_refl _) _⟩
set_option maxHeartbeats 2000000 in
theorem specEnc_range (l k o p:Int) (h:k=1\/k=2\/k=3) (h':¬ (0<=o/\o < 65536/\0<=p/\p<=7)) (w:World) :
  Calls Tryz.prog 61 #[.int .i64 l,.agg #[.int .i64 k,.int .i64 o,.int .i64 p]] w fun e w'=>e=.returned (.int .u64 0)/\Below w.heap.size w w':=by
 have r:o < 0\/(0<=o/\65536<=o)\/(0<=o/\o < 65536/\p < 0)\/(0<=o/\o < 65536/\0<=p/\7 < p):=by omega
 clear h'
 rcases h with rfl | rfl | rfl <;> rcases r with r | ⟨r1,r2⟩ | ⟨r1,r2,r3⟩ | ⟨r1,r2,r3,r4⟩
 all_goals as_aux_lemma =>
  go_enter Tryz.func61,Tryz.ntmps61
  go_wp2
  go_ret
  exact ⟨rfl,(Below.refl _ _).alloc (Nat.le_refl _) _⟩
set_option maxHeartbeats 2000000 in
theorem specEnc_1 (l o p K O P:Int) (r:Bool) (a:0<=o) (b:o < 65536) (c:0<=p) (d:p<=7)
  (hd:∀ w,Calls Tryz.prog 57 #[.int .i64 l,.int .u64 (1+p * 4+o * 4096+2)] w fun e w'=>e=.returned (.agg #[.int .i64 K,.int .i64 O,.int .i64 P])/\Below w.heap.size w w')
  (hs:∀ w,Calls Tryz.prog 85 #[.agg #[.int .i64 K,.int .i64 O,.int .i64 P],.agg #[.int .i64 1,.int .i64 o,.int .i64 p]] w fun e w'=>e=.returned (.bool r)/\Below w.heap.size w w') (w:World) :
  Calls Tryz.prog 61 #[.int .i64 l,.agg #[.int .i64 1,.int .i64 o,.int .i64 p]] w fun e w'=>e=.returned (.int .u64 (bif r then 1+p * 4+o * 4096+2 else 0))/\Below w.heap.size w w':=by
 cases r
 all_goals as_aux_lemma =>
  go_enter Tryz.func61,Tryz.ntmps61
  go_wp2
  go_region_held3 (fun w'=>w'.cell? ⟨w.heap.size,0,none⟩=some (.int .i64 1)/\w'.cell? ⟨w.heap.size,1,none⟩=some (.int .i64 o)/\w'.cell? ⟨w.heap.size,2,none⟩=some (.int .i64 p))
   (first | go_keep | (go_split_ands; refine ⟨?_,?_,?_⟩ <;> (rw [hb1.cell (by simp)]; simp)) | (go_split_ands; refine ⟨?_,?_,?_⟩ <;> (rw [hb2.cell (by have:=hb1.size; simp at this ⊢; omega),hb1.cell (by simp)]; simp)))
   (first
    | (go_at_call 57; refine (hd _).mono ?_; rintro e w1 ⟨rfl,hb1⟩)
    | (go_at_call 85; refine (hs _).mono ?_; rintro e w2 ⟨rfl,hb2⟩))
  go_wp2
  go_ret
  refine ⟨rfl,?_⟩
  have s1:=hb1.size
  simp at s1
  exact (((Below.refl _ _).alloc (Nat.le_refl _) _).drew.trans (hb1.mono (by simp))).trans (hb2.mono (by omega))
set_option maxHeartbeats 2000000 in
theorem specEnc_3 (l o p K O P:Int) (r:Bool) (a:0<=o) (b:o < 65536) (c:0<=p) (d:p<=7)
  (hd:∀ w,Calls Tryz.prog 57 #[.int .i64 l,.int .u64 (1+p * 4+o * 4096+2)] w fun e w'=>e=.returned (.agg #[.int .i64 K,.int .i64 O,.int .i64 P])/\Below w.heap.size w w')
  (hs:∀ w,Calls Tryz.prog 85 #[.agg #[.int .i64 K,.int .i64 O,.int .i64 P],.agg #[.int .i64 3,.int .i64 o,.int .i64 p]] w fun e w'=>e=.returned (.bool r)/\Below w.heap.size w w') (w:World) :
  Calls Tryz.prog 61 #[.int .i64 l,.agg #[.int .i64 3,.int .i64 o,.int .i64 p]] w fun e w'=>e=.returned (.int .u64 (bif r then 1+p * 4+o * 4096+2 else 0))/\Below w.heap.size w w':=by
 cases r
 all_goals as_aux_lemma =>
  go_enter Tryz.func61,Tryz.ntmps61
  go_wp2
  go_region_held3 (fun w'=>w'.cell? ⟨w.heap.size,0,none⟩=some (.int .i64 3)/\w'.cell? ⟨w.heap.size,1,none⟩=some (.int .i64 o)/\w'.cell? ⟨w.heap.size,2,none⟩=some (.int .i64 p))
   (first | go_keep | (go_split_ands; refine ⟨?_,?_,?_⟩ <;> (rw [hb1.cell (by simp)]; simp)) | (go_split_ands; refine ⟨?_,?_,?_⟩ <;> (rw [hb2.cell (by have:=hb1.size; simp at this ⊢; omega),hb1.cell (by simp)]; simp)))
   (first
    | (go_at_call 57; refine (hd _).mono ?_; rintro e w1 ⟨rfl,hb1⟩)
    | (go_at_call 85; refine (hs _).mono ?_; rintro e w2 ⟨rfl,hb2⟩))
  go_wp2
  go_ret
  refine ⟨rfl,?_⟩
  have s1:=hb1.size
  simp at s1
  exact (((Below.refl _ _).alloc (Nat.le_refl _) _).drew.trans (hb1.mono (by simp))).trans (hb2.mono (by omega))
set_option maxHeartbeats 2000000 in
theorem specEnc_2 (l o p K O P:Int) (r:Bool) (a:0<=o) (b:o < 65536) (c:0<=p) (d:p<=7)
  (hd:∀ w,Calls Tryz.prog 57 #[.int .i64 l,.int .u64 (1+p * 4+o * 4096)] w fun e w'=>e=.returned (.agg #[.int .i64 K,.int .i64 O,.int .i64 P])/\Below w.heap.size w w')
  (hs:∀ w,Calls Tryz.prog 85 #[.agg #[.int .i64 K,.int .i64 O,.int .i64 P],.agg #[.int .i64 2,.int .i64 o,.int .i64 p]] w fun e w'=>e=.returned (.bool r)/\Below w.heap.size w w') (w:World) :
  Calls Tryz.prog 61 #[.int .i64 l,.agg #[.int .i64 2,.int .i64 o,.int .i64 p]] w fun e w'=>e=.returned (.int .u64 (bif r then 1+p * 4+o * 4096 else 0))/\Below w.heap.size w w':=by
 cases r
 all_goals as_aux_lemma =>
  go_enter Tryz.func61,Tryz.ntmps61
  go_wp2
  go_region_held3 (fun w'=>w'.cell? ⟨w.heap.size,0,none⟩=some (.int .i64 2)/\w'.cell? ⟨w.heap.size,1,none⟩=some (.int .i64 o)/\w'.cell? ⟨w.heap.size,2,none⟩=some (.int .i64 p))
   (first | go_keep | (go_split_ands; refine ⟨?_,?_,?_⟩ <;> (rw [hb1.cell (by simp)]; simp)) | (go_split_ands; refine ⟨?_,?_,?_⟩ <;> (rw [hb2.cell (by have:=hb1.size; simp at this ⊢; omega),hb1.cell (by simp)]; simp)))
   (first
    | (go_at_call 57; refine (hd _).mono ?_; rintro e w1 ⟨rfl,hb1⟩)
    | (go_at_call 85; refine (hs _).mono ?_; rintro e w2 ⟨rfl,hb2⟩))
  go_wp2
  go_ret
  refine ⟨rfl,?_⟩
  have s1:=hb1.size
  simp at s1
  exact (((Below.refl _ _).alloc (Nat.le_refl _) _).drew.trans (hb1.mono (by simp))).trans (hb2.mono (by omega))
def encI (l k o p:Int):Int:=if (k=1\/k=2\/k=3)/\0<=o/\o < 65536/\0<=p/\p<=7/\Fits l k o p then encW k o p else 0
theorem specEncode_any (l k o p:Int) (w:World) :
  Calls Tryz.prog 61 #[.int .i64 l,.agg #[.int .i64 k,.int .i64 o,.int .i64 p]] w fun e w'=>e=.returned (.int .u64 (encI l k o p))/\Below w.heap.size w w':=by
 unfold encI
 by_cases hk:k=1\/k=2\/k=3
 ·by_cases hr:0<=o/\o < 65536/\0<=p/\p<=7
  ·obtain ⟨a,b,c,d⟩:=hr
   by_cases hf:Fits l k o p
   ·rw [if_pos ⟨hk,a,b,c,d,hf⟩]
    by_cases h2:k=2
    ·subst h2
     have e:encW 2 o p=1+p * 4+o * 4096:=by simp [encW]
     obtain ⟨f1,f2,f3⟩:=hf
     rw [e] at f1 f2 f3 ⊢
     have hd:=specDecode_any l (1+p * 4+o * 4096) (by omega) (by omega)
     unfold descV desc3 at hd
     rw [f1,f2,f3] at hd
     exact specEnc_2 l o p _ _ _ true a b c d hd (same_yes 2 o p) w
    ·have e:encW k o p=1+p * 4+o * 4096+2:=by simp [encW,h2]
     obtain ⟨f1,f2,f3⟩:=hf
     rw [e] at f1 f2 f3 ⊢
     have hd:=specDecode_any l (1+p * 4+o * 4096+2) (by omega) (by omega)
     unfold descV desc3 at hd
     rw [f1,f2,f3] at hd
     rcases (show k=1\/k=3 by omega) with rfl | rfl
     ·exact specEnc_1 l o p _ _ _ true a b c d hd (same_yes 1 o p) w
     ·exact specEnc_3 l o p _ _ _ true a b c d hd (same_yes 3 o p) w
   ·rw [if_neg (fun h=>hf h.2.2.2.2.2)]
    by_cases h2:k=2
    ·subst h2
     have e:encW 2 o p=1+p * 4+o * 4096:=by simp [encW]
     unfold Fits at hf
     rw [e] at hf
     have hd:=specDecode_any l (1+p * 4+o * 4096) (by omega) (by omega)
     exact specEnc_2 l o p _ _ _ false a b c d hd (same_no _ _ _ 2 o p hf) w
    ·have e:encW k o p=1+p * 4+o * 4096+2:=by simp [encW,h2]
     unfold Fits at hf
     rw [e] at hf
     have hd:=specDecode_any l (1+p * 4+o * 4096+2) (by omega) (by omega)
     rcases (show k=1\/k=3 by omega) with rfl | rfl
     ·exact specEnc_1 l o p _ _ _ false a b c d hd (same_no _ _ _ 1 o p hf) w
     ·exact specEnc_3 l o p _ _ _ false a b c d hd (same_no _ _ _ 3 o p hf) w
  ·rw [if_neg (fun h=>hr ⟨h.2.1,h.2.2.1,h.2.2.2.1,h.2.2.2.2.1⟩)]
   exact specEnc_range l k o p hk hr w
 ·rw [if_neg (fun h=>hk h.1)]
  exact specEnc_kind l k o p hk w
end Go.Proofs.YtnmhkgmmpkjjeacGreat
namespace Go.Proofs.YtnmhkgmmpkjjeacGreat
set_option linter.unusedVariables false
def rgt (H:Nat->Ht) (all:List P3) (lv pg:Int):Int :=
 if lv=3 then (if (H pg.toNat).k=1 then encI 3 3 (H pg.toNat).o (H pg.toNat).p else 0)
 else if lv=2/\(H pg.toNat).s=16 then encI 2 2 (H pg.toNat).o (H pg.toNat).p
 else if frOf all (lv+1) pg < 0 then 0 else encI lv 1 (frOf all (lv+1) pg) 0
def wOf (zs:List Int) (ad:Int):Int:=zs.getD ad.toNat 0
def brk (zs:List Int) (H:Nat->Ht) (all:List P3) (e:En):Bool:=decide (wOf zs e.ad % 2=1/\¬ wOf zs e.ad=rgt H all e.lv e.pg)
def lnk (zs:List Int) (H:Nat->Ht) (all:List P3) (e:En):Bool:=decide (¬ rgt H all e.lv e.pg=0/\¬ rgt H all e.lv e.pg=wOf zs e.ad)
def mkB (zs:List Int) (H:Nat->Ht) (all:List P3) (es:List En) (p:Nat):Bool:=es.any fun e=>brk zs H all e && decide (e.pg<=p/\(p:Int) < e.pg+cov e.lv)
def dsbO:OpE:=⟨2,0,0,0⟩
def sealO (l:List OpE):List OpE:=if l.isEmpty then [] else l ++ [dsbO]
def brkOps (zs:List Int) (H:Nat->Ht) (all:List P3) (es:List En):List OpE:=(es.filter (brk zs H all)).map fun e=>⟨1,e.ad,0,0⟩
def tlbOps (mk:Nat->Bool):List OpE:=(runsL mk 4096 4096).map fun r=>⟨3,r.1,r.2,0⟩
def freeOps (n:Nat) (gone:List P3):List OpE:=((List.range n).filter (fun f=>hasFr gone (f:Nat))).map fun f=>⟨4,(f:Nat),0,0⟩
def fillOne (H:Nat->Ht) (all:List P3) (t:P3) (k:Nat):List OpE:=(List.range k).map fun i=>⟨1,t.fr * 16+(i:Nat),0,rgt H all t.lv (t.pg+(i:Nat) * cov t.lv)⟩
def fillOps (H:Nat->Ht) (all fresh:List P3):List OpE:=fresh.flatMap fun t=>fillOne H all t 16
def lnkOps (zs:List Int) (H:Nat->Ht) (all:List P3) (es:List En):List OpE:=(es.filter (lnk zs H all)).map fun e=>⟨1,e.ad,0,rgt H all e.lv e.pg⟩
def newL (H:Nat->Ht) (ps:List P3):List P3:=frTo (keptL H ps) (wPre H 256) (wPre H 256).length
def allL (H:Nat->Ht) (ps:List P3):List P3:=keptL H ps ++ newL H ps
def entL (H:Nat->Ht) (ps:List P3):List En:=enTo (keptL H ps) 4096
def planL (zs:List Int) (n:Nat) (H:Nat->Ht) (ps:List P3):List OpE :=
 sealO (brkOps zs H (allL H ps) (entL H ps)) ++ (sealO (tlbOps (mkB zs H (allL H ps) (entL H ps))) ++ (freeOps n (goneL H ps) ++ (sealO (fillOps H (allL H ps) (newL H ps)) ++ sealO (lnkOps zs H (allL H ps) (entL H ps)))))
theorem sealO_nil:sealO []=[]:=rfl
theorem sealO_cons {l:List OpE} (h:l ≠ []):sealO l=l ++ [dsbO]:=by
 unfold sealO
 rw [if_neg (by rw [List.isEmpty_iff]; exact h)]
theorem enTo_mem {kept:List P3} {n:Nat} {e:En} (h:e ∈ enTo kept n):∃ page lv:Nat,page < n/\1<=lv/\lv<=3/\page % epg lv=0/\e.lv=lv/\e.pg=page/\0<=frOf kept lv (page - page % (epg lv * 16):Nat)/\e.ad=frOf kept lv (page - page % (epg lv * 16):Nat) * 16+(page / epg lv % 16:Nat):=by
 unfold enTo at h
 obtain ⟨page,hp,h⟩:=List.mem_flatMap.1 h
 have hp':=List.mem_range.1 hp
 unfold eAll at h
 have one:∀ lv:Nat,1<=lv->lv<=3->e ∈ eOne kept page lv->∃ page lv:Nat,page < n/\1<=lv/\lv<=3/\page % epg lv=0/\e.lv=lv/\e.pg=page/\0<=frOf kept lv (page - page % (epg lv * 16):Nat)/\e.ad=frOf kept lv (page - page % (epg lv * 16):Nat) * 16+(page / epg lv % 16:Nat):=by
  intro lv h1 h3 hm
  unfold eOne at hm
  split at hm
  ·rename_i hh
   rw [List.mem_singleton] at hm
   subst hm
   exact ⟨page,lv,hp',h1,h3,hh.1,rfl,rfl,hh.2,rfl⟩
  ·cases hm
 rcases List.mem_append.1 h with h | h
 ·exact one 1 (by decide) (by decide) h
 ·rcases List.mem_append.1 h with h | h
  ·exact one 2 (by decide) (by decide) h
  ·exact one 3 (by decide) (by decide) h
theorem cov_epg (lv:Nat):cov lv=epg lv:=by
 unfold cov epg
 by_cases h1:lv=1
 ·subst h1; rfl
 ·by_cases h2:lv=2
  ·subst h2; rfl
  ·rw [if_neg (by omega),if_neg (by omega),if_neg h1,if_neg h2]; rfl
theorem epg_pos (lv:Nat):1<=epg lv:=by unfold epg; split <;> (try split) <;> omega
theorem runs_nil {mk:Nat->Bool} {m:Nat} (h:runsL mk m m=[]):∀ p,p < m->mk p=false:=by
 intro p hp
 cases hm:mk p
 ·rfl
 ·obtain ⟨q,hq1,hq2,_⟩:=last_start mk p hm
  have:(q,runLen mk m q) ∈ runsL mk m m:=by
   unfold runsL
   refine List.mem_flatMap.2 ⟨q,List.mem_range.2 (by omega),?_⟩
   rw [if_pos hq2]
   exact List.mem_singleton.2 rfl
  rw [h] at this
  cases this
theorem brk_tlb (zs:List Int) (H:Nat->Ht) (ps:List P3):brkOps zs H (allL H ps) (entL H ps)=[] ↔ tlbOps (mkB zs H (allL H ps) (entL H ps))=[]:=by
 unfold brkOps tlbOps
 rw [List.map_eq_nil_iff,List.map_eq_nil_iff]
 constructor
 ·intro h
  have hm:∀ p,mkB zs H (allL H ps) (entL H ps) p=false:=by
   intro p
   unfold mkB
   rw [List.any_eq_false]
   intro e he
   cases hb:brk zs H (allL H ps) e
   ·simp
   ·have:e ∈ (entL H ps).filter (brk zs H (allL H ps)):=List.mem_filter.2 ⟨he,hb⟩
    rw [h] at this
    cases this
  unfold runsL
  rw [List.flatMap_eq_nil_iff]
  intro p hp
  unfold starts
  rw [hm p]
  simp
 ·intro h
  rw [List.filter_eq_nil_iff]
  intro e he hb
  obtain ⟨page,lv,hp,h1,h3,_,e1,e2,_⟩:=enTo_mem he
  have:=runs_nil h page hp
  unfold mkB at this
  rw [List.any_eq_false] at this
  have h4:=this e he
  have hc:=cov_epg lv
  have hc2:=epg_pos lv
  rw [hb,e1,e2,hc] at h4
  simp at h4
  omega
theorem planL_eq (zs:List Int) (n:Nat) (H:Nat->Ht) (ps:List P3):planL zs n H ps =
  (if (brkOps zs H (allL H ps) (entL H ps)).isEmpty then [] else ((brkOps zs H (allL H ps) (entL H ps) ++ [dsbO]) ++ tlbOps (mkB zs H (allL H ps) (entL H ps))) ++ [dsbO]) ++ (freeOps n (goneL H ps) ++ (sealO (fillOps H (allL H ps) (newL H ps)) ++ sealO (lnkOps zs H (allL H ps) (entL H ps)))):=by
 unfold planL
 by_cases h:brkOps zs H (allL H ps) (entL H ps)=[]
 ·rw [(brk_tlb zs H ps).1 h,h]
  simp [sealO_nil]
 ·have h2:tlbOps (mkB zs H (allL H ps) (entL H ps)) ≠ []:=fun e=>h ((brk_tlb zs H ps).2 e)
  rw [sealO_cons h,sealO_cons h2,if_neg (by rw [List.isEmpty_iff]; exact h)]
  simp
end Go.Proofs.YtnmhkgmmpkjjeacGreat
namespace Go.Proofs.YtnmhkgmmpkjjeacGreat
open Go.ChangeShapes Go.WideShapes Go.ChangeAt Go.RowKit
set_option linter.unusedVariables false
def addL (xs:List Int) (e:Int):List Int:=if foundB xs e then xs else insL xs (posOf xs e) e
def remL (xs:List Int) (e:Int):List Int:=if foundB xs e then cutS xs (posOf xs e) else xs
theorem pos_cons_lt {x:Int} {r:List Int} {e:Int} (h:x < e):posOf (x :: r) e=posOf r e+1:=by
 unfold posOf
 rw [List.countP_cons_of_pos (by exact decide_eq_true h)]
theorem pos_cons_ge {x:Int} {r:List Int} {e:Int} (hr:Rising (x :: r)) (h:¬ x < e):posOf (x :: r) e=0:=by
 unfold posOf
 rw [List.countP_eq_zero]
 intro y hy
 rcases List.mem_cons.1 hy with rfl | hy
 ·simpa using h
 ·have:=(List.pairwise_cons.1 hr).1 y hy
  simp only [decide_eq_true_eq]
  omega
theorem found_iff {e:Int}:∀ {xs:List Int},Rising xs->(foundB xs e=true ↔ e ∈ xs)
 | [],_=>by simp [foundB]
 | x :: r,hr=>by
  obtain ⟨h1,h2⟩:=List.pairwise_cons.1 hr
  unfold foundB
  rw [decide_eq_true_eq]
  by_cases h:x < e
  ·have ih:=found_iff (e:=e) h2
   unfold foundB at ih
   rw [decide_eq_true_eq] at ih
   rw [pos_cons_lt h,List.mem_cons,List.length_cons]
   have e1:eAt eInt (x :: r) (posOf r e+1)=eAt eInt r (posOf r e):=rfl
   rw [e1]
   constructor
   ·rintro ⟨a,b⟩
    exact .inr (ih.1 ⟨by omega,b⟩)
   ·rintro (rfl | hm)
    ·omega
    ·have:=ih.2 hm
     exact ⟨by omega,this.2⟩
  ·rw [pos_cons_ge hr h]
   have e1:eAt eInt (x :: r) 0=x:=rfl
   rw [e1,List.mem_cons,List.length_cons]
   constructor
   ·rintro ⟨_,b⟩
    exact .inl b.symm
   ·rintro (rfl | hm)
    ·exact ⟨by omega,rfl⟩
    ·have:=h1 e hm
     omega
theorem ins_mem (xs:List Int) (i:Nat) (e x:Int):x ∈ insL xs i e ↔ x=e\/x ∈ xs:=by
 unfold insL
 rw [List.mem_append,List.mem_cons]
 have:x ∈ xs ↔ x ∈ xs.take i\/x ∈ xs.drop i:=by
  rw [<- List.mem_append,List.take_append_drop]
 rw [this]
 constructor
 ·rintro (a | a | a)
  ·exact .inr (.inl a)
  ·exact .inl a
  ·exact .inr (.inr a)
 ·rintro (a | a | a)
  ·exact .inr (.inl a)
  ·exact .inl a
  ·exact .inr (.inr a)
theorem rising_ins {e:Int}:∀ {xs:List Int},Rising xs->e ∉ xs->Rising (insL xs (posOf xs e) e)
 | [],_,_=>List.pairwise_singleton _ _
 | x :: r,hr,hm=>by
  obtain ⟨h1,h2⟩:=List.pairwise_cons.1 hr
  by_cases h:x < e
  ·rw [pos_cons_lt h]
   have e1:insL (x :: r) (posOf r e+1) e=x :: insL r (posOf r e) e:=rfl
   rw [e1]
   refine List.pairwise_cons.2 ⟨fun y hy=>?_,rising_ins h2 (fun hh=>hm (List.mem_cons_of_mem _ hh))⟩
   rcases (ins_mem _ _ _ _).1 hy with rfl | hy
   ·exact h
   ·exact h1 y hy
  ·rw [pos_cons_ge hr h]
   have e1:insL (x :: r) 0 e=e :: x :: r:=rfl
   have hne:¬ e=x:=fun hh=>hm (by rw [hh]; exact List.mem_cons_self ..)
   rw [e1]
   refine List.pairwise_cons.2 ⟨fun y hy=>?_,hr⟩
   rcases List.mem_cons.1 hy with rfl | hy
   ·omega
   ·have:=h1 y hy
    omega
theorem add_mem {xs:List Int} (h:Rising xs) (e x:Int):x ∈ addL xs e ↔ x=e\/x ∈ xs:=by
 unfold addL
 split
 ·rename_i hf
  have:=(found_iff h).1 hf
  exact ⟨fun a=>.inr a,fun a=>a.elim (fun ee=>by rw [ee]; exact this) id⟩
 ·exact ins_mem _ _ _ _
theorem add_rising {xs:List Int} (h:Rising xs) (e:Int):Rising (addL xs e):=by
 unfold addL
 split
 ·exact h
 ·rename_i hf
  exact rising_ins h (fun hm=>hf ((found_iff h).2 hm))
theorem cut_mem {e x:Int}:∀ {xs:List Int},Rising xs->e ∈ xs->(x ∈ cutS xs (posOf xs e) ↔ x ∈ xs/\x ≠ e)
 | [],_,hm=>by cases hm
 | y :: r,hr,hm=>by
  obtain ⟨h1,h2⟩:=List.pairwise_cons.1 hr
  by_cases h:y < e
  ·have hm':e ∈ r:=by
    rcases List.mem_cons.1 hm with rfl | hm
    ·omega
    ·exact hm
   rw [pos_cons_lt h]
   have e1:cutS (y :: r) (posOf r e+1)=y :: cutS r (posOf r e):=rfl
   rw [e1,List.mem_cons,List.mem_cons,cut_mem h2 hm']
   constructor
   ·rintro (rfl | ⟨a,b⟩)
    ·exact ⟨.inl rfl,by omega⟩
    ·exact ⟨.inr a,b⟩
   ·rintro ⟨rfl | a,b⟩
    ·exact .inl rfl
    ·exact .inr ⟨a,b⟩
  ·have hy:e=y:=by
    rcases List.mem_cons.1 hm with a | a
    ·exact a
    ·have:=h1 e a
     omega
   rw [pos_cons_ge hr h]
   have e1:cutS (y :: r) 0=r:=rfl
   rw [e1,List.mem_cons]
   constructor
   ·intro a
    have:=h1 x a
    exact ⟨.inr a,by omega⟩
   ·rintro ⟨a | a,b⟩
    ·exact absurd (a.trans hy.symm) b
    ·exact a
theorem cut_sub (xs:List Int) (i:Nat):(cutS xs i).Sublist xs:=by
 unfold cutS
 have h:(xs.take i ++ xs.drop (i+1)).Sublist (xs.take i ++ xs.drop i):=by
  refine List.Sublist.append (List.Sublist.refl _) ?_
  rw [<- List.drop_drop]
  exact List.drop_sublist _ _
 rwa [List.take_append_drop] at h
theorem rem_mem {xs:List Int} (h:Rising xs) (e x:Int):x ∈ remL xs e ↔ x ∈ xs/\x ≠ e:=by
 unfold remL
 split
 ·rename_i hf
  exact cut_mem h ((found_iff h).1 hf)
 ·rename_i hf
  have:e ∉ xs:=fun hm=>hf ((found_iff h).2 hm)
  exact ⟨fun a=>⟨a,fun hh=>this (by rw [<- hh]; exact a)⟩,fun a=>a.1⟩
theorem rem_rising {xs:List Int} (h:Rising xs) (e:Int):Rising (remL xs e):=by
 unfold remL
 split
 ·exact List.Pairwise.sublist (cut_sub _ _) h
 ·exact h
theorem rising_ext:∀ {xs ys:List Int},Rising xs->Rising ys->(∀ x,x ∈ xs ↔ x ∈ ys)->xs=ys
 | [],[],_,_,_=>rfl
 | [],y :: r,_,_,h=>by
  have:=(h y).2 (List.mem_cons_self ..)
  cases this
 | x :: r,[],_,_,h=>by
  have:=(h x).1 (List.mem_cons_self ..)
  cases this
 | x :: r,y :: s,hx,hy,h=>by
  obtain ⟨a1,a2⟩:=List.pairwise_cons.1 hx
  obtain ⟨b1,b2⟩:=List.pairwise_cons.1 hy
  have e:x=y:=by
   have h1:=(h x).1 (List.mem_cons_self ..)
   have h2:=(h y).2 (List.mem_cons_self ..)
   rcases List.mem_cons.1 h1 with e | m1
   ·exact e
   ·rcases List.mem_cons.1 h2 with e | m2
    ·exact e.symm
    ·have:=a1 y m2
     have:=b1 x m1
     omega
  subst e
  have:r=s:=rising_ext a2 b2 (fun z=>by
   constructor
   ·intro m
    rcases List.mem_cons.1 ((h z).1 (List.mem_cons_of_mem _ m)) with e | m'
    ·have:=a1 z m; omega
    ·exact m'
   ·intro m
    rcases List.mem_cons.1 ((h z).2 (List.mem_cons_of_mem _ m)) with e | m'
    ·have:=b1 z m; omega
    ·exact m')
  rw [this]
def numsL (p:Nat->Bool) (n:Nat):List Int:=((List.range n).filter p).map (fun k=>((k:Nat):Int))
theorem nums_rising (p:Nat->Bool) (n:Nat):Rising (numsL p n):=by
 unfold numsL Rising
 rw [List.pairwise_map]
 exact (List.pairwise_lt_range.filter p).imp (fun h=>by omega)
theorem nums_mem (p:Nat->Bool) (n:Nat) (x:Int):x ∈ numsL p n ↔ ∃ k:Nat,k < n/\p k=true/\x=k:=by
 unfold numsL
 rw [List.mem_map]
 constructor
 ·rintro ⟨k,h,rfl⟩
  rw [List.mem_filter,List.mem_range] at h
  exact ⟨k,h.1,h.2,rfl⟩
 ·rintro ⟨k,h1,h2,rfl⟩
  exact ⟨k,List.mem_filter.2 ⟨List.mem_range.2 h1,h2⟩,rfl⟩
def freeL (qs:List P3) (n:Nat):List Int:=numsL (fun f=>!hasFr qs (f:Nat)) n
end Go.Proofs.YtnmhkgmmpkjjeacGreat
namespace Go.Proofs.YtnmhkgmmpkjjeacGreat
set_option linter.unusedVariables false
def wr1 (zs:List Int) (o:OpE):List Int:=if o.kind=1 then zs.set o.a.toNat o.word else zs
def wrs (zs:List Int) (l:List OpE):List Int:=l.foldl wr1 zs
theorem wr1_len (zs:List Int) (o:OpE):(wr1 zs o).length=zs.length:=by unfold wr1; split <;> simp
theorem wrs_len (l:List OpE):∀ zs:List Int,(wrs zs l).length=zs.length:=by
 induction l with
 | nil=>intro zs; rfl
 | cons o r ih =>
  intro zs
  show (wrs (wr1 zs o) r).length=zs.length
  rw [ih,wr1_len]
theorem wrs_succ (zs:List Int) (l:List OpE) (i:Nat) (hi:i < l.length):wrs zs (l.take (i+1))=wr1 (wrs zs (l.take i)) (eAt eOp l i):=by
 unfold wrs
 rw [take_snocE eOp l i hi,List.foldl_append]
 rfl
end Go.Proofs.YtnmhkgmmpkjjeacGreat
