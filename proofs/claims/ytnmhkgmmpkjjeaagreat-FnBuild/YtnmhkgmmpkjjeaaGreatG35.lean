import Derived.Test.YtnmhkgmmpkjjeaaGreatG28
import Derived.Test.YtnmhkgmmpkjjeaaGreatG34
import Derived.Test.YtnmhkgmmpkjjeaaGreatG31
namespace Go.Proofs.YtnmhkgmmpkjjeaaGreat
open Go.ChangeShapes Go.WideShapes Go.ChangeAt Go.RowKit
set_option linter.unusedVariables false
def badW (n l x:Int):Bool:=decide (dKind l x=4) || (decide (dKind l x=1) && decide (n<=dOut l x))
def leadW (n l x:Int):Bool:=decide (dKind l x=1) && decide (dOut l x < n)
theorem dKind_rng (l x:Int):0<=dKind l x/\dKind l x<=4/\dKind 3 x ≠ 1:=by
 unfold dKind
 refine ⟨?_,?_,?_⟩ <;> (repeat' split) <;> omega
def w1z (zs:List Int) (pg:Nat):Int:=wordAt zs 0 (pg / 256)
def w2z (zs:List Int) (pg:Nat):Int:=wordAt zs (dOut 1 (w1z zs pg)) (pg / 16 % 16)
def w3z (zs:List Int) (pg:Nat):Int:=wordAt zs (dOut 2 (w2z zs pg)) (pg % 16)
theorem fromR_bad (n page l x:Int) (R:HitR) (h:l < 3):(fromR n page l x R).kind=3 ↔ badW n l x=true\/(leadW n l x=true/\R.kind=3):=by
 have hk:=dKind_rng l x
 unfold fromR badW leadW
 by_cases h0:dKind l x=0
 ·simp [h0]
 ·rw [if_neg h0]
  by_cases h1:dKind l x=1
  ·by_cases h2:dOut l x < n
   ·rw [if_pos ⟨h1,h2,h⟩]
    have h3:¬ n<=dOut l x:=by omega
    simp [h1,h2,h3]
   ·rw [if_neg (by simp [h2]),if_neg (by omega),if_neg (by omega)]
    have h3:n<=dOut l x:=by omega
    simp [h1,h3]
  ·rw [if_neg (by simp [h1])]
   by_cases h2:dKind l x=2
   ·simp [h2]
   ·by_cases h3:dKind l x=3
    ·simp [h3]
    ·have h4:dKind l x=4:=by omega
     simp [h4]
theorem fromR_bad3 (n page x:Int) (R:HitR):(fromR n page 3 x R).kind=3 ↔ badW n 3 x=true:=by
 have hk:=dKind_rng 3 x
 unfold fromR badW
 by_cases h0:dKind 3 x=0
 ·simp [h0]
 ·rw [if_neg h0,if_neg (by omega)]
  by_cases h2:dKind 3 x=2
  ·simp [h2]
  ·by_cases h3:dKind 3 x=3
   ·simp [h3]
   ·have h4:dKind 3 x=4:=by have:=hk.2.2; omega
    simp [h4]
theorem word_at (zs:List Int) (f:Int) (i:Nat) (j:Int) (hf:0<=f) (hj:j=i):zs.getD (f * 16+j).toNat 0=wordAt zs f i:=by
 unfold wordAt
 congr 1
 omega
theorem walk_bad (zs:List Int) (pg:Nat) (hn:nfr zs.length ≠ 0) (hp:pg < 4096):(walkZ zs pg).kind=3 ↔ badW (nfr zs.length) 1 (w1z zs pg)=true\/(leadW (nfr zs.length) 1 (w1z zs pg)=true/\(badW (nfr zs.length) 2 (w2z zs pg)=true\/(leadW (nfr zs.length) 2 (w2z zs pg)=true/\badW (nfr zs.length) 3 (w3z zs pg)=true))):=by
 have hpo:pageOk (pg:Int)=true:=by simp [pageOk]; omega
 have e1:wordM (bare zs) (pg:Int) 0 1 0=w1z zs pg:=by
  rw [wordM_bare]
  exact word_at zs 0 (pg / 256) _ (by omega) (by simp [idx])
 have e2:wordM (bare zs) (pg:Int) 0 2 (dOut 1 (w1z zs pg))=w2z zs pg:=by
  rw [wordM_bare]
  exact word_at zs _ (pg / 16 % 16) _ (dOut_lo _ _).1 (by simp [idx])
 have e3:wordM (bare zs) (pg:Int) 0 3 (dOut 2 (w2z zs pg))=w3z zs pg:=by
  rw [wordM_bare]
  exact word_at zs _ (pg % 16) _ (dOut_lo _ _).1 (by simp [idx])
 unfold walkZ
 rw [if_neg (by simp [hn,hpo])]
 rw [<- from_step zs pg 1 0 1 (by omega),e1,<- from_step zs pg (1+1) _ 0 (by omega)]
 rw [show (1:Int)+1=2 from rfl,e2,<- from_end zs pg (2+1) _ ⟨0,0,0,0⟩ rfl,show (2:Int)+1=3 from rfl,e3]
 rw [fromR_bad _ _ _ _ _ (by omega),fromR_bad _ _ _ _ _ (by omega),fromR_bad3]
def root:P3:=⟨0,1,0⟩
theorem under1 (zs:List Int) (i:Nat):under zs root i=⟨dOut 1 (wordAt zs 0 i),2,(i:Int) * 256⟩:=by
 unfold under root cov
 simp
theorem under2 (zs:List Int) (i j:Nat):under zs (under zs root i) j=⟨dOut 2 (wordAt zs (dOut 1 (wordAt zs 0 i)) j),3,(i:Int) * 256+(j:Int) * 16⟩:=by
 rw [under1]
 unfold under cov
 simp
theorem mem_plist (zs:List Int) (hn:nfr zs.length ≠ 0) (p:P3):p ∈ plist zs ↔ p=root\/∃ i,i < 16/\leadW (nfr zs.length) 1 (wordAt zs 0 i)=true/\(p=under zs root i\/∃ j,j < 16/\leadW (nfr zs.length) 2 (wordAt zs (dOut 1 (wordAt zs 0 i)) j)=true/\p=under zs (under zs root i) j):=by
 have hl1:∀ i,leads zs (nfr zs.length) root i=leadW (nfr zs.length) 1 (wordAt zs 0 i):=fun i=>rfl
 have hl2:∀ i j,leads zs (nfr zs.length) (under zs root i) j=leadW (nfr zs.length) 2 (wordAt zs (dOut 1 (wordAt zs 0 i)) j):=fun i j=>by rw [under1]; rfl
 have e:plist zs=downs zs (nfr zs.length) (fun q=>downs zs (nfr zs.length) (fun r=>[r]) q 16) root 16:=by
  unfold plist; rw [if_neg hn]; rfl
 rw [e]
 unfold downs
 constructor
 ·intro h
  rcases List.mem_cons.1 h with h | h
  ·exact .inl h
  ·obtain ⟨i,hi,hm⟩:=List.mem_flatMap.1 h
   rw [List.mem_range] at hi
   rw [hl1] at hm
   by_cases hw:leadW (nfr zs.length) 1 (wordAt zs 0 i)=true
   ·rw [if_pos hw] at hm
    refine .inr ⟨i,hi,hw,?_⟩
    rcases List.mem_cons.1 hm with h2 | h2
    ·exact .inl h2
    ·obtain ⟨j,hj,hm2⟩:=List.mem_flatMap.1 h2
     rw [List.mem_range] at hj
     rw [hl2] at hm2
     by_cases hw2:leadW (nfr zs.length) 2 (wordAt zs (dOut 1 (wordAt zs 0 i)) j)=true
     ·rw [if_pos hw2] at hm2
      exact .inr ⟨j,hj,hw2,by simpa using hm2⟩
     ·rw [if_neg hw2] at hm2; simp at hm2
   ·rw [if_neg hw] at hm; simp at hm
 ·intro h
  rcases h with h | ⟨i,hi,hw,h⟩
  ·exact List.mem_cons.2 (.inl h)
  ·refine List.mem_cons.2 (.inr (List.mem_flatMap.2 ⟨i,List.mem_range.2 hi,?_⟩))
   rw [hl1,if_pos hw]
   rcases h with h | ⟨j,hj,hw2,h⟩
   ·exact List.mem_cons.2 (.inl h)
   ·refine List.mem_cons.2 (.inr (List.mem_flatMap.2 ⟨j,List.mem_range.2 hj,?_⟩))
    rw [hl2,if_pos hw2]
    simpa using h
theorem soundP_iff (zs:List Int) (n:Int) (p:P3):soundP zs n p=true ↔ ∀ k,k < 16->badW n p.lv (wordAt zs p.fr k)=false:=by
 unfold soundP
 rw [List.all_eq_true]
 constructor
 ·intro h k hk
  have:=h k (List.mem_range.2 hk)
  have e:soundW zs n p k=!badW n p.lv (wordAt zs p.fr k):=rfl
  rw [e] at this
  simpa using this
 ·intro h k hk
  have:=h k (List.mem_range.1 hk)
  have e:soundW zs n p k=!badW n p.lv (wordAt zs p.fr k):=rfl
  rw [e,this]; rfl
theorem sound_walks (zs:List Int) (hn:nfr zs.length ≠ 0):(∀ p,p ∈ plist zs->soundP zs (nfr zs.length) p=true) ↔ ∀ pg,pg < 4096->(walkZ zs (pg:Nat)).kind ≠ 3:=by
 constructor
 ·intro h pg hp hk
  have hb:∀ (b:Bool),b=true->b=false->False:=fun b h1 h2=>by rw [h1] at h2; cases h2
  rcases (walk_bad zs pg hn hp).1 hk with h1 | ⟨l1,h2 | ⟨l2,h3⟩⟩
  ·have:=(soundP_iff _ _ _).1 (h root ((mem_plist zs hn _).2 (.inl rfl))) (pg / 256) (by omega)
   exact hb _ h1 this
  ·have:=(soundP_iff _ _ _).1 (h (under zs root (pg / 256)) ((mem_plist zs hn _).2 (.inr ⟨pg / 256,by omega,l1,.inl rfl⟩))) (pg / 16 % 16) (by omega)
   rw [under1] at this
   exact hb _ h2 this
  ·have:=(soundP_iff _ _ _).1 (h (under zs (under zs root (pg / 256)) (pg / 16 % 16)) ((mem_plist zs hn _).2 (.inr ⟨pg / 256,by omega,l1,.inr ⟨pg / 16 % 16,by omega,l2,rfl⟩⟩))) (pg % 16) (by omega)
   rw [under2] at this
   exact hb _ h3 this
 ·intro h p hp
  rw [soundP_iff]
  intro k hk
  cases hb:badW (nfr zs.length) p.lv (wordAt zs p.fr k)
  ·rfl
  ·exfalso
   rcases (mem_plist zs hn p).1 hp with rfl | ⟨i,hi,l1,rfl | ⟨j,hj,l2,rfl⟩⟩
   ·refine h (k * 256) (by omega) ((walk_bad zs _ hn (by omega)).2 (.inl ?_))
    unfold w1z
    rw [show k * 256 / 256=k by omega]
    exact hb
   ·rw [under1] at hb
    have e1:w1z zs (i * 256+k * 16)=wordAt zs 0 i:=by unfold w1z; rw [show (i * 256+k * 16) / 256=i by omega]
    have e2:w2z zs (i * 256+k * 16)=wordAt zs (dOut 1 (wordAt zs 0 i)) k:=by unfold w2z; rw [e1,show (i * 256+k * 16) / 16 % 16=k by omega]
    exact h (i * 256+k * 16) (by omega) ((walk_bad zs _ hn (by omega)).2 (.inr ⟨by rw [e1]; exact l1,.inl (by rw [e2]; exact hb)⟩))
   ·rw [under2] at hb
    have e1:w1z zs (i * 256+j * 16+k)=wordAt zs 0 i:=by unfold w1z; rw [show (i * 256+j * 16+k) / 256=i by omega]
    have e2:w2z zs (i * 256+j * 16+k)=wordAt zs (dOut 1 (wordAt zs 0 i)) j:=by unfold w2z; rw [e1,show (i * 256+j * 16+k) / 16 % 16=j by omega]
    have e3:w3z zs (i * 256+j * 16+k)=wordAt zs (dOut 2 (wordAt zs (dOut 1 (wordAt zs 0 i)) j)) k:=by unfold w3z; rw [e2,show (i * 256+j * 16+k) % 16=k by omega]
    exact h (i * 256+j * 16+k) (by omega) ((walk_bad zs _ hn (by omega)).2 (.inr ⟨by rw [e1]; exact l1,.inr ⟨by rw [e2]; exact l2,by rw [e3]; exact hb⟩⟩))
def okW (zs:List Int) (pg:Nat):Bool:=!decide ((walkZ zs (pg:Nat)).kind=3)
def cleanW (zs:List Int) (k:Nat):Bool:=(List.range k).all (okW zs)
def cleanF (ps:List P3) (i:Nat):Bool:=(List.range i).all (freshP ps)
theorem mem_pAtF (ps:List P3) (i:Nat) (h:i < ps.length):pAt ps i ∈ ps:=by
 unfold pAt
 rw [List.getD_eq_getElem?_getD,List.getElem?_eq_getElem h]
 exact List.getElem_mem h
theorem pAt_of_mem (ps:List P3) (p:P3) (h:p ∈ ps):∃ i,i < ps.length/\pAt ps i=p:=by
 obtain ⟨i,hi,e⟩:=List.getElem_of_mem h
 exact ⟨i,hi,by unfold pAt; rw [List.getD_eq_getElem?_getD,List.getElem?_eq_getElem hi]; exact e⟩
theorem tree_clean (zs:List Int) (hn:nfr zs.length ≠ 0):ptree zs=(cleanW zs 4096 && cleanF (plist zs) (plist zs).length):=by
 have e:ptree zs=treeTo zs (nfr zs.length) (plist zs) (plist zs).length:=by unfold ptree; simp [hn]
 rw [e,Bool.eq_iff_iff]
 unfold treeTo cleanW cleanF
 simp only [Bool.and_eq_true,List.all_eq_true,List.mem_range]
 constructor
 ·intro h
  refine ⟨fun pg hp=>?_,fun i hi=>(h i hi).1⟩
  have:=(sound_walks zs hn).1 (fun p hp=>by
   obtain ⟨i,hi,rfl⟩:=pAt_of_mem _ _ hp
   exact (h i hi).2) pg hp
  unfold okW
  simpa using this
 ·rintro ⟨h1,h2⟩ i hi
  refine ⟨h2 i hi,(sound_walks zs hn).2 (fun pg hp=>?_) _ (mem_pAtF _ _ hi)⟩
  have:=h1 pg hp
  unfold okW at this
  simpa using this
def hasP (ps:List P3) (f l g:Int):Bool:=ps.any fun p=>decide (p.fr=f) && decide (p.lv=l) && decide (p.pg=g)
def addAt (zs:List Int) (n:Int) (pg:Nat):Nat :=
 if pg % 16=0/\leadW n 1 (w1z zs pg)=true then (if pg % 256=0 then 1 else 0)+(if leadW n 2 (w2z zs pg)=true then 1 else 0) else 0
def cntTo (zs:List Int) (n:Int):Nat->Nat
 | 0=>1
 | k+1=>cntTo zs n k+addAt zs n k
end Go.Proofs.YtnmhkgmmpkjjeaaGreat
namespace Go.Proofs.YtnmhkgmmpkjjeaaGreat
set_option linter.unusedVariables false
def FrDis (ps:List P3):Prop:=ps.Pairwise (fun a b=>a.fr ≠ b.fr)
theorem FrDis.eq {ps:List P3} (h:FrDis ps) {a b:P3} (ha:a ∈ ps) (hb:b ∈ ps) (he:a.fr=b.fr):a=b:=by
 induction ps with
 | nil=>cases ha
 | cons c r ih =>
  obtain ⟨h1,h2⟩:=List.pairwise_cons.1 h
  rcases List.mem_cons.1 ha with e1 | e1 <;> rcases List.mem_cons.1 hb with e2 | e2
  ·rw [e1,e2]
  ·subst e1; exact absurd he (h1 b e2)
  ·subst e2; exact absurd he.symm (h1 a e1)
  ·exact ih h2 e1 e2
theorem tree_dis (zs:List Int) (h:ptree zs=true):FrDis (plist zs):=by
 have ht:treeTo zs (nfr zs.length) (plist zs) (plist zs).length=true:=by
  unfold ptree at h
  simp only [Bool.and_eq_true] at h
  exact h.2
 unfold treeTo at ht
 rw [List.all_eq_true] at ht
 unfold FrDis
 rw [List.pairwise_iff_getElem]
 intro i j hi hj hij e
 have h1:=ht j (List.mem_range.2 hj)
 simp only [Bool.and_eq_true] at h1
 have h2:=h1.1
 unfold freshP at h2
 rw [List.all_eq_true] at h2
 have h3:=h2 i (List.mem_range.2 hij)
 have ei:pAt (plist zs) i=(plist zs)[i]:=by unfold pAt; rw [List.getD_eq_getElem?_getD,List.getElem?_eq_getElem hi]; rfl
 have ej:pAt (plist zs) j=(plist zs)[j]:=by unfold pAt; rw [List.getD_eq_getElem?_getD,List.getElem?_eq_getElem hj]; rfl
 rw [ei,ej] at h3
 simp at h3
 exact h3 e.symm
theorem kept_dis {H:Nat->Ht} {ps:List P3} (h:FrDis ps):FrDis (keptL H ps):=h.filter _
theorem frTo_dis (kept:List P3) (ws:List (Nat × Nat)) (h:FrDis kept):∀ k,k<=ws.length->FrDis (kept ++ frTo kept ws k)
 | 0,_=>by rw [frTo_zero,List.append_nil]; exact h
 | k+1,hk=>by
  have ih:=frTo_dis kept ws h k (by omega)
  rw [frTo_succ kept ws k (by omega)]
  unfold frStep
  split
  ·rw [<- List.append_assoc]
   unfold FrDis
   rw [List.pairwise_append]
   refine ⟨ih,List.pairwise_singleton _ _,fun a ha b hb=>?_⟩
   rw [List.mem_singleton] at hb
   subst hb
   intro e
   have:=(lowF_spec (kept ++ frTo kept ws k)).2.2
   have h2:hasFr (kept ++ frTo kept ws k) ((lowF (kept ++ frTo kept ws k):Nat):Int)=true:=hasFr_iff.2 ⟨a,ha,e⟩
   rw [this] at h2
   cases h2
  ·exact ih
theorem all_dis {H:Nat->Ht} {ps:List P3} (h:FrDis ps):FrDis (allL H ps):=frTo_dis _ _ (kept_dis h) _ (Nat.le_refl _)
theorem frTo_has (kept:List P3) (ws:List (Nat × Nat)):∀ k,k<=ws.length->∀ j (hj:j < ws.length),j < k->frOf kept (ws[j]).1 (ws[j]).2 < 0->∃ q ∈ frTo kept ws k,q.lv=(ws[j]).1/\q.pg=(ws[j]).2
 | 0,_,j,hj,h0,_=>by omega
 | k+1,hk,j,hj,h0,hf=>by
  rw [frTo_succ kept ws k (by omega)]
  by_cases e:j=k
  ·subst e
   unfold frStep
   rw [if_pos hf]
   exact ⟨_,List.mem_append_right _ (List.mem_singleton.2 rfl),rfl,rfl⟩
  ·obtain ⟨q,hq,h1,h2⟩:=frTo_has kept ws k (by omega) j hj (by omega) hf
   refine ⟨q,?_,h1,h2⟩
   unfold frStep
   split
   ·exact List.mem_append_left _ hq
   ·exact hq
structure AllOk (H:Nat->Ht) (n:Nat) (all:List P3):Prop where
 dis:FrDis all
 fr:∀ t ∈ all,0<=t.fr/\t.fr < n
 seat:∀ t ∈ all,∃ s ∈ wPre H 256,t.lv=(s.1:Nat)/\t.pg=(s.2:Nat)
 has:∀ s ∈ wPre H 256,∃ t ∈ all,t.lv=(s.1:Nat)/\t.pg=(s.2:Nat)
 uniq:∀ t ∈ all,frOf all t.lv t.pg=t.fr
 root:(⟨0,1,0⟩:P3) ∈ all
theorem allL_ok {H:Nat->Ht} {n:Nat} {ps:List P3} (hn:0 < n) (h:PlcOk n ps) (hd:FrDis ps) (hw:(wPre H 256).length<=n):AllOk H n (allL H ps):=by
 have hks:=kept_sorted H h
 have hfm:=fresh_mem (H:=H) hn h hw (wPre H 256).length (Nat.le_refl _)
 have hkw:=fun (q:P3) (hq:q ∈ keptL H ps)=>kept_wanted h hq
 have hdis:=all_dis (H:=H) hd
 have hseat:∀ t ∈ allL H ps,∃ s ∈ wPre H 256,t.lv=(s.1:Nat)/\t.pg=(s.2:Nat):=by
  intro t ht
  rcases List.mem_append.1 ht with ht | ht
  ·obtain ⟨a,b,c⟩:=hkw t ht
   exact ⟨_,a,b.symm,c.symm⟩
  ·obtain ⟨j,hj,hj2,a,b,_⟩:=hfm t ht
   exact ⟨_,List.getElem_mem hj2,a,b⟩
 have hnew:∀ k,k<=(wPre H 256).length->(frTo (keptL H ps) (wPre H 256) k).Pairwise (fun a b=>¬ (a.lv=b.lv/\a.pg=b.pg)):=by
  intro k
  induction k with
  | zero=>intro _; rw [frTo_zero]; exact List.Pairwise.nil
  | succ k ih =>
   intro hk
   rw [frTo_succ _ _ k (by omega)]
   unfold frStep
   split
   ·rw [List.pairwise_append]
    refine ⟨ih (by omega),List.pairwise_singleton _ _,fun a ha b hb=>?_⟩
    rw [List.mem_singleton] at hb
    subst hb
    rintro ⟨e1,e2⟩
    obtain ⟨j,hj,hj2,a1,a2,_⟩:=fresh_mem (H:=H) hn h hw k (by omega) a ha
    have hp:=List.pairwise_iff_getElem.1 (wPre_sorted H 256) j k hj2 (by omega) hj
    unfold skey at hp
    dsimp only at e1 e2
    rw [a1] at e1
    rw [a2] at e2
    omega
   ·exact ih (by omega)
 refine ⟨hdis,fun t ht=>?_,hseat,fun s hs=>?_,fun t ht=>?_,List.mem_append_left _ (kept_mem.2 ⟨h.root,by unfold ndP; exact nd_one H _⟩)⟩
 ·rcases List.mem_append.1 ht with ht | ht
  ·exact h.fr (by omega) (kept_mem.1 ht).1
  ·obtain ⟨j,hj,hj2,_,_,_,F,hF,hF2⟩:=hfm t ht
   omega
 ·obtain ⟨j,hj,rfl⟩:=List.getElem_of_mem hs
  by_cases hf:frOf (keptL H ps) ((wPre H 256)[j]).1 ((wPre H 256)[j]).2 < 0
  ·obtain ⟨q,hq,a,b⟩:=frTo_has (keptL H ps) (wPre H 256) _ (Nat.le_refl _) j hj hj hf
   exact ⟨q,List.mem_append_right _ hq,a,b⟩
  ·obtain ⟨q,hq,a,b,_⟩:=frOf_mem (qs:=keptL H ps) (lv:=((wPre H 256)[j]).1) (pg:=((wPre H 256)[j]).2) (by omega)
   exact ⟨q,List.mem_append_left _ hq,a,b⟩
 ·unfold allL
  rw [frOf_append]
  rcases List.mem_append.1 ht with hk | hk
  ·have hsome:((keptL H ps).find? (sameS t.lv t.pg)).isSome:=by
    rw [List.find?_isSome]
    exact ⟨t,hk,by unfold sameS; simp⟩
   rw [if_pos hsome]
   exact frOf_at hks hk
  ·obtain ⟨j,hj,hj2,a,b,hneg,_⟩:=hfm t hk
   have hnone:¬ ((keptL H ps).find? (sameS t.lv t.pg)).isSome:=by
    intro hs
    rw [List.find?_isSome] at hs
    obtain ⟨q,hq,hsq⟩:=hs
    unfold sameS at hsq
    have h2:=of_decide_eq_true hsq
    have h3:=frOf_at hks hq
    rw [h2.1,h2.2] at h3
    have h4:=(h.fr (by omega) (kept_mem.1 hq).1).1
    omega
   rw [if_neg hnone]
   have hp:=hnew _ (Nat.le_refl _)
   have key:∀ (l:List P3),l.Pairwise (fun a b=>¬ (a.lv=b.lv/\a.pg=b.pg))->t ∈ l->frOf l t.lv t.pg=t.fr:=by
    intro l
    induction l with
    | nil=>intro _ hm; cases hm
    | cons c r ih =>
     intro hpw hm
     obtain ⟨p1,p2⟩:=List.pairwise_cons.1 hpw
     unfold frOf
     rcases List.mem_cons.1 hm with e | e
     ·subst e
      rw [List.find?_cons_of_pos (by unfold sameS; simp)]
     ·rw [List.find?_cons_of_neg (by
       unfold sameS
       rw [decide_eq_false (p1 t e)]; decide)]
      exact ih p2 e
   exact key _ hp hk
theorem AllOk.of {H:Nat->Ht} {n:Nat} {all:List P3} (h:AllOk H n all) {lv pg:Nat} (hs:(lv,pg) ∈ wPre H 256):∃ t ∈ all,t.lv=(lv:Int)/\t.pg=(pg:Int)/\frOf all (lv:Int) (pg:Int)=t.fr/\0<=t.fr/\t.fr < n:=by
 obtain ⟨t,ht,a,b⟩:=h.has _ hs
 dsimp only at a b
 have:=h.uniq t ht
 rw [a,b] at this
 exact ⟨t,ht,a,b,this,h.fr t ht⟩
theorem AllOk.no {H:Nat->Ht} {n:Nat} {all:List P3} (h:AllOk H n all) {lv pg:Nat} (hs:(lv,pg) ∉ wPre H 256):frOf all (lv:Int) (pg:Int)=-1 :=
 frOf_neg (fun q hq e=>by
  obtain ⟨s,hm,a,b⟩:=h.seat q hq
  apply hs
  have e1:s.1=lv:=by have:=e.1; omega
  have e2:s.2=pg:=by have:=e.2; omega
  rw [<- e1,<- e2]
  exact hm)
end Go.Proofs.YtnmhkgmmpkjjeaaGreat
