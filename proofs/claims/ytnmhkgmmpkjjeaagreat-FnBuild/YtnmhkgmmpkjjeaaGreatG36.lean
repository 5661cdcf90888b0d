import Derived.Test.YtnmhkgmmpkjjeaaGreatG35
import Derived.Test.YtnmhkgmmpkjjeaaGreatG31
namespace Go.Proofs.YtnmhkgmmpkjjeaaGreat
set_option linter.unusedVariables false
theorem gd_set (zs:List Int) (i j:Nat) (v:Int):(zs.set i v).getD j 0=if j=i/\i < zs.length then v else zs.getD j 0:=by
 simp only [List.getD_eq_getElem?_getD,List.getElem?_set]
 by_cases e:i=j
 ·subst e
  by_cases h:i < zs.length
  ·simp [h]
  ·simp [h]
 ·simp [e,Ne.symm e]
theorem wrs_app (zs:List Int) (l m:List OpE):wrs zs (l ++ m)=wrs (wrs zs l) m:=by unfold wrs; exact List.foldl_append
theorem wrs_out (a:Nat):∀ (l:List OpE) (zs:List Int),(∀ o ∈ l,o.kind=1->o.a.toNat ≠ a)->(wrs zs l).getD a 0=zs.getD a 0
 | [],zs,_=>rfl
 | o :: r,zs,h=>by
  show (wrs (wr1 zs o) r).getD a 0=_
  rw [wrs_out a r _ (fun o' ho'=>h o' (List.mem_cons_of_mem _ ho'))]
  unfold wr1
  split
  ·rename_i hk
   rw [gd_set,if_neg (fun e=>h o (List.mem_cons_self ..) hk e.1.symm)]
  ·rfl
theorem wrs_in (a:Nat) (v:Int):∀ (l:List OpE) (zs:List Int),a < zs.length->(∀ o ∈ l,o.kind=1->o.a.toNat=a->o.word=v)->(∃ o ∈ l,o.kind=1/\o.a.toNat=a)->(wrs zs l).getD a 0=v
 | [],zs,_,_,h=>by obtain ⟨o,ho,_⟩:=h; cases ho
 | o :: r,zs,hl,h1,h2=>by
  show (wrs (wr1 zs o) r).getD a 0=v
  by_cases hr:∃ o' ∈ r,o'.kind=1/\o'.a.toNat=a
  ·exact wrs_in a v r _ (by rw [wr1_len]; exact hl) (fun o' ho'=>h1 o' (List.mem_cons_of_mem _ ho')) hr
  ·rw [wrs_out a r _ (fun o' ho' hk e=>hr ⟨o',ho',hk,e⟩)]
   obtain ⟨o',ho',hk,he⟩:=h2
   rcases List.mem_cons.1 ho' with e | e
   ·subst e
    unfold wr1
    rw [if_pos hk,gd_set,if_pos ⟨he.symm,by omega⟩]
    exact h1 o' (List.mem_cons_self ..) hk he
   ·exact absurd ⟨o',e,hk,he⟩ hr
theorem wrs_quiet (l:List OpE) (zs:List Int) (h:∀ o ∈ l,o.kind ≠ 1):wrs zs l=zs:=by
 induction l generalizing zs with
 | nil=>rfl
 | cons o r ih =>
  show wrs (wr1 zs o) r=zs
  have e:wr1 zs o=zs:=by unfold wr1; rw [if_neg (h o (List.mem_cons_self ..))]
  rw [e]
  exact ih zs (fun o' ho'=>h o' (List.mem_cons_of_mem _ ho'))
theorem wrs_seal (l:List OpE) (zs:List Int):wrs zs (sealO l)=wrs zs l:=by
 unfold sealO
 split
 ·rename_i h
  rw [List.isEmpty_iff.1 h]
 ·rw [wrs_app]
  exact wrs_quiet _ _ (fun o ho=>by rw [List.mem_singleton] at ho; subst ho; decide)
theorem wrs_plan (zs:List Int) (n:Nat) (H:Nat->Ht) (ps:List P3):wrs zs (planL zs n H ps)=wrs (wrs (wrs zs (brkOps zs H (allL H ps) (entL H ps))) (fillOps H (allL H ps) (newL H ps))) (lnkOps zs H (allL H ps) (entL H ps)):=by
 unfold planL
 have h1:∀ z,wrs z (tlbOps (mkB zs H (allL H ps) (entL H ps)))=z:=fun z=>wrs_quiet _ _ (fun o ho=>by
  unfold tlbOps at ho
  obtain ⟨f,_,rfl⟩:=List.mem_map.1 ho
  dsimp only
  omega)
 have h2:∀ z,wrs z (freeOps n (goneL H ps))=z:=fun z=>wrs_quiet _ _ (fun o ho=>by
  unfold freeOps at ho
  obtain ⟨f,_,rfl⟩:=List.mem_map.1 ho
  dsimp only
  omega)
 rw [wrs_app,wrs_app,wrs_app,wrs_app,wrs_seal,wrs_seal,wrs_seal,wrs_seal,h1,h2]
theorem seat_facts {H:Nat->Ht} {s:Nat × Nat} (h:s ∈ wPre H 256):(s.1=1\/s.1=2\/s.1=3)/\s.2 % (epg s.1 * 16)=0/\s.2+epg s.1 * 16<=4096:=by
 obtain ⟨h1,h2,h3,_,_,h6⟩:=wanted_cases h
 have:s.1=1\/s.1=2\/s.1=3:=by omega
 refine ⟨this,?_⟩
 rcases this with e | e | e <;> rw [e] at h3 h6 ⊢
 ·exact ⟨h6,h3⟩
 ·exact ⟨h6,h3⟩
 ·exact ⟨h6,h3⟩
theorem ent_mem {H:Nat->Ht} {n:Nat} {ps:List P3} (hn:0 < n) (h:PlcOk n ps) {t:P3} (ht:t ∈ keptL H ps) {i:Nat} (hi:i < 16):enOf t i ∈ entL H ps:=by
 obtain ⟨hs,e1,e2⟩:=kept_wanted h ht
 obtain ⟨hl,hm,hb⟩:=seat_facts hs
 have hfr:=frOf_at (kept_sorted H h) ht
 have hf0:=(h.fr (by omega) (kept_mem.1 ht).1).1
 generalize t.lv.toNat=L at *
 generalize t.pg.toNat=P at *
 dsimp only at *
 have hc:cov t.lv=(epg L:Nat):=by rw [<- e1]; exact cov_epg L
 have hpos:=epg_pos L
 have hone:enOf t i ∈ eOne (keptL H ps) (P+i * epg L) L:=by
  unfold eOne
  have m1:(P+i * epg L) % epg L=0:=by rcases hl with rfl | rfl | rfl <;> simp [epg] at hm hb ⊢ <;> omega
  have m2:P+i * epg L - (P+i * epg L) % (epg L * 16)=P:=by rcases hl with rfl | rfl | rfl <;> simp [epg] at hm hb ⊢ <;> omega
  have m3:(P+i * epg L) / epg L % 16=i:=by rcases hl with rfl | rfl | rfl <;> simp [epg] at hm hb ⊢ <;> omega
  rw [m1,m2,m3,e1,e2,hfr,if_pos ⟨rfl,hf0⟩,List.mem_singleton]
  unfold enOf
  rw [hc,<- e1,<- e2]
  congr 1
 have hlt:P+i * epg L < 4096:=by rcases hl with rfl | rfl | rfl <;> simp [epg] at hm hb ⊢ <;> omega
 unfold entL enTo
 refine List.mem_flatMap.2 ⟨P+i * epg L,List.mem_range.2 hlt,?_⟩
 unfold eAll
 rcases hl with rfl | rfl | rfl
 ·exact List.mem_append_left _ hone
 ·exact List.mem_append_right _ (List.mem_append_left _ hone)
 ·exact List.mem_append_right _ (List.mem_append_right _ hone)
theorem ent_of {H:Nat->Ht} {n:Nat} {ps:List P3} (hn:0 < n) (h:PlcOk n ps) {e:En} (he:e ∈ entL H ps):∃ t ∈ keptL H ps,∃ i:Nat,i < 16/\e=enOf t i:=by
 obtain ⟨page,lv,hp,h1,h3,hm,e1,e2,hf,hadr⟩:=enTo_mem he
 obtain ⟨q,hq,q1,q2,q3⟩:=frOf_mem hf
 have hl:lv=1\/lv=2\/lv=3:=by omega
 refine ⟨q,hq,page / epg lv % 16,Nat.mod_lt _ (by omega),?_⟩
 have hc:cov q.lv=(epg lv:Nat):=by rw [q1]; exact cov_epg lv
 unfold enOf
 rw [hc,q1,q2,q3,<- hadr]
 have hpg:((page - page % (epg lv * 16):Nat):Int)+((page / epg lv % 16:Nat):Int) * (epg lv:Nat)=(page:Nat):=by
  rcases hl with rfl | rfl | rfl <;> simp [epg] at hm ⊢ <;> omega
 rw [hpg]
 cases e
 simp only [En.mk.injEq] at *
 exact ⟨e1,e2,trivial⟩
theorem ad_inj {n:Nat} {all:List P3} (hd:FrDis all) {t u:P3} (ht:t ∈ all) (hu:u ∈ all) {i j:Nat} (hi:i < 16) (hj:j < 16) (ht0:0<=t.fr) (hu0:0<=u.fr) (h:(t.fr * 16+i).toNat=(u.fr * 16+j).toNat):t=u/\i=j:=by
 have:t.fr=u.fr/\i=j:=by omega
 exact ⟨hd.eq ht hu this.1,this.2⟩
def Right (x r:Int):Prop:=x=r\/(r=0/\x % 2=0)
theorem after_right {zs:List Int} {n:Nat} {H:Nat->Ht} {ps:List P3} (hz:zs.length=n * 16) (hn:0 < n) (h:PlcOk n ps) (hd:FrDis ps) (hw:(wPre H 256).length<=n) {t:P3} (ht:t ∈ allL H ps) {i:Nat} (hi:i < 16) :
  Right ((wrs zs (planL zs n H ps)).getD (t.fr * 16+i).toNat 0) (rgt H (allL H ps) t.lv (t.pg+i * cov t.lv)):=by
 have hok:=allL_ok (H:=H) hn h hd hw
 have hf:=hok.fr t ht
 have hfm:=fresh_mem (H:=H) hn h hw (wPre H 256).length (Nat.le_refl _)
 have hlt:(t.fr * 16+i).toNat < zs.length:=by omega
 have hkA:∀ u,u ∈ keptL H ps->u ∈ allL H ps:=fun u hu=>List.mem_append_left _ hu
 have hnA:∀ u,u ∈ newL H ps->u ∈ allL H ps:=fun u hu=>List.mem_append_right _ hu
 have hkn:∀ u,u ∈ keptL H ps->u ∈ newL H ps->False:=by
  intro u h1 h2
  obtain ⟨j,hj,hj2,_,_,hneg,_⟩:=hfm u h2
  have:=frOf_at (kept_sorted H h) h1
  have:=(h.fr (by omega) (kept_mem.1 h1).1).1
  omega
 rw [wrs_plan]
 rcases List.mem_append.1 ht with hk | hk
 ·skip
  have huniq:∀ e ∈ entL H ps,e.ad.toNat=(t.fr * 16+i).toNat->e=enOf t i:=by
   intro e he ha
   obtain ⟨u,hu,j,hj,rfl⟩:=ent_of hn h he
   obtain ⟨e1,e2⟩:=ad_inj (n:=n) hok.dis (hkA u hu) ht hj hi (hok.fr u (hkA u hu)).1 hf.1 ha
   rw [e1,e2]
  have hmem:=ent_mem (H:=H) hn h hk hi
  have hfill:∀ o ∈ fillOps H (allL H ps) (newL H ps),o.kind=1->o.a.toNat ≠ (t.fr * 16+i).toNat:=by
   intro o ho _ ha
   unfold fillOps at ho
   obtain ⟨u,hu,ho⟩:=List.mem_flatMap.1 ho
   unfold fillOne at ho
   obtain ⟨j,hj,rfl⟩:=List.mem_map.1 ho
   obtain ⟨e1,_⟩:=ad_inj (n:=n) hok.dis (hnA u hu) ht (List.mem_range.1 hj) hi (hok.fr u (hnA u hu)).1 hf.1 ha
   rw [e1] at hu
   exact hkn t hk hu
  have hw0:wOf zs (enOf t i).ad=zs.getD (t.fr * 16+i).toNat 0:=rfl
  have hr0:rgt H (allL H ps) (enOf t i).lv (enOf t i).pg=rgt H (allL H ps) t.lv (t.pg+i * cov t.lv):=rfl
  have hb1:(wrs zs (brkOps zs H (allL H ps) (entL H ps))).length=zs.length:=wrs_len _ _
  have hb2:(wrs (wrs zs (brkOps zs H (allL H ps) (entL H ps))) (fillOps H (allL H ps) (newL H ps))).length=zs.length:=by rw [wrs_len,wrs_len]
  by_cases hl:lnk zs H (allL H ps) (enOf t i)=true
  ·left
   refine wrs_in _ _ _ _ (by rw [hb2]; exact hlt) (fun o ho hk1 ha=>?_) ⟨⟨1,(enOf t i).ad,0,rgt H (allL H ps) (enOf t i).lv (enOf t i).pg⟩,?_,rfl,rfl⟩
   ·unfold lnkOps at ho
    obtain ⟨e,he,rfl⟩:=List.mem_map.1 ho
    rw [huniq e (List.mem_filter.1 he).1 ha]
    rfl
   ·unfold lnkOps
    exact List.mem_map.2 ⟨enOf t i,List.mem_filter.2 ⟨hmem,hl⟩,rfl⟩
  ·have hl':lnk zs H (allL H ps) (enOf t i)=false:=by simpa using hl
   rw [wrs_out _ _ _ (fun o ho hk1 ha=>by
    unfold lnkOps at ho
    obtain ⟨e,he,rfl⟩:=List.mem_map.1 ho
    obtain ⟨he1,he2⟩:=List.mem_filter.1 he
    rw [huniq e he1 ha] at he2
    rw [hl'] at he2
    cases he2),wrs_out _ _ _ hfill]
   unfold lnk at hl'
   rw [hr0,hw0,decide_eq_false_iff_not] at hl'
   by_cases hb:brk zs H (allL H ps) (enOf t i)=true
   ·have hv:(wrs zs (brkOps zs H (allL H ps) (entL H ps))).getD (t.fr * 16+i).toNat 0=0:=by
     refine wrs_in _ _ _ _ hlt (fun o ho hk1 ha=>?_) ⟨⟨1,(enOf t i).ad,0,0⟩,?_,rfl,rfl⟩
     ·unfold brkOps at ho
      obtain ⟨e,he,rfl⟩:=List.mem_map.1 ho
      rfl
     ·unfold brkOps
      exact List.mem_map.2 ⟨enOf t i,List.mem_filter.2 ⟨hmem,hb⟩,rfl⟩
    rw [hv]
    unfold brk at hb
    rw [hr0,hw0,decide_eq_true_eq] at hb
    left
    by_cases hr:rgt H (allL H ps) t.lv (t.pg+i * cov t.lv)=0
    ·exact hr.symm
    ·exact absurd ⟨hr,fun e=>hb.2 e.symm⟩ hl'
   ·have hb':brk zs H (allL H ps) (enOf t i)=false:=by simpa using hb
    rw [wrs_out _ _ _ (fun o ho hk1 ha=>by
     unfold brkOps at ho
     obtain ⟨e,he,rfl⟩:=List.mem_map.1 ho
     obtain ⟨he1,he2⟩:=List.mem_filter.1 he
     rw [huniq e he1 ha] at he2
     rw [hb'] at he2
     cases he2)]
    unfold brk at hb'
    rw [hr0,hw0,decide_eq_false_iff_not] at hb'
    by_cases hr:rgt H (allL H ps) t.lv (t.pg+i * cov t.lv)=zs.getD (t.fr * 16+i).toNat 0
    ·exact .inl hr.symm
    ·right
     have h0:rgt H (allL H ps) t.lv (t.pg+i * cov t.lv)=0:=by
      by_cases h0:rgt H (allL H ps) t.lv (t.pg+i * cov t.lv)=0
      ·exact h0
      ·exact absurd ⟨h0,hr⟩ hl'
     refine ⟨h0,?_⟩
     by_cases h1:zs.getD (t.fr * 16+i).toNat 0 % 2=1
     ·exact absurd ⟨h1,fun e=>hr e.symm⟩ hb'
     ·omega
 ·skip
  left
  rw [wrs_out _ _ _ (fun o ho hk1 ha=>by
   unfold lnkOps at ho
   obtain ⟨e,he,rfl⟩:=List.mem_map.1 ho
   obtain ⟨u,hu,j,hj,rfl⟩:=ent_of hn h (List.mem_filter.1 he).1
   obtain ⟨e1,_⟩:=ad_inj (n:=n) hok.dis (hkA u hu) ht hj hi (hok.fr u (hkA u hu)).1 hf.1 ha
   rw [e1] at hu
   exact hkn t hu hk)]
  refine wrs_in _ _ _ _ (by rw [wrs_len]; exact hlt) (fun o ho hk1 ha=>?_) ⟨⟨1,t.fr * 16+(i:Nat),0,rgt H (allL H ps) t.lv (t.pg+(i:Nat) * cov t.lv)⟩,?_,rfl,rfl⟩
  ·unfold fillOps at ho
   obtain ⟨u,hu,ho⟩:=List.mem_flatMap.1 ho
   unfold fillOne at ho
   obtain ⟨j,hj,rfl⟩:=List.mem_map.1 ho
   obtain ⟨e1,e2⟩:=ad_inj (n:=n) hok.dis (hnA u hu) ht (List.mem_range.1 hj) hi (hok.fr u (hnA u hu)).1 hf.1 ha
   rw [e1,e2]
  ·unfold fillOps
   refine List.mem_flatMap.2 ⟨t,hk,?_⟩
   unfold fillOne
   exact List.mem_map.2 ⟨i,List.mem_range.2 hi,rfl⟩
structure LayOk (H:Nat->Ht):Prop where
 zero:∀ p,p < 4096->(H p).k ≠ 1->H p=zHt
 one:∀ p,p < 4096->(H p).k=1->0<=(H p).o/\(H p).o < 65536/\1<=(H p).p/\(H p).p<=7/\((H p).s=1\/(H p).s=16)
 big:∀ p,p < 4096->(H p).s=16->(H (p - p % 16)).o % 16=0/\∀ j,j < 16->H (p - p % 16+j)=⟨1,(H (p - p % 16)).o+j,(H (p - p % 16)).p,16⟩
theorem dec_even (l x:Int) (h1:1<=l) (h3:l<=3) (h:x % 2=0):dKind l x=0/\dOut l x=0/\dPerm l x=0:=by
 have hk:dKind l x=0:=by unfold dKind; rw [if_neg (by omega),if_pos h]
 refine ⟨hk,?_,?_⟩
 ·unfold dOut; rw [if_pos (.inl hk)]
 ·unfold dPerm; rw [if_pos (.inl hk)]
theorem dec_right (l x r:Int) (h1:1<=l) (h3:l<=3) (h:Right x r):dKind l x=dKind l r/\dOut l x=dOut l r/\dPerm l x=dPerm l r:=by
 rcases h with h | ⟨h,hx⟩
 ·rw [h]; exact ⟨rfl,rfl,rfl⟩
 ·obtain ⟨a,b,c⟩:=dec_even l x h1 h3 hx
  obtain ⟨a',b',c'⟩:=dec_even l r h1 h3 (by rw [h]; rfl)
  rw [a,b,c,a',b',c']
  exact ⟨rfl,rfl,rfl⟩
theorem enc_dec (l k o p:Int) (hk:k=1\/k=2\/k=3) (ho:0<=o) (ho1:o < 65536) (hp:0<=p) (hp1:p<=7) (h:dKind l (encW k o p)=k):dKind l (encI l k o p)=k/\dOut l (encI l k o p)=o/\dPerm l (encI l k o p)=p:=by
 have hO:dOut l (encW k o p)=o:=by
  unfold dOut
  rw [if_neg (by omega)]
  unfold encW
  split <;> omega
 have hP:dPerm l (encW k o p)=p:=by
  unfold dPerm
  rw [if_neg (by omega)]
  unfold encW
  split <;> omega
 have e:encI l k o p=encW k o p:=by
  unfold encI
  rw [if_pos ⟨hk,ho,ho1,hp,hp1,h,hO,hP⟩]
 rw [e]
 exact ⟨h,hO,hP⟩
theorem enc_table (l f:Int) (hl:l=1\/l=2) (h0:0<=f) (h1:f < 65536):dKind l (encI l 1 f 0)=1/\dOut l (encI l 1 f 0)=f/\dPerm l (encI l 1 f 0)=0:=by
 refine enc_dec l 1 f 0 (.inl rfl) h0 h1 (by omega) (by omega) ?_
 have e:encW 1 f 0=3+f * 4096:=by unfold encW; rw [if_neg (by omega)]; omega
 rw [e]
 unfold dKind
 rw [if_neg (by omega),if_neg (by omega),if_neg (by omega),if_pos (by omega)]
theorem enc_block (o p:Int) (h0:0<=o) (h1:o < 65536) (hm:o % 16=0) (hp:1<=p) (hp1:p<=7):dKind 2 (encI 2 2 o p)=2/\dOut 2 (encI 2 2 o p)=o/\dPerm 2 (encI 2 2 o p)=p:=by
 refine enc_dec 2 2 o p (.inr (.inl rfl)) h0 h1 (by omega) hp1 ?_
 have e:encW 2 o p=1+p * 4+o * 4096:=by unfold encW; rw [if_pos rfl]; omega
 rw [e]
 unfold dKind
 rw [if_neg (by omega),if_neg (by omega),if_neg (by omega),if_neg (by omega),if_pos (by omega)]
theorem enc_page (o p:Int) (h0:0<=o) (h1:o < 65536) (hp:1<=p) (hp1:p<=7):dKind 3 (encI 3 3 o p)=3/\dOut 3 (encI 3 3 o p)=o/\dPerm 3 (encI 3 3 o p)=p:=by
 refine enc_dec 3 3 o p (.inr (.inr rfl)) h0 h1 (by omega) hp1 ?_
 have e:encW 3 o p=3+p * 4+o * 4096:=by unfold encW; rw [if_neg (by omega)]; omega
 rw [e]
 unfold dKind
 rw [if_neg (by omega),if_neg (by omega),if_neg (by omega),if_neg (by omega),if_neg (by omega),if_pos (by omega)]
theorem walk_eq (zs:List Int) (pg:Nat) (hn:nfr zs.length ≠ 0) (hp:pg < 4096):walkZ zs pg=fromR (nfr zs.length) pg 1 (w1z zs pg) (fromR (nfr zs.length) pg 2 (w2z zs pg) (fromR (nfr zs.length) pg 3 (w3z zs pg) ⟨0,0,0,0⟩)):=by
 have hpo:pageOk (pg:Int)=true:=by simp [pageOk]; omega
 have e1:wordM (bare zs) (pg:Int) 0 1 0=w1z zs pg:=by
  rw [wordM_bare]
  exact word_at zs 0 (pg / 256) _ (by omega) (by simp [idx])
 have e2:wordM (bare zs) (pg:Int) 0 2 (dOut 1 (w1z zs pg))=w2z zs pg:=by
  rw [wordM_bare]
  exact word_at zs _ (pg / 16 % 16) _ (dOut_lo _ _).1 (by simp [idx])
 have e3:wordM (bare zs) (pg:Int) 0 3 (dOut 2 (w2z zs pg))=w3z zs pg:=by
  rw [wordM_bare]
  exact word_at zs _ (pg % 16) _ (dOut_lo _ _).1 (by simp [idx])
 unfold walkZ
 rw [if_neg (by simp [hn,hpo])]
 rw [<- from_step zs pg 1 0 1 (by omega),e1,<- from_step zs pg (1+1) _ 0 (by omega)]
 rw [show (1:Int)+1=2 from rfl,e2,<- from_end zs pg (2+1) _ ⟨0,0,0,0⟩ rfl,show (2:Int)+1=3 from rfl,e3]
structure MemOk (H:Nat->Ht) (n:Nat) (all:List P3) (A:List Int):Prop where
 lay:LayOk H
 tb:AllOk H n all
 len:nfr A.length=n
 n1:1<=n
 n2:n<=512
 word:∀ t ∈ all,∀ i:Nat,i < 16->Right (wordAt A t.fr i) (rgt H all t.lv (t.pg+i * cov t.lv))
theorem MemOk.at1 {H:Nat->Ht} {n:Nat} {all:List P3} {A:List Int} (h:MemOk H n all A) (i:Nat) (hi:i < 16):Right (wordAt A 0 i) (if frOf all 2 (i * 256:Nat) < 0 then 0 else encI 1 1 (frOf all 2 (i * 256:Nat)) 0):=by
 have:=h.word _ h.tb.root i hi
 unfold rgt at this
 dsimp only at this
 rw [if_neg (by decide),if_neg (by simp),show cov 1=256 from rfl] at this
 rw [show (1:Int)+1=2 from rfl,show (0:Int)+(i:Int) * 256=((i * 256:Nat):Int) by omega] at this
 exact this
theorem MemOk.l1 {H:Nat->Ht} {n:Nat} {all:List P3} {A:List Int} (h:MemOk H n all A) (i:Nat) (hi:i < 16) :
  (nd H 2 (i * 256)=false/\dKind 1 (wordAt A 0 i)=0)\/(nd H 2 (i * 256)=true/\dKind 1 (wordAt A 0 i)=1/\∃ t ∈ all,t.lv=2/\t.pg=(i * 256:Nat)/\dOut 1 (wordAt A 0 i)=t.fr/\0<=t.fr/\t.fr < n):=by
 have hr:=dec_right 1 _ _ (by omega) (by omega) (h.at1 i hi)
 cases hd:nd H 2 (i * 256)
 ·left
  have hno:=h.tb.no (lv:=2) (pg:=i * 256) (fun hm=>by
   have:=(wanted_cases hm).2.2.2.1
   dsimp only at this
   rw [hd] at this
   cases this)
  rw [show ((2:Nat):Int)=2 from rfl] at hno
  rw [hno,if_pos (by omega)] at hr
  exact ⟨rfl,hr.1.trans (dec_even 1 0 (by omega) (by omega) rfl).1⟩
 ·right
  obtain ⟨t,ht,a,b,c,d0,d1⟩:=h.tb.of (wanted_2 hi hd)
  rw [show ((2:Nat):Int)=2 from rfl] at c a
  have:=h.n2
  rw [c,if_neg (by omega)] at hr
  obtain ⟨e1,e2,_⟩:=enc_table 1 t.fr (.inl rfl) d0 (by omega)
  exact ⟨rfl,hr.1.trans e1,t,ht,a,b,hr.2.1.trans e2,d0,d1⟩
theorem big_not3 {H:Nat->Ht} (hl:LayOk H) (P:Nat) (hP:P < 4096) (hm:P % 16=0) (hs:(H P).s=16):nd H 3 P=false:=by
 refine nd_none (by omega) (fun k hk=>?_)
 have hk16:k < 16:=hk
 have hb:=(hl.big P hP hs).2 k hk16
 rw [show P - P % 16=P by omega] at hb
 unfold hB
 rw [hb]
 simp
theorem MemOk.l2 {H:Nat->Ht} {n:Nat} {all:List P3} {A:List Int} (h:MemOk H n all A) (i j:Nat) (hi:i < 16) (hj:j < 16) (t:P3) (ht:t ∈ all) (h2:t.lv=2) (hp:t.pg=(i * 256:Nat)) :
  ((H (i * 256+j * 16)).s=16/\dKind 2 (wordAt A t.fr j)=2/\dOut 2 (wordAt A t.fr j)=(H (i * 256+j * 16)).o/\dPerm 2 (wordAt A t.fr j)=(H (i * 256+j * 16)).p)
  \/ ((H (i * 256+j * 16)).s ≠ 16/\nd H 3 (i * 256+j * 16)=false/\dKind 2 (wordAt A t.fr j)=0)
  \/ ((H (i * 256+j * 16)).s ≠ 16/\nd H 3 (i * 256+j * 16)=true/\dKind 2 (wordAt A t.fr j)=1/\∃ u ∈ all,u.lv=3/\u.pg=(i * 256+j * 16:Nat)/\dOut 2 (wordAt A t.fr j)=u.fr/\0<=u.fr/\u.fr < n):=by
 have hw:=h.word t ht j hj
 rw [h2,hp,show cov 2=16 from rfl,show ((i * 256:Nat):Int)+(j:Int) * 16=((i * 256+j * 16:Nat):Int) by omega] at hw
 have hr:=dec_right 2 _ _ (by omega) (by omega) hw
 generalize hx:wordAt A t.fr j=x at *
 have hlt:i * 256+j * 16 < 4096:=by omega
 have ht:((i * 256+j * 16:Nat):Int).toNat=i * 256+j * 16:=Int.toNat_natCast _
 unfold rgt at hr
 rw [ht,if_neg (by decide)] at hr
 by_cases hs:(H (i * 256+j * 16)).s=16
 ·left
  rw [if_pos ⟨rfl,hs⟩] at hr
  have hk:(H (i * 256+j * 16)).k=1:=by
   by_cases hk:(H (i * 256+j * 16)).k=1
   ·exact hk
   ·have:=h.lay.zero _ hlt hk
    rw [this] at hs
    exact absurd hs (by decide)
  obtain ⟨o0,o1,p0,p1,_⟩:=h.lay.one _ hlt hk
  have hb:=(h.lay.big _ hlt hs).1
  rw [show i * 256+j * 16 - (i * 256+j * 16) % 16=i * 256+j * 16 by omega] at hb
  obtain ⟨e1,e2,e3⟩:=enc_block _ _ o0 o1 hb p0 p1
  exact ⟨hs,hr.1.trans e1,hr.2.1.trans e2,hr.2.2.trans e3⟩
 ·rw [if_neg (fun hh=>hs hh.2),show (2:Int)+1=3 from rfl] at hr
  cases hd:nd H 3 (i * 256+j * 16)
  ·right; left
   have hno:=h.tb.no (lv:=3) (pg:=i * 256+j * 16) (fun hm=>by
    have:=(wanted_cases hm).2.2.2.1
    dsimp only at this
    rw [hd] at this
    cases this)
   rw [show ((3:Nat):Int)=3 from rfl] at hno
   rw [hno,if_pos (by omega)] at hr
   exact ⟨hs,rfl,hr.1.trans (dec_even 2 0 (by omega) (by omega) rfl).1⟩
  ·right; right
   have hmem:(3,i * 256+j * 16) ∈ wPre H 256:=by
    have e:i * 256+j * 16=(i * 16+j) * 16:=by omega
    rw [e] at hd ⊢
    exact wanted_3 (by omega) hd
   obtain ⟨u,hu,a,b,c,d0,d1⟩:=h.tb.of hmem
   rw [show ((3:Nat):Int)=3 from rfl] at c a
   have:=h.n2
   rw [c,if_neg (by omega)] at hr
   obtain ⟨e1,e2,_⟩:=enc_table 2 u.fr (.inr rfl) d0 (by omega)
   exact ⟨hs,rfl,hr.1.trans e1,u,hu,a,b,hr.2.1.trans e2,d0,d1⟩
theorem hitEq (h:Ht) {k o p s:Int} (e:h=⟨k,o,p,s⟩):(⟨h.k,h.o,h.p,h.s⟩:HitR)=⟨k,o,p,s⟩:=by rw [e]
theorem fromR_lead (n page l x:Int) (R:HitR) (h1:dKind l x=1) (h2:dOut l x < n) (h3:l < 3):fromR n page l x R=R:=by
 unfold fromR
 rw [if_neg (by omega),if_pos ⟨h1,h2,h3⟩]
theorem MemOk.walk {H:Nat->Ht} {n:Nat} {all:List P3} {A:List Int} (h:MemOk H n all A) (p:Nat) (hp:p < 4096):walkZ A p=⟨(H p).k,(H p).o,(H p).p,(H p).s⟩:=by
 have hn0:nfr A.length ≠ 0:=by rw [h.len]; have:=h.n1; omega
 rw [walk_eq A p hn0 hp,h.len]
 have hi:p / 256 < 16:=by omega
 have hj:p / 16 % 16 < 16:=by omega
 have hP2:p / 256 * 256+p / 16 % 16 * 16=p - p % 16:=by omega
 have hPlt:p - p % 16 < 4096:=by omega
 have small:(H (p - p % 16)).s ≠ 16->(H p).k=1->(H p).s=1:=by
  intro hs hk
  rcases (h.lay.one p hp hk).2.2.2.2 with e | e
  ·exact e
  ·have:=(h.lay.big p hp e).2 0 (by omega)
   rw [Nat.add_zero] at this
   rw [this] at hs
   exact absurd rfl hs
 rcases h.l1 (p / 256) hi with ⟨hd,hk⟩ | ⟨hd,hk,t,ht,t1,t2,t3,t4,t5⟩
 ·have hz:H p=zHt:=by
   refine h.lay.zero p hp (fun hk1=>?_)
   have:nd H 2 (p / 256 * 256)=true:=nd_hit (k:=p - p / 256 * 256) (by show p - p / 256 * 256 < 256; omega) (by
    unfold hB
    rw [show p / 256 * 256+(p - p / 256 * 256)=p by omega,hk1]
    simp)
   rw [this] at hd
   cases hd
  rw [hz]
  unfold fromR
  rw [show w1z A p=wordAt A 0 (p / 256) from rfl,if_pos hk]
  rfl
 ·have e1:fromR n p 1 (w1z A p) (fromR n p 2 (w2z A p) (fromR n p 3 (w3z A p) ⟨0,0,0,0⟩))=fromR n p 2 (w2z A p) (fromR n p 3 (w3z A p) ⟨0,0,0,0⟩):=by
   exact fromR_lead _ _ _ _ _ hk (by rw [show w1z A p=wordAt A 0 (p / 256) from rfl,t3]; exact t5) (by omega)
  rw [e1]
  have ew2:w2z A p=wordAt A t.fr (p / 16 % 16):=by
   unfold w2z
   rw [show w1z A p=wordAt A 0 (p / 256) from rfl,t3]
  have h2:=h.l2 (p / 256) (p / 16 % 16) hi hj t ht t1 t2
  rw [hP2,<- ew2] at h2
  rcases h2 with ⟨hs,k2,o2,p2⟩ | ⟨hs,hd3,k2⟩ | ⟨hs,hd3,k2,u,hu,u1,u2,u3,u4,u5⟩
  ·have hb:=(h.lay.big _ hPlt hs).2 (p % 16) (by omega)
   rw [show p - p % 16 - (p - p % 16) % 16=p - p % 16 by omega,show p - p % 16+p % 16=p by omega] at hb
   rw [hitEq _ hb]
   unfold fromR
   rw [if_neg (by omega),if_neg (by omega),if_pos k2,o2,p2]
   simp
  ·have hz:H p=zHt:=by
    refine h.lay.zero p hp (fun hk1=>?_)
    have hs1:=small hs hk1
    have:nd H 3 (p - p % 16)=true:=nd_hit (k:=p % 16) (by show p % 16 < 16; omega) (by
     unfold hB
     rw [show p - p % 16+p % 16=p by omega,hk1,hs1]
     simp)
    rw [this] at hd3
    cases hd3
   rw [hz]
   unfold fromR
   rw [if_pos k2]
   rfl
  ·have e2:fromR n p 2 (w2z A p) (fromR n p 3 (w3z A p) ⟨0,0,0,0⟩)=fromR n p 3 (w3z A p) ⟨0,0,0,0⟩:=by
    exact fromR_lead _ _ _ _ _ k2 (by omega) (by omega)
   rw [e2]
   have ew3:w3z A p=wordAt A u.fr (p % 16):=by
    unfold w3z
    rw [u3]
   have hw:=h.word u hu (p % 16) (by omega)
   rw [u1,u2,show cov 3=1 from rfl,show ((p - p % 16:Nat):Int)+((p % 16:Nat):Int) * 1=((p:Nat):Int) by omega,<- ew3] at hw
   have hr:=dec_right 3 _ _ (by omega) (by omega) hw
   unfold rgt at hr
   rw [if_pos rfl,Int.toNat_natCast] at hr
   by_cases hk1:(H p).k=1
   ·rw [if_pos hk1] at hr
    obtain ⟨o0,o1,p0,p1,_⟩:=h.lay.one p hp hk1
    obtain ⟨e3,e4,e5⟩:=enc_page _ _ o0 o1 p0 p1
    unfold fromR
    rw [hr.1,hr.2.1,hr.2.2,e3,e4,e5,if_neg (by omega),if_neg (by omega),if_neg (by omega),if_pos rfl,small hs hk1,hk1]
   ·rw [if_neg hk1] at hr
    rw [h.lay.zero p hp hk1]
    unfold fromR
    rw [hr.1,(dec_even 3 0 (by omega) (by omega) rfl).1,if_pos rfl]
    rfl
end Go.Proofs.YtnmhkgmmpkjjeaaGreat
