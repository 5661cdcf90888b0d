import Derived.Test.YtnmhkgmmpkjjeaaGreatL33
namespace Go.Proofs.YtnmhkgmmpkjjeaaGreat
set_option linter.unusedVariables false
theorem SR (zs:List Int) (i j:Nat) (v:Int):(zs.set i v).getD j 0=if j=i/\i<zs.length then v else zs.getD j 0:=by
 simp only[List.getD_eq_getElem?_getD,List.getElem?_set];by_cases e:i=j
 ·subst e;by_cases h:i<zs.length
  ·simp[h]
  ·simp[h]
 ·simp[e,Ne.symm e]
theorem GT (zs:List Int) (l m:List Ay):Bu zs (l++m)=Bu (Bu zs l) m:=by unfold Bu;exact List.foldl_append
theorem Ea (a:Nat):∀(l:List Ay) (zs:List Int),(∀o∈l,o.kind=1->o.a.toNat≠a)->(Bu zs l).getD a 0=zs.getD a 0
 | [],zs,_=>rfl
 | o :: r,zs,h=>by
  show (Bu (LQ zs o) r).getD a 0=_;rw[Ea a r _ (fun o' ho'=>h o' (List.mem_cons_of_mem _ ho'))];unfold LQ;split
  ·rename_i hk;rw[SR,if_neg (fun e=>h o (List.mem_cons_self ..) hk e.1.symm)]
  ·rfl
theorem Ic (a:Nat) (v:Int):∀(l:List Ay) (zs:List Int),a<zs.length->(∀o∈l,o.kind=1->o.a.toNat=a->o.word=v)->(∃o∈l,o.kind=1/\o.a.toNat=a)->(Bu zs l).getD a 0=v
 | [],zs,_,_,h=>by obtain⟨o,ho,_⟩:=h;cases ho
 | o :: r,zs,hl,h1,h2=>by
  show (Bu (LQ zs o) r).getD a 0=v;by_cases hr:∃o'∈r,o'.kind=1/\o'.a.toNat=a
  ·exact Ic a v r _ (by rw[QG];exact hl) (fun o' ho'=>h1 o' (List.mem_cons_of_mem _ ho')) hr
  ·rw[Ea a r _ (fun o' ho' hk e=>hr ⟨o',ho',hk,e⟩)];obtain⟨o',ho',hk,he⟩:=h2;rcases List.mem_cons.1 ho' with e|e
   ·subst e;unfold LQ;rw[if_pos hk,SR,if_pos ⟨he.symm,by omega⟩];exact h1 o' (List.mem_cons_self ..) hk he
   ·exact absurd ⟨o',e,hk,he⟩ hr
theorem Ib (l:List Ay) (zs:List Int) (h:∀o∈l,o.kind≠1):Bu zs l=zs:=by
 induction l generalizing zs with
 | nil=>rfl
 | cons o r ih =>
  show Bu (LQ zs o) r=zs;have e:LQ zs o=zs:=by unfold LQ;rw[if_neg (h o (List.mem_cons_self ..))]
  rw[e];exact ih zs (fun o' ho'=>h o' (List.mem_cons_of_mem _ ho'))
theorem IG (l:List Ay) (zs:List Int):Bu zs (BB l)=Bu zs l:=by
 unfold BB;split
 ·rename_i h;rw[List.isEmpty_iff.1 h]
 ·rw[GT];exact Ib _ _ (fun o ho=>by rw[List.mem_singleton] at ho;subst ho;decide)
theorem NY (zs:List Int) (n:Nat) (H:Nat->Ht) (ps:List P3):Bu zs (AO zs n H ps)=Bu (Bu (Bu zs (AR zs H (AY H ps) (Bk H ps))) (AK H (AY H ps) (CM H ps))) (AZ zs H (AY H ps) (Bk H ps)):=by
 unfold AO
 have h1:∀z,Bu z (Av (FD zs H (AY H ps) (Bk H ps)))=z:=fun z=>Ib _ _ (fun o ho=>by
  unfold Av at ho
  obtain⟨f,_,rfl⟩:=List.mem_map.1 ho
  dsimp only
  omega)
 have h2:∀z,Bu z (Ah n (CH H ps))=z:=fun z=>Ib _ _ (fun o ho=>by
  unfold Ah at ho
  obtain⟨f,_,rfl⟩:=List.mem_map.1 ho
  dsimp only
  omega)
 rw[GT,GT,GT,GT,IG,IG,IG,IG,h1,h2]
theorem KK {H:Nat->Ht} {s:Nat×Nat} (h:s∈AA H 256):(s.1=1\/s.1=2\/s.1=3)/\s.2%(Aq s.1*16)=0/\s.2+Aq s.1*16<=4096:=by
 obtain⟨h1,h2,h3,_,_,h6⟩:=Be h;have:s.1=1\/s.1=2\/s.1=3:=by omega
 refine⟨this,?_⟩;rcases this with e|e|e<;>rw[e] at h3 h6 ⊢
 ·exact⟨h6,h3⟩
 ·exact⟨h6,h3⟩
 ·exact⟨h6,h3⟩
theorem QZ {H:Nat->Ht} {n:Nat} {ps:List P3} (hn:0<n) (h:BI n ps) {t:P3} (ht:t∈AC H ps) {i:Nat} (hi:i<16):Bd t i∈Bk H ps:=by
 obtain⟨hs,e1,e2⟩:=DI h ht;obtain⟨hl,hm,hb⟩:=KK hs;have hfr:=EZ (DN H h) ht;have hf0:=(h.fr (by omega) (BE.1 ht).1).1;generalize t.lv.toNat=L at *;generalize t.pg.toNat=P at *;dsimp only at *;have hc:Bj t.lv=(Aq L:Nat):=by rw[<- e1];exact CT L
 have hpos:=GX L;have hone:Bd t i∈EK (AC H ps) (P+i*Aq L) L:=by
  unfold EK;have m1:(P+i*Aq L)%Aq L=0:=by rcases hl with rfl|rfl|rfl<;>simp[Aq] at hm hb ⊢<;>omega
  have m2:P+i*Aq L-(P+i*Aq L)%(Aq L*16)=P:=by rcases hl with rfl|rfl|rfl<;>simp[Aq] at hm hb ⊢<;>omega
  have m3:(P+i*Aq L)/Aq L%16=i:=by rcases hl with rfl|rfl|rfl<;>simp[Aq] at hm hb ⊢<;>omega
  rw[m1,m2,m3,e1,e2,hfr,if_pos ⟨rfl,hf0⟩,List.mem_singleton];unfold Bd;rw[hc,<- e1,<- e2];congr 1
 have hlt:P+i*Aq L<4096:=by rcases hl with rfl|rfl|rfl<;>simp[Aq] at hm hb ⊢<;>omega
 unfold Bk BW;refine List.mem_flatMap.2 ⟨P+i*Aq L,List.mem_range.2 hlt,?_⟩;unfold LU;rcases hl with rfl|rfl|rfl
 ·exact List.mem_append_left _ hone
 ·exact List.mem_append_right _ (List.mem_append_left _ hone)
 ·exact List.mem_append_right _ (List.mem_append_right _ hone)
theorem Im {H:Nat->Ht} {n:Nat} {ps:List P3} (hn:0<n) (h:BI n ps) {e:En} (he:e∈Bk H ps):∃t∈AC H ps,∃i:Nat,i<16/\e=Bd t i:=by
 obtain⟨page,lv,hp,h1,h3,hm,e1,e2,hf,hadr⟩:=IJ he;obtain⟨q,hq,q1,q2,q3⟩:=E8 hf;have hl:lv=1\/lv=2\/lv=3:=by omega
 refine⟨q,hq,page/Aq lv%16,Nat.mod_lt _ (by omega),?_⟩;have hc:Bj q.lv=(Aq lv:Nat):=by rw[q1];exact CT lv
 unfold Bd;rw[hc,q1,q2,q3,<- hadr];have hpg:((page-page%(Aq lv*16):Nat):Int)+((page/Aq lv%16:Nat):Int)*(Aq lv:Nat)=(page:Nat):=by
  rcases hl with rfl|rfl|rfl<;>simp[Aq] at hm ⊢<;>omega
 rw[hpg];cases e;simp only[En.mk.injEq] at *;exact⟨e1,e2,trivial⟩
theorem In {n:Nat} {all:List P3} (hd:E9 all) {t u:P3} (ht:t∈all) (hu:u∈all) {i j:Nat} (hi:i<16) (hj:j<16) (ht0:0<=t.fr) (hu0:0<=u.fr) (h:(t.fr*16+i).toNat=(u.fr*16+j).toNat):t=u/\i=j:=by
 have:t.fr=u.fr/\i=j:=by omega
 exact⟨hd.eq ht hu this.1,this.2⟩
def NV (x r:Int):Prop:=x=r\/(r=0/\x%2=0)
theorem OJ {zs:List Int} {n:Nat} {H:Nat->Ht} {ps:List P3} (hz:zs.length=n*16) (hn:0<n) (h:BI n ps) (hd:E9 ps) (hw:(AA H 256).length<=n) {t:P3} (ht:t∈AY H ps) {i:Nat} (hi:i<16) : NV ((Bu zs (AO zs n H ps)).getD (t.fr*16+i).toNat 0) (Bv H (AY H ps) t.lv (t.pg+i*Bj t.lv)):=by
 have hok:=Mv (H:=H) hn h hd hw;have hf:=hok.fr t ht;have hfm:=DO (H:=H) hn h hw (AA H 256).length (Nat.le_refl _);have hlt:(t.fr*16+i).toNat<zs.length:=by omega
 have hkA:∀u,u∈AC H ps->u∈AY H ps:=fun u hu=>List.mem_append_left _ hu
 have hnA:∀u,u∈CM H ps->u∈AY H ps:=fun u hu=>List.mem_append_right _ hu
 have hkn:∀u,u∈AC H ps->u∈CM H ps->False:=by
  intro u h1 h2;obtain⟨j,hj,hj2,_,_,hneg,_⟩:=hfm u h2;have:=EZ (DN H h) h1;have:=(h.fr (by omega) (BE.1 h1).1).1;omega
 rw[NY];rcases List.mem_append.1 ht with hk|hk
 ·skip;have huniq:∀e∈Bk H ps,e.ad.toNat=(t.fr*16+i).toNat->e=Bd t i:=by
   intro e he ha;obtain⟨u,hu,j,hj,rfl⟩:=Im hn h he;obtain⟨e1,e2⟩:=In (n:=n) hok.dis (hkA u hu) ht hj hi (hok.fr u (hkA u hu)).1 hf.1 ha;rw[e1,e2]
  have hmem:=QZ (H:=H) hn h hk hi;have hfill:∀o∈AK H (AY H ps) (CM H ps),o.kind=1->o.a.toNat≠(t.fr*16+i).toNat:=by
   intro o ho _ ha;unfold AK at ho;obtain⟨u,hu,ho⟩:=List.mem_flatMap.1 ho;unfold Al at ho;obtain⟨j,hj,rfl⟩:=List.mem_map.1 ho;obtain⟨e1,_⟩:=In (n:=n) hok.dis (hnA u hu) ht (List.mem_range.1 hj) hi (hok.fr u (hnA u hu)).1 hf.1 ha;rw[e1] at hu;exact hkn t hk hu
  have hw0:IV zs (Bd t i).ad=zs.getD (t.fr*16+i).toNat 0:=rfl;have hr0:Bv H (AY H ps) (Bd t i).lv (Bd t i).pg=Bv H (AY H ps) t.lv (t.pg+i*Bj t.lv):=rfl;have hb1:(Bu zs (AR zs H (AY H ps) (Bk H ps))).length=zs.length:=CI _ _;have hb2:(Bu (Bu zs (AR zs H (AY H ps) (Bk H ps))) (AK H (AY H ps) (CM H ps))).length=zs.length:=by rw[CI,CI]
  by_cases hl:SH zs H (AY H ps) (Bd t i)=true
  ·left;refine Ic _ _ _ _ (by rw[hb2];exact hlt) (fun o ho hk1 ha=>?_) ⟨⟨1,(Bd t i).ad,0,Bv H (AY H ps) (Bd t i).lv (Bd t i).pg⟩,?_,rfl,rfl⟩
   ·unfold AZ at ho;obtain⟨e,he,rfl⟩:=List.mem_map.1 ho;rw[huniq e (List.mem_filter.1 he).1 ha];rfl
   ·unfold AZ;exact List.mem_map.2 ⟨Bd t i,List.mem_filter.2 ⟨hmem,hl⟩,rfl⟩
  ·have hl':SH zs H (AY H ps) (Bd t i)=false:=by simpa using hl
   rw[Ea _ _ _ (fun o ho hk1 ha=>by
    unfold AZ at ho
    obtain⟨e,he,rfl⟩:=List.mem_map.1 ho
    obtain⟨he1,he2⟩:=List.mem_filter.1 he
    rw[huniq e he1 ha] at he2
    rw[hl'] at he2
    cases he2),Ea _ _ _ hfill]
   unfold SH at hl';rw[hr0,hw0,decide_eq_false_iff_not] at hl';by_cases hb:JT zs H (AY H ps) (Bd t i)=true
   ·have hv:(Bu zs (AR zs H (AY H ps) (Bk H ps))).getD (t.fr*16+i).toNat 0=0:=by
     refine Ic _ _ _ _ hlt (fun o ho hk1 ha=>?_) ⟨⟨1,(Bd t i).ad,0,0⟩,?_,rfl,rfl⟩
     ·unfold AR at ho;obtain⟨e,he,rfl⟩:=List.mem_map.1 ho;rfl
     ·unfold AR;exact List.mem_map.2 ⟨Bd t i,List.mem_filter.2 ⟨hmem,hb⟩,rfl⟩
    rw[hv];unfold JT at hb;rw[hr0,hw0,decide_eq_true_eq] at hb;left;by_cases hr:Bv H (AY H ps) t.lv (t.pg+i*Bj t.lv)=0
    ·exact hr.symm
    ·exact absurd ⟨hr,fun e=>hb.2 e.symm⟩ hl'
   ·have hb':JT zs H (AY H ps) (Bd t i)=false:=by simpa using hb
    rw[Ea _ _ _ (fun o ho hk1 ha=>by
     unfold AR at ho
     obtain⟨e,he,rfl⟩:=List.mem_map.1 ho
     obtain⟨he1,he2⟩:=List.mem_filter.1 he
     rw[huniq e he1 ha] at he2
     rw[hb'] at he2
     cases he2)]
    unfold JT at hb';rw[hr0,hw0,decide_eq_false_iff_not] at hb';by_cases hr:Bv H (AY H ps) t.lv (t.pg+i*Bj t.lv)=zs.getD (t.fr*16+i).toNat 0
    ·exact .inl hr.symm
    ·right;have h0:Bv H (AY H ps) t.lv (t.pg+i*Bj t.lv)=0:=by
      by_cases h0:Bv H (AY H ps) t.lv (t.pg+i*Bj t.lv)=0
      ·exact h0
      ·exact absurd ⟨h0,hr⟩ hl'
     refine⟨h0,?_⟩;by_cases h1:zs.getD (t.fr*16+i).toNat 0%2=1
     ·exact absurd ⟨h1,fun e=>hr e.symm⟩ hb'
     ·omega
 ·skip;left
  rw[Ea _ _ _ (fun o ho hk1 ha=>by
   unfold AZ at ho
   obtain⟨e,he,rfl⟩:=List.mem_map.1 ho
   obtain⟨u,hu,j,hj,rfl⟩:=Im hn h (List.mem_filter.1 he).1
   obtain⟨e1,_⟩:=In (n:=n) hok.dis (hkA u hu) ht hj hi (hok.fr u (hkA u hu)).1 hf.1 ha
   rw[e1] at hu
   exact hkn t hu hk)]
  refine Ic _ _ _ _ (by rw[CI];exact hlt) (fun o ho hk1 ha=>?_) ⟨⟨1,t.fr*16+(i:Nat),0,Bv H (AY H ps) t.lv (t.pg+(i:Nat)*Bj t.lv)⟩,?_,rfl,rfl⟩
  ·unfold AK at ho;obtain⟨u,hu,ho⟩:=List.mem_flatMap.1 ho;unfold Al at ho;obtain⟨j,hj,rfl⟩:=List.mem_map.1 ho;obtain⟨e1,e2⟩:=In (n:=n) hok.dis (hnA u hu) ht (List.mem_range.1 hj) hi (hok.fr u (hnA u hu)).1 hf.1 ha;rw[e1,e2]
  ·unfold AK;refine List.mem_flatMap.2 ⟨t,hk,?_⟩;unfold Al;exact List.mem_map.2 ⟨i,List.mem_range.2 hi,rfl⟩
structure O5 (H:Nat->Ht):Prop where
 zero:∀p,p<4096->(H p).k≠1->H p=Qe
 one:∀p,p<4096->(H p).k=1->0<=(H p).o/\(H p).o<65536/\1<=(H p).p/\(H p).p<=7/\((H p).s=1\/(H p).s=16)
 big:∀p,p<4096->(H p).s=16->(H (p-p%16)).o%16=0/\∀j,j<16->H (p-p%16+j)=⟨1,(H (p-p%16)).o+j,(H (p-p%16)).p,16⟩
theorem G4 (l x:Int) (h1:1<=l) (h3:l<=3) (h:x%2=0):AJ l x=0/\AV l x=0/\B6 l x=0:=by
 have hk:AJ l x=0:=by unfold AJ;rw[if_neg (by omega),if_pos h]
 refine⟨hk,?_,?_⟩
 ·unfold AV;rw[if_pos (.inl hk)]
 ·unfold B6;rw[if_pos (.inl hk)]
theorem Ik (l x r:Int) (h1:1<=l) (h3:l<=3) (h:NV x r):AJ l x=AJ l r/\AV l x=AV l r/\B6 l x=B6 l r:=by
 rcases h with h|⟨h,hx⟩
 ·rw[h];exact⟨rfl,rfl,rfl⟩
 ·obtain⟨a,b,c⟩:=G4 l x h1 h3 hx;obtain⟨a',b',c'⟩:=G4 l r h1 h3 (by rw[h];rfl);rw[a,b,c,a',b',c'];exact⟨rfl,rfl,rfl⟩
theorem NI (l k o p:Int) (hk:k=1\/k=2\/k=3) (ho:0<=o) (ho1:o<65536) (hp:0<=p) (hp1:p<=7) (h:AJ l (D0 k o p)=k):AJ l (BZ l k o p)=k/\AV l (BZ l k o p)=o/\B6 l (BZ l k o p)=p:=by
 have hO:AV l (D0 k o p)=o:=by
  unfold AV;rw[if_neg (by omega)];unfold D0;split<;>omega
 have hP:B6 l (D0 k o p)=p:=by
  unfold B6;rw[if_neg (by omega)];unfold D0;split<;>omega
 have e:BZ l k o p=D0 k o p:=by
  unfold BZ;rw[if_pos ⟨hk,ho,ho1,hp,hp1,h,hO,hP⟩]
 rw[e];exact⟨h,hO,hP⟩
theorem Lc (l f:Int) (hl:l=1\/l=2) (h0:0<=f) (h1:f<65536):AJ l (BZ l 1 f 0)=1/\AV l (BZ l 1 f 0)=f/\B6 l (BZ l 1 f 0)=0:=by
 refine NI l 1 f 0 (.inl rfl) h0 h1 (by omega) (by omega) ?_;have e:D0 1 f 0=3+f*4096:=by unfold D0;rw[if_neg (by omega)];omega
 rw[e];unfold AJ;rw[if_neg (by omega),if_neg (by omega),if_neg (by omega),if_pos (by omega)]
theorem LZ (o p:Int) (h0:0<=o) (h1:o<65536) (hm:o%16=0) (hp:1<=p) (hp1:p<=7):AJ 2 (BZ 2 2 o p)=2/\AV 2 (BZ 2 2 o p)=o/\B6 2 (BZ 2 2 o p)=p:=by
 refine NI 2 2 o p (.inr (.inl rfl)) h0 h1 (by omega) hp1 ?_;have e:D0 2 o p=1+p*4+o*4096:=by unfold D0;rw[if_pos rfl];omega
 rw[e];unfold AJ;rw[if_neg (by omega),if_neg (by omega),if_neg (by omega),if_neg (by omega),if_pos (by omega)]
theorem Su (o p:Int) (h0:0<=o) (h1:o<65536) (hp:1<=p) (hp1:p<=7):AJ 3 (BZ 3 3 o p)=3/\AV 3 (BZ 3 3 o p)=o/\B6 3 (BZ 3 3 o p)=p:=by
 refine NI 3 3 o p (.inr (.inr rfl)) h0 h1 (by omega) hp1 ?_;have e:D0 3 o p=3+p*4+o*4096:=by unfold D0;rw[if_neg (by omega)];omega
 rw[e];unfold AJ;rw[if_neg (by omega),if_neg (by omega),if_neg (by omega),if_neg (by omega),if_neg (by omega),if_pos (by omega)]
theorem V4 (zs:List Int) (pg:Nat) (hn:Ae zs.length≠0) (hp:pg<4096):FO zs pg=C1 (Ae zs.length) pg 1 (Nm zs pg) (C1 (Ae zs.length) pg 2 (Ob zs pg) (C1 (Ae zs.length) pg 3 (SG zs pg) ⟨0,0,0,0⟩)):=by
 have hpo:Dp (pg:Int)=true:=by simp[Dp];omega
 have e1:Bx (Ce zs) (pg:Int) 0 1 0=Nm zs pg:=by
  rw[DA];exact GR zs 0 (pg/256) _ (by omega) (by simp[MR])
 have e2:Bx (Ce zs) (pg:Int) 0 2 (AV 1 (Nm zs pg))=Ob zs pg:=by
  rw[DA];exact GR zs _ (pg/16%16) _ (Cd _ _).1 (by simp[MR])
 have e3:Bx (Ce zs) (pg:Int) 0 3 (AV 2 (Ob zs pg))=SG zs pg:=by
  rw[DA];exact GR zs _ (pg%16) _ (Cd _ _).1 (by simp[MR])
 unfold FO;rw[if_neg (by simp[hn,hpo])];rw[<- FG zs pg 1 0 1 (by omega),e1,<- FG zs pg (1+1) _ 0 (by omega)];rw[show (1:Int)+1=2 from rfl,e2,<- Kb zs pg (2+1) _ ⟨0,0,0,0⟩ rfl,show (2:Int)+1=3 from rfl,e3]
structure Cu (H:Nat->Ht) (n:Nat) (all:List P3) (A:List Int):Prop where
 lay:O5 H
 tb:KA H n all
 len:Ae A.length=n
 n1:1<=n
 n2:n<=512
 word:∀t∈all,∀i:Nat,i<16->NV (A7 A t.fr i) (Bv H all t.lv (t.pg+i*Bj t.lv))
theorem Cu.at1 {H:Nat->Ht} {n:Nat} {all:List P3} {A:List Int} (h:Cu H n all A) (i:Nat) (hi:i<16):NV (A7 A 0 i) (if AH all 2 (i*256:Nat)<0 then 0 else BZ 1 1 (AH all 2 (i*256:Nat)) 0):=by
 have:=h.word _ h.tb.root i hi;unfold Bv at this;dsimp only at this;rw[if_neg (by decide),if_neg (by simp),show Bj 1=256 from rfl] at this;rw[show (1:Int)+1=2 from rfl,show (0:Int)+(i:Int)*256=((i*256:Nat):Int) by omega] at this;exact this
theorem Cu.l1 {H:Nat->Ht} {n:Nat} {all:List P3} {A:List Int} (h:Cu H n all A) (i:Nat) (hi:i<16) : (nd H 2 (i*256)=false/\AJ 1 (A7 A 0 i)=0)\/(nd H 2 (i*256)=true/\AJ 1 (A7 A 0 i)=1/\∃t∈all,t.lv=2/\t.pg=(i*256:Nat)/\AV 1 (A7 A 0 i)=t.fr/\0<=t.fr/\t.fr<n):=by
 have hr:=Ik 1 _ _ (by omega) (by omega) (h.at1 i hi);cases hd:nd H 2 (i*256)
 ·left
  have hno:=h.tb.no (lv:=2) (pg:=i*256) (fun hm=>by
   have:=(Be hm).2.2.2.1
   dsimp only at this
   rw[hd] at this
   cases this)
  rw[show ((2:Nat):Int)=2 from rfl] at hno;rw[hno,if_pos (by omega)] at hr;exact⟨rfl,hr.1.trans (G4 1 0 (by omega) (by omega) rfl).1⟩
 ·right;obtain⟨t,ht,a,b,c,d0,d1⟩:=h.tb.of (No hi hd);rw[show ((2:Nat):Int)=2 from rfl] at c a;have:=h.n2;rw[c,if_neg (by omega)] at hr;obtain⟨e1,e2,_⟩:=Lc 1 t.fr (.inl rfl) d0 (by omega);exact⟨rfl,hr.1.trans e1,t,ht,a,b,hr.2.1.trans e2,d0,d1⟩
theorem Sc {H:Nat->Ht} (hl:O5 H) (P:Nat) (hP:P<4096) (hm:P%16=0) (hs:(H P).s=16):nd H 3 P=false:=by
 refine Hu (by omega) (fun k hk=>?_);have hk16:k<16:=hk;have hb:=(hl.big P hP hs).2 k hk16;rw[show P-P%16=P by omega] at hb;unfold hB;rw[hb];simp
theorem Cu.l2 {H:Nat->Ht} {n:Nat} {all:List P3} {A:List Int} (h:Cu H n all A) (i j:Nat) (hi:i<16) (hj:j<16) (t:P3) (ht:t∈all) (h2:t.lv=2) (hp:t.pg=(i*256:Nat)) : ((H (i*256+j*16)).s=16/\AJ 2 (A7 A t.fr j)=2/\AV 2 (A7 A t.fr j)=(H (i*256+j*16)).o/\B6 2 (A7 A t.fr j)=(H (i*256+j*16)).p) \/ ((H (i*256+j*16)).s≠16/\nd H 3 (i*256+j*16)=false/\AJ 2 (A7 A t.fr j)=0) \/ ((H (i*256+j*16)).s≠16/\nd H 3 (i*256+j*16)=true/\AJ 2 (A7 A t.fr j)=1/\∃u∈all,u.lv=3/\u.pg=(i*256+j*16:Nat)/\AV 2 (A7 A t.fr j)=u.fr/\0<=u.fr/\u.fr<n):=by
 have hw:=h.word t ht j hj;rw[h2,hp,show Bj 2=16 from rfl,show ((i*256:Nat):Int)+(j:Int)*16=((i*256+j*16:Nat):Int) by omega] at hw;have hr:=Ik 2 _ _ (by omega) (by omega) hw;generalize hx:A7 A t.fr j=x at *;have hlt:i*256+j*16<4096:=by omega
 have ht:((i*256+j*16:Nat):Int).toNat=i*256+j*16:=Int.toNat_natCast _;unfold Bv at hr;rw[ht,if_neg (by decide)] at hr;by_cases hs:(H (i*256+j*16)).s=16
 ·left;rw[if_pos ⟨rfl,hs⟩] at hr;have hk:(H (i*256+j*16)).k=1:=by
   by_cases hk:(H (i*256+j*16)).k=1
   ·exact hk
   ·have:=h.lay.zero _ hlt hk;rw[this] at hs;exact absurd hs (by decide)
  obtain⟨o0,o1,p0,p1,_⟩:=h.lay.one _ hlt hk;have hb:=(h.lay.big _ hlt hs).1;rw[show i*256+j*16-(i*256+j*16)%16=i*256+j*16 by omega] at hb;obtain⟨e1,e2,e3⟩:=LZ _ _ o0 o1 hb p0 p1;exact⟨hs,hr.1.trans e1,hr.2.1.trans e2,hr.2.2.trans e3⟩
 ·rw[if_neg (fun hh=>hs hh.2),show (2:Int)+1=3 from rfl] at hr;cases hd:nd H 3 (i*256+j*16)
  ·right;left
   have hno:=h.tb.no (lv:=3) (pg:=i*256+j*16) (fun hm=>by
    have:=(Be hm).2.2.2.1
    dsimp only at this
    rw[hd] at this
    cases this)
   rw[show ((3:Nat):Int)=3 from rfl] at hno;rw[hno,if_pos (by omega)] at hr;exact⟨hs,rfl,hr.1.trans (G4 2 0 (by omega) (by omega) rfl).1⟩
  ·right;right;have hmem:(3,i*256+j*16)∈AA H 256:=by
    (have e:i*256+j*16=(i*16+j)*16:=by omega);rw[e] at hd ⊢;exact OE (by omega) hd
   obtain⟨u,hu,a,b,c,d0,d1⟩:=h.tb.of hmem;rw[show ((3:Nat):Int)=3 from rfl] at c a;have:=h.n2;rw[c,if_neg (by omega)] at hr;obtain⟨e1,e2,_⟩:=Lc 2 u.fr (.inr rfl) d0 (by omega);exact⟨hs,rfl,hr.1.trans e1,u,hu,a,b,hr.2.1.trans e2,d0,d1⟩
theorem WU (h:Ht) {k o p s:Int} (e:h=⟨k,o,p,s⟩):(⟨h.k,h.o,h.p,h.s⟩:JO)=⟨k,o,p,s⟩:=by rw[e]
theorem Ju (n page l x:Int) (R:JO) (h1:AJ l x=1) (h2:AV l x<n) (h3:l<3):C1 n page l x R=R:=by
 unfold C1;rw[if_neg (by omega),if_pos ⟨h1,h2,h3⟩]
theorem Cu.walk {H:Nat->Ht} {n:Nat} {all:List P3} {A:List Int} (h:Cu H n all A) (p:Nat) (hp:p<4096):FO A p=⟨(H p).k,(H p).o,(H p).p,(H p).s⟩:=by
 have hn0:Ae A.length≠0:=by rw[h.len];have:=h.n1;omega
 rw[V4 A p hn0 hp,h.len];have hi:p/256<16:=by omega
 have hj:p/16%16<16:=by omega
 have hP2:p/256*256+p/16%16*16=p-p%16:=by omega
 have hPlt:p-p%16<4096:=by omega
 have small:(H (p-p%16)).s≠16->(H p).k=1->(H p).s=1:=by
  intro hs hk;rcases(h.lay.one p hp hk).2.2.2.2 with e|e
  ·exact e
  ·have:=(h.lay.big p hp e).2 0 (by omega);rw[Nat.add_zero] at this;rw[this] at hs;exact absurd rfl hs
 rcases h.l1 (p/256) hi with⟨hd,hk⟩|⟨hd,hk,t,ht,t1,t2,t3,t4,t5⟩
 ·have hz:H p=Qe:=by
   refine h.lay.zero p hp (fun hk1=>?_)
   have:nd H 2 (p/256*256)=true:=G6 (k:=p-p/256*256) (by show p-p/256*256<256;omega) (by
    unfold hB
    rw[show p/256*256+(p-p/256*256)=p by omega,hk1]
    simp)
   rw[this] at hd;cases hd
  rw[hz];unfold C1;rw[show Nm A p=A7 A 0 (p/256) from rfl,if_pos hk];rfl
 ·have e1:C1 n p 1 (Nm A p) (C1 n p 2 (Ob A p) (C1 n p 3 (SG A p) ⟨0,0,0,0⟩))=C1 n p 2 (Ob A p) (C1 n p 3 (SG A p) ⟨0,0,0,0⟩):=by
   exact Ju _ _ _ _ _ hk (by rw[show Nm A p=A7 A 0 (p/256) from rfl,t3];exact t5) (by omega)
  rw[e1];have ew2:Ob A p=A7 A t.fr (p/16%16):=by
   unfold Ob;rw[show Nm A p=A7 A 0 (p/256) from rfl,t3]
  have h2:=h.l2 (p/256) (p/16%16) hi hj t ht t1 t2;rw[hP2,<- ew2] at h2;rcases h2 with⟨hs,k2,o2,p2⟩|⟨hs,hd3,k2⟩|⟨hs,hd3,k2,u,hu,u1,u2,u3,u4,u5⟩
  ·have hb:=(h.lay.big _ hPlt hs).2 (p%16) (by omega);rw[show p-p%16-(p-p%16)%16=p-p%16 by omega,show p-p%16+p%16=p by omega] at hb;rw[WU _ hb];unfold C1;rw[if_neg (by omega),if_neg (by omega),if_pos k2,o2,p2];simp
  ·have hz:H p=Qe:=by
    refine h.lay.zero p hp (fun hk1=>?_);have hs1:=small hs hk1
    have:nd H 3 (p-p%16)=true:=G6 (k:=p%16) (by show p%16<16;omega) (by
     unfold hB
     rw[show p-p%16+p%16=p by omega,hk1,hs1]
     simp)
    rw[this] at hd3;cases hd3
   rw[hz];unfold C1;rw[if_pos k2];rfl
  ·have e2:C1 n p 2 (Ob A p) (C1 n p 3 (SG A p) ⟨0,0,0,0⟩)=C1 n p 3 (SG A p) ⟨0,0,0,0⟩:=by
    exact Ju _ _ _ _ _ k2 (by omega) (by omega)
   rw[e2];have ew3:SG A p=A7 A u.fr (p%16):=by
    unfold SG;rw[u3]
   have hw:=h.word u hu (p%16) (by omega);rw[u1,u2,show Bj 3=1 from rfl,show ((p-p%16:Nat):Int)+((p%16:Nat):Int)*1=((p:Nat):Int) by omega,<- ew3] at hw;have hr:=Ik 3 _ _ (by omega) (by omega) hw;unfold Bv at hr;rw[if_pos rfl,Int.toNat_natCast] at hr;by_cases hk1:(H p).k=1
   ·rw[if_pos hk1] at hr;obtain⟨o0,o1,p0,p1,_⟩:=h.lay.one p hp hk1;obtain⟨e3,e4,e5⟩:=Su _ _ o0 o1 p0 p1;unfold C1;rw[hr.1,hr.2.1,hr.2.2,e3,e4,e5,if_neg (by omega),if_neg (by omega),if_neg (by omega),if_pos rfl,small hs hk1,hk1]
   ·rw[if_neg hk1] at hr;rw[h.lay.zero p hp hk1];unfold C1;rw[hr.1,(G4 3 0 (by omega) (by omega) rfl).1,if_pos rfl];rfl
end Go.Proofs.YtnmhkgmmpkjjeaaGreat
