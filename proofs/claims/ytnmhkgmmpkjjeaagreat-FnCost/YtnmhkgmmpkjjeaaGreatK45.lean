import Derived.Test.YtnmhkgmmpkjjeaaGreatK44
namespace Go.Proofs.YtnmhkgmmpkjjeaaGreat
set_option linter.unusedVariables false
theorem Ua (zs:List Int) (i j:Nat) (v:Int):(zs.set i v).getD j 0=if j=i/\i<zs.length then v else zs.getD j 0:=by
 simp only[List.getD_eq_getElem?_getD,List.getElem?_set];by_cases e:i=j
 ·subst e;by_cases h:i<zs.length
  ·simp[h]
  ·simp[h]
 ·simp[e,Ne.symm e]
theorem Ip (zs:List Int) (l m:List BP):EQ zs (l++m)=EQ (EQ zs l) m:=by unfold EQ;exact List.foldl_append
theorem H4 (a:Nat):∀(l:List BP) (zs:List Int),(∀o∈l,o.kind=1->o.a.toNat≠a)->(EQ zs l).getD a 0=zs.getD a 0
 | [],zs,_=>rfl
 | o :: r,zs,h=>by
  show (EQ (Mg zs o) r).getD a 0=_;rw[H4 a r _ (fun o' ho'=>h o' (List.mem_cons_of_mem _ ho'))];unfold Mg;split
  ·rename_i hk;rw[Ua,if_neg (fun e=>h o (List.mem_cons_self ..) hk e.1.symm)]
  ·rfl
theorem Ng (a:Nat) (v:Int):∀(l:List BP) (zs:List Int),a<zs.length->(∀o∈l,o.kind=1->o.a.toNat=a->o.word=v)->(∃o∈l,o.kind=1/\o.a.toNat=a)->(EQ zs l).getD a 0=v
 | [],zs,_,_,h=>by obtain⟨o,ho,_⟩:=h;cases ho
 | o :: r,zs,hl,h1,h2=>by
  show (EQ (Mg zs o) r).getD a 0=v;by_cases hr:∃o'∈r,o'.kind=1/\o'.a.toNat=a
  ·exact Ng a v r _ (by rw[Rb];exact hl) (fun o' ho'=>h1 o' (List.mem_cons_of_mem _ ho')) hr
  ·rw[H4 a r _ (fun o' ho' hk e=>hr ⟨o',ho',hk,e⟩)];obtain⟨o',ho',hk,he⟩:=h2;rcases List.mem_cons.1 ho' with e|e
   ·subst e;unfold Mg;rw[if_pos hk,Ua,if_pos ⟨he.symm,by omega⟩];exact h1 o' (List.mem_cons_self ..) hk he
   ·exact absurd ⟨o',e,hk,he⟩ hr
theorem J9 (l:List BP) (zs:List Int) (h:∀o∈l,o.kind≠1):EQ zs l=zs:=by
 induction l generalizing zs with
 | nil=>rfl
 | cons o r ih =>
  show EQ (Mg zs o) r=zs;have e:Mg zs o=zs:=by unfold Mg;rw[if_neg (h o (List.mem_cons_self ..))]
  rw[e];exact ih zs (fun o' ho'=>h o' (List.mem_cons_of_mem _ ho'))
theorem IM (l:List BP) (zs:List Int):EQ zs (BG l)=EQ zs l:=by
 unfold BG;split
 ·rename_i h;rw[List.isEmpty_iff.1 h]
 ·rw[Ip];exact J9 _ _ (fun o ho=>by rw[List.mem_singleton] at ho;subst ho;decide)
theorem TW (zs:List Int) (n:Nat) (H:Nat->Ht) (ps:List P3):EQ zs (C8 zs n H ps)=EQ (EQ (EQ zs (AX zs H (AU H ps) (CE H ps))) (AM H (AU H ps) (DD H ps))) (Af zs H (AU H ps) (CE H ps)):=by
 unfold C8
 have h1:∀z,EQ z (BB (Ez zs H (AU H ps) (CE H ps)))=z:=fun z=>J9 _ _ (fun o ho=>by
  unfold BB at ho
  obtain⟨f,_,rfl⟩:=List.mem_map.1 ho
  dsimp only
  omega)
 have h2:∀z,EQ z (Al n (Cr H ps))=z:=fun z=>J9 _ _ (fun o ho=>by
  unfold Al at ho
  obtain⟨f,_,rfl⟩:=List.mem_map.1 ho
  dsimp only
  omega)
 rw[Ip,Ip,Ip,Ip,IM,IM,IM,IM,h1,h2]
theorem Kv {H:Nat->Ht} {s:Nat×Nat} (h:s∈AC H 256):(s.1=1\/s.1=2\/s.1=3)/\s.2%(Ao s.1*16)=0/\s.2+Ao s.1*16<=4096:=by
 obtain⟨h1,h2,h3,_,_,h6⟩:=Bo h;have:s.1=1\/s.1=2\/s.1=3:=by omega
 refine⟨this,?_⟩;rcases this with e|e|e<;>rw[e] at h3 h6 ⊢
 ·exact⟨h6,h3⟩
 ·exact⟨h6,h3⟩
 ·exact⟨h6,h3⟩
theorem WA {H:Nat->Ht} {n:Nat} {ps:List P3} (hn:0<n) (h:BO n ps) {t:P3} (ht:t∈AA H ps) {i:Nat} (hi:i<16):Cc t i∈CE H ps:=by
 obtain⟨hs,e1,e2⟩:=DM h ht;obtain⟨hl,hm,hb⟩:=Kv hs;have hfr:=Cg (Cm H h) ht;have hf0:=(h.fr (by omega) (BN.1 ht).1).1;generalize t.lv.toNat=L at *;generalize t.pg.toNat=P at *;dsimp only at *;have hc:CH t.lv=(Ao L:Nat):=by rw[<- e1];exact Ci L
 have hpos:=H8 L;have hone:Cc t i∈ET (AA H ps) (P+i*Ao L) L:=by
  unfold ET;have m1:(P+i*Ao L)%Ao L=0:=by rcases hl with rfl|rfl|rfl<;>simp[Ao] at hm hb ⊢<;>omega
  have m2:P+i*Ao L-(P+i*Ao L)%(Ao L*16)=P:=by rcases hl with rfl|rfl|rfl<;>simp[Ao] at hm hb ⊢<;>omega
  have m3:(P+i*Ao L)/Ao L%16=i:=by rcases hl with rfl|rfl|rfl<;>simp[Ao] at hm hb ⊢<;>omega
  rw[m1,m2,m3,e1,e2,hfr,if_pos ⟨rfl,hf0⟩,List.mem_singleton];unfold Cc;rw[hc,<- e1,<- e2];congr 1
 have hlt:P+i*Ao L<4096:=by rcases hl with rfl|rfl|rfl<;>simp[Ao] at hm hb ⊢<;>omega
 unfold CE Bc;refine List.mem_flatMap.2 ⟨P+i*Ao L,List.mem_range.2 hlt,?_⟩;unfold Lw;rcases hl with rfl|rfl|rfl
 ·exact List.mem_append_left _ hone
 ·exact List.mem_append_right _ (List.mem_append_left _ hone)
 ·exact List.mem_append_right _ (List.mem_append_right _ hone)
theorem TL {H:Nat->Ht} {n:Nat} {ps:List P3} (hn:0<n) (h:BO n ps) {e:En} (he:e∈CE H ps):∃t∈AA H ps,∃i:Nat,i<16/\e=Cc t i:=by
 obtain⟨page,lv,hp,h1,h3,hm,e1,e2,hf,hadr⟩:=GR he;obtain⟨q,hq,q1,q2,q3⟩:=CI hf;have hl:lv=1\/lv=2\/lv=3:=by omega
 refine⟨q,hq,page/Ao lv%16,Nat.mod_lt _ (by omega),?_⟩;have hc:CH q.lv=(Ao lv:Nat):=by rw[q1];exact Ci lv
 unfold Cc;rw[hc,q1,q2,q3,<- hadr];have hpg:((page-page%(Ao lv*16):Nat):Int)+((page/Ao lv%16:Nat):Int)*(Ao lv:Nat)=(page:Nat):=by
  rcases hl with rfl|rfl|rfl<;>simp[Ao] at hm ⊢<;>omega
 rw[hpg];cases e;simp only[En.mk.injEq] at *;exact⟨e1,e2,trivial⟩
theorem NH {n:Nat} {all:List P3} (hd:Eg all) {t u:P3} (ht:t∈all) (hu:u∈all) {i j:Nat} (hi:i<16) (hj:j<16) (ht0:0<=t.fr) (hu0:0<=u.fr) (h:(t.fr*16+i).toNat=(u.fr*16+j).toNat):t=u/\i=j:=by
 have:t.fr=u.fr/\i=j:=by omega
 exact⟨hd.eq ht hu this.1,this.2⟩
def Rj (x r:Int):Prop:=x=r\/(r=0/\x%2=0)
theorem Oa {zs:List Int} {n:Nat} {H:Nat->Ht} {ps:List P3} (hz:zs.length=n*16) (hn:0<n) (h:BO n ps) (hd:Eg ps) (hw:(AC H 256).length<=n) {t:P3} (ht:t∈AU H ps) {i:Nat} (hi:i<16) : Rj ((EQ zs (C8 zs n H ps)).getD (t.fr*16+i).toNat 0) (C6 H (AU H ps) t.lv (t.pg+i*CH t.lv)):=by
 have hok:=Nh (H:=H) hn h hd hw;have hf:=hok.fr t ht;have hfm:=Cx (H:=H) hn h hw (AC H 256).length (Nat.le_refl _);have hlt:(t.fr*16+i).toNat<zs.length:=by omega
 have hkA:∀u,u∈AA H ps->u∈AU H ps:=fun u hu=>List.mem_append_left _ hu
 have hnA:∀u,u∈DD H ps->u∈AU H ps:=fun u hu=>List.mem_append_right _ hu
 have hkn:∀u,u∈AA H ps->u∈DD H ps->False:=by
  intro u h1 h2;obtain⟨j,hj,hj2,_,_,hneg,_⟩:=hfm u h2;have:=Cg (Cm H h) h1;have:=(h.fr (by omega) (BN.1 h1).1).1;omega
 rw[TW];rcases List.mem_append.1 ht with hk|hk
 ·skip
  have huniq:∀e∈CE H ps,e.ad.toNat=(t.fr*16+i).toNat->e=Cc t i:=by
   intro e he ha;obtain⟨u,hu,j,hj,rfl⟩:=TL hn h he;obtain⟨e1,e2⟩:=NH (n:=n) hok.dis (hkA u hu) ht hj hi (hok.fr u (hkA u hu)).1 hf.1 ha;rw[e1,e2]
  have hmem:=WA (H:=H) hn h hk hi;have hfill:∀o∈AM H (AU H ps) (DD H ps),o.kind=1->o.a.toNat≠(t.fr*16+i).toNat:=by
   intro o ho _ ha;unfold AM at ho;obtain⟨u,hu,ho⟩:=List.mem_flatMap.1 ho;unfold Ak at ho;obtain⟨j,hj,rfl⟩:=List.mem_map.1 ho;obtain⟨e1,_⟩:=NH (n:=n) hok.dis (hnA u hu) ht (List.mem_range.1 hj) hi (hok.fr u (hnA u hu)).1 hf.1 ha;rw[e1] at hu;exact hkn t hk hu
  have hw0:GI zs (Cc t i).ad=zs.getD (t.fr*16+i).toNat 0:=rfl;have hr0:C6 H (AU H ps) (Cc t i).lv (Cc t i).pg=C6 H (AU H ps) t.lv (t.pg+i*CH t.lv):=rfl;have hb1:(EQ zs (AX zs H (AU H ps) (CE H ps))).length=zs.length:=E7 _ _;have hb2:(EQ (EQ zs (AX zs H (AU H ps) (CE H ps))) (AM H (AU H ps) (DD H ps))).length=zs.length:=by rw[E7,E7]
  by_cases hl:Lt zs H (AU H ps) (Cc t i)=true
  ·left;refine Ng _ _ _ _ (by rw[hb2];exact hlt) (fun o ho hk1 ha=>?_) ⟨⟨1,(Cc t i).ad,0,C6 H (AU H ps) (Cc t i).lv (Cc t i).pg⟩,?_,rfl,rfl⟩
   ·unfold Af at ho;obtain⟨e,he,rfl⟩:=List.mem_map.1 ho;rw[huniq e (List.mem_filter.1 he).1 ha];rfl
   ·unfold Af;exact List.mem_map.2 ⟨Cc t i,List.mem_filter.2 ⟨hmem,hl⟩,rfl⟩
  ·have hl':Lt zs H (AU H ps) (Cc t i)=false:=by simpa using hl
   rw[H4 _ _ _ (fun o ho hk1 ha=>by
    unfold Af at ho
    obtain⟨e,he,rfl⟩:=List.mem_map.1 ho
    obtain⟨he1,he2⟩:=List.mem_filter.1 he
    rw[huniq e he1 ha] at he2
    rw[hl'] at he2
    cases he2),H4 _ _ _ hfill]
   unfold Lt at hl';rw[hr0,hw0,decide_eq_false_iff_not] at hl';by_cases hb:GZ zs H (AU H ps) (Cc t i)=true
   ·have hv:(EQ zs (AX zs H (AU H ps) (CE H ps))).getD (t.fr*16+i).toNat 0=0:=by
     refine Ng _ _ _ _ hlt (fun o ho hk1 ha=>?_) ⟨⟨1,(Cc t i).ad,0,0⟩,?_,rfl,rfl⟩
     ·unfold AX at ho;obtain⟨e,he,rfl⟩:=List.mem_map.1 ho;rfl
     ·unfold AX;exact List.mem_map.2 ⟨Cc t i,List.mem_filter.2 ⟨hmem,hb⟩,rfl⟩
    rw[hv];unfold GZ at hb;rw[hr0,hw0,decide_eq_true_eq] at hb;left;by_cases hr:C6 H (AU H ps) t.lv (t.pg+i*CH t.lv)=0
    ·exact hr.symm
    ·exact absurd ⟨hr,fun e=>hb.2 e.symm⟩ hl'
   ·have hb':GZ zs H (AU H ps) (Cc t i)=false:=by simpa using hb
    rw[H4 _ _ _ (fun o ho hk1 ha=>by
     unfold AX at ho
     obtain⟨e,he,rfl⟩:=List.mem_map.1 ho
     obtain⟨he1,he2⟩:=List.mem_filter.1 he
     rw[huniq e he1 ha] at he2
     rw[hb'] at he2
     cases he2)]
    unfold GZ at hb';rw[hr0,hw0,decide_eq_false_iff_not] at hb';by_cases hr:C6 H (AU H ps) t.lv (t.pg+i*CH t.lv)=zs.getD (t.fr*16+i).toNat 0
    ·exact .inl hr.symm
    ·right;have h0:C6 H (AU H ps) t.lv (t.pg+i*CH t.lv)=0:=by
      by_cases h0:C6 H (AU H ps) t.lv (t.pg+i*CH t.lv)=0
      ·exact h0
      ·exact absurd ⟨h0,hr⟩ hl'
     refine⟨h0,?_⟩;by_cases h1:zs.getD (t.fr*16+i).toNat 0%2=1
     ·exact absurd ⟨h1,fun e=>hr e.symm⟩ hb'
     ·omega
 ·skip
  left
  rw[H4 _ _ _ (fun o ho hk1 ha=>by
   unfold Af at ho
   obtain⟨e,he,rfl⟩:=List.mem_map.1 ho
   obtain⟨u,hu,j,hj,rfl⟩:=TL hn h (List.mem_filter.1 he).1
   obtain⟨e1,_⟩:=NH (n:=n) hok.dis (hkA u hu) ht hj hi (hok.fr u (hkA u hu)).1 hf.1 ha
   rw[e1] at hu
   exact hkn t hu hk)]
  refine Ng _ _ _ _ (by rw[E7];exact hlt) (fun o ho hk1 ha=>?_) ⟨⟨1,t.fr*16+(i:Nat),0,C6 H (AU H ps) t.lv (t.pg+(i:Nat)*CH t.lv)⟩,?_,rfl,rfl⟩
  ·unfold AM at ho;obtain⟨u,hu,ho⟩:=List.mem_flatMap.1 ho;unfold Ak at ho;obtain⟨j,hj,rfl⟩:=List.mem_map.1 ho;obtain⟨e1,e2⟩:=NH (n:=n) hok.dis (hnA u hu) ht (List.mem_range.1 hj) hi (hok.fr u (hnA u hu)).1 hf.1 ha;rw[e1,e2]
  ·unfold AM;refine List.mem_flatMap.2 ⟨t,hk,?_⟩;unfold Ak;exact List.mem_map.2 ⟨i,List.mem_range.2 hi,rfl⟩
structure OY (H:Nat->Ht):Prop where
 zero:∀p,p<4096->(H p).k≠1->H p=RL
 one:∀p,p<4096->(H p).k=1->0<=(H p).o/\(H p).o<65536/\1<=(H p).p/\(H p).p<=7/\((H p).s=1\/(H p).s=16)
 big:∀p,p<4096->(H p).s=16->(H (p-p%16)).o%16=0/\∀j,j<16->H (p-p%16+j)=⟨1,(H (p-p%16)).o+j,(H (p-p%16)).p,16⟩
theorem Ge (l x:Int) (h1:1<=l) (h3:l<=3) (h:x%2=0):AF l x=0/\AQ l x=0/\Ae l x=0:=by
 have hk:AF l x=0:=by unfold AF;rw[if_neg (by omega),if_pos h]
 refine⟨hk,?_,?_⟩
 ·unfold AQ;rw[if_pos (.inl hk)]
 ·unfold Ae;rw[if_pos (.inl hk)]
theorem J8 (l x r:Int) (h1:1<=l) (h3:l<=3) (h:Rj x r):AF l x=AF l r/\AQ l x=AQ l r/\Ae l x=Ae l r:=by
 rcases h with h|⟨h,hx⟩
 ·rw[h];exact⟨rfl,rfl,rfl⟩
 ·obtain⟨a,b,c⟩:=Ge l x h1 h3 hx;obtain⟨a',b',c'⟩:=Ge l r h1 h3 (by rw[h];rfl);rw[a,b,c,a',b',c'];exact⟨rfl,rfl,rfl⟩
theorem Na (l k o p:Int) (hk:k=1\/k=2\/k=3) (ho:0<=o) (ho1:o<65536) (hp:0<=p) (hp1:p<=7) (h:AF l (Cf k o p)=k):AF l (Am l k o p)=k/\AQ l (Am l k o p)=o/\Ae l (Am l k o p)=p:=by
 have hO:AQ l (Cf k o p)=o:=by
  unfold AQ;rw[if_neg (by omega)];unfold Cf;split<;>omega
 have hP:Ae l (Cf k o p)=p:=by
  unfold Ae;rw[if_neg (by omega)];unfold Cf;split<;>omega
 have e:Am l k o p=Cf k o p:=by
  unfold Am;rw[if_pos ⟨hk,ho,ho1,hp,hp1,h,hO,hP⟩]
 rw[e];exact⟨h,hO,hP⟩
theorem MI (l f:Int) (hl:l=1\/l=2) (h0:0<=f) (h1:f<65536):AF l (Am l 1 f 0)=1/\AQ l (Am l 1 f 0)=f/\Ae l (Am l 1 f 0)=0:=by
 refine Na l 1 f 0 (.inl rfl) h0 h1 (by omega) (by omega) ?_;have e:Cf 1 f 0=3+f*4096:=by unfold Cf;rw[if_neg (by omega)];omega
 rw[e];unfold AF;rw[if_neg (by omega),if_neg (by omega),if_neg (by omega),if_pos (by omega)]
theorem S4 (o p:Int) (h0:0<=o) (h1:o<65536) (hm:o%16=0) (hp:1<=p) (hp1:p<=7):AF 2 (Am 2 2 o p)=2/\AQ 2 (Am 2 2 o p)=o/\Ae 2 (Am 2 2 o p)=p:=by
 refine Na 2 2 o p (.inr (.inl rfl)) h0 h1 (by omega) hp1 ?_;have e:Cf 2 o p=1+p*4+o*4096:=by unfold Cf;rw[if_pos rfl];omega
 rw[e];unfold AF;rw[if_neg (by omega),if_neg (by omega),if_neg (by omega),if_neg (by omega),if_pos (by omega)]
theorem UU (o p:Int) (h0:0<=o) (h1:o<65536) (hp:1<=p) (hp1:p<=7):AF 3 (Am 3 3 o p)=3/\AQ 3 (Am 3 3 o p)=o/\Ae 3 (Am 3 3 o p)=p:=by
 refine Na 3 3 o p (.inr (.inr rfl)) h0 h1 (by omega) hp1 ?_;have e:Cf 3 o p=3+p*4+o*4096:=by unfold Cf;rw[if_neg (by omega)];omega
 rw[e];unfold AF;rw[if_neg (by omega),if_neg (by omega),if_neg (by omega),if_neg (by omega),if_neg (by omega),if_pos (by omega)]
theorem Qv (zs:List Int) (pg:Nat) (hn:An zs.length≠0) (hp:pg<4096):BT zs pg=BH (An zs.length) pg 1 (DV zs pg) (BH (An zs.length) pg 2 (D6 zs pg) (BH (An zs.length) pg 3 (Ii zs pg) ⟨0,0,0,0⟩)):=by
 have hpo:Fw (pg:Int)=true:=by simp[Fw];omega
 have e1:CA (Ct zs) (pg:Int) 0 1 0=DV zs pg:=by
  rw[DK];exact EW zs 0 (pg/256) _ (by omega) (by simp[NY])
 have e2:CA (Ct zs) (pg:Int) 0 2 (AQ 1 (DV zs pg))=D6 zs pg:=by
  rw[DK];exact EW zs _ (pg/16%16) _ (Cw _ _).1 (by simp[NY])
 have e3:CA (Ct zs) (pg:Int) 0 3 (AQ 2 (D6 zs pg))=Ii zs pg:=by
  rw[DK];exact EW zs _ (pg%16) _ (Cw _ _).1 (by simp[NY])
 unfold BT;rw[if_neg (by simp[hn,hpo])];rw[<- FX zs pg 1 0 1 (by omega),e1,<- FX zs pg (1+1) _ 0 (by omega)];rw[show (1:Int)+1=2 from rfl,e2,<- Ks zs pg (2+1) _ ⟨0,0,0,0⟩ rfl,show (2:Int)+1=3 from rfl,e3]
structure Gl (H:Nat->Ht) (n:Nat) (all:List P3) (A:List Int):Prop where
 lay:OY H
 tb:Kz H n all
 len:An A.length=n
 n1:1<=n
 n2:n<=512
 word:∀t∈all,∀i:Nat,i<16->Rj (AG A t.fr i) (C6 H all t.lv (t.pg+i*CH t.lv))
theorem Gl.at1 {H:Nat->Ht} {n:Nat} {all:List P3} {A:List Int} (h:Gl H n all A) (i:Nat) (hi:i<16):Rj (AG A 0 i) (if AE all 2 (i*256:Nat)<0 then 0 else Am 1 1 (AE all 2 (i*256:Nat)) 0):=by
 have:=h.word _ h.tb.root i hi;unfold C6 at this;dsimp only at this;rw[if_neg (by decide),if_neg (by simp),show CH 1=256 from rfl] at this;rw[show (1:Int)+1=2 from rfl,show (0:Int)+(i:Int)*256=((i*256:Nat):Int) by omega] at this;exact this
theorem Gl.l1 {H:Nat->Ht} {n:Nat} {all:List P3} {A:List Int} (h:Gl H n all A) (i:Nat) (hi:i<16) : (nd H 2 (i*256)=false/\AF 1 (AG A 0 i)=0)\/(nd H 2 (i*256)=true/\AF 1 (AG A 0 i)=1/\∃t∈all,t.lv=2/\t.pg=(i*256:Nat)/\AQ 1 (AG A 0 i)=t.fr/\0<=t.fr/\t.fr<n):=by
 have hr:=J8 1 _ _ (by omega) (by omega) (h.at1 i hi);cases hd:nd H 2 (i*256)
 ·left
  have hno:=h.tb.no (lv:=2) (pg:=i*256) (fun hm=>by
   have:=(Bo hm).2.2.2.1
   dsimp only at this
   rw[hd] at this
   cases this)
  rw[show ((2:Nat):Int)=2 from rfl] at hno;rw[hno,if_pos (by omega)] at hr;exact⟨rfl,hr.1.trans (Ge 1 0 (by omega) (by omega) rfl).1⟩
 ·right;obtain⟨t,ht,a,b,c,d0,d1⟩:=h.tb.of (Kk hi hd);rw[show ((2:Nat):Int)=2 from rfl] at c a;have:=h.n2;rw[c,if_neg (by omega)] at hr;obtain⟨e1,e2,_⟩:=MI 1 t.fr (.inl rfl) d0 (by omega);exact⟨rfl,hr.1.trans e1,t,ht,a,b,hr.2.1.trans e2,d0,d1⟩
theorem KM {H:Nat->Ht} (hl:OY H) (P:Nat) (hP:P<4096) (hm:P%16=0) (hs:(H P).s=16):nd H 3 P=false:=by
 refine Ib (by omega) (fun k hk=>?_);have hk16:k<16:=hk;have hb:=(hl.big P hP hs).2 k hk16;rw[show P-P%16=P by omega] at hb;unfold hB;rw[hb];simp
theorem Gl.l2 {H:Nat->Ht} {n:Nat} {all:List P3} {A:List Int} (h:Gl H n all A) (i j:Nat) (hi:i<16) (hj:j<16) (t:P3) (ht:t∈all) (h2:t.lv=2) (hp:t.pg=(i*256:Nat)) : ((H (i*256+j*16)).s=16/\AF 2 (AG A t.fr j)=2/\AQ 2 (AG A t.fr j)=(H (i*256+j*16)).o/\Ae 2 (AG A t.fr j)=(H (i*256+j*16)).p) \/ ((H (i*256+j*16)).s≠16/\nd H 3 (i*256+j*16)=false/\AF 2 (AG A t.fr j)=0) \/ ((H (i*256+j*16)).s≠16/\nd H 3 (i*256+j*16)=true/\AF 2 (AG A t.fr j)=1/\∃u∈all,u.lv=3/\u.pg=(i*256+j*16:Nat)/\AQ 2 (AG A t.fr j)=u.fr/\0<=u.fr/\u.fr<n):=by
 have hw:=h.word t ht j hj;rw[h2,hp,show CH 2=16 from rfl,show ((i*256:Nat):Int)+(j:Int)*16=((i*256+j*16:Nat):Int) by omega] at hw;have hr:=J8 2 _ _ (by omega) (by omega) hw;generalize hx:AG A t.fr j=x at *;have hlt:i*256+j*16<4096:=by omega
 have ht:((i*256+j*16:Nat):Int).toNat=i*256+j*16:=Int.toNat_natCast _;unfold C6 at hr;rw[ht,if_neg (by decide)] at hr;by_cases hs:(H (i*256+j*16)).s=16
 ·left;rw[if_pos ⟨rfl,hs⟩] at hr;have hk:(H (i*256+j*16)).k=1:=by
   by_cases hk:(H (i*256+j*16)).k=1
   ·exact hk
   ·have:=h.lay.zero _ hlt hk;rw[this] at hs;exact absurd hs (by decide)
  obtain⟨o0,o1,p0,p1,_⟩:=h.lay.one _ hlt hk;have hb:=(h.lay.big _ hlt hs).1;rw[show i*256+j*16-(i*256+j*16)%16=i*256+j*16 by omega] at hb;obtain⟨e1,e2,e3⟩:=S4 _ _ o0 o1 hb p0 p1;exact⟨hs,hr.1.trans e1,hr.2.1.trans e2,hr.2.2.trans e3⟩
 ·rw[if_neg (fun hh=>hs hh.2),show (2:Int)+1=3 from rfl] at hr;cases hd:nd H 3 (i*256+j*16)
  ·right;left
   have hno:=h.tb.no (lv:=3) (pg:=i*256+j*16) (fun hm=>by
    have:=(Bo hm).2.2.2.1
    dsimp only at this
    rw[hd] at this
    cases this)
   rw[show ((3:Nat):Int)=3 from rfl] at hno;rw[hno,if_pos (by omega)] at hr;exact⟨hs,rfl,hr.1.trans (Ge 2 0 (by omega) (by omega) rfl).1⟩
  ·right;right;have hmem:(3,i*256+j*16)∈AC H 256:=by
    (have e:i*256+j*16=(i*16+j)*16:=by omega);rw[e] at hd ⊢;exact Kd (by omega) hd
   obtain⟨u,hu,a,b,c,d0,d1⟩:=h.tb.of hmem;rw[show ((3:Nat):Int)=3 from rfl] at c a;have:=h.n2;rw[c,if_neg (by omega)] at hr;obtain⟨e1,e2,_⟩:=MI 2 u.fr (.inr rfl) d0 (by omega);exact⟨hs,rfl,hr.1.trans e1,u,hu,a,b,hr.2.1.trans e2,d0,d1⟩
theorem Ym (h:Ht) {k o p s:Int} (e:h=⟨k,o,p,s⟩):(⟨h.k,h.o,h.p,h.s⟩:DH)=⟨k,o,p,s⟩:=by rw[e]
theorem GC (n page l x:Int) (R:DH) (h1:AF l x=1) (h2:AQ l x<n) (h3:l<3):BH n page l x R=R:=by
 unfold BH;rw[if_neg (by omega),if_pos ⟨h1,h2,h3⟩]
theorem Gl.walk {H:Nat->Ht} {n:Nat} {all:List P3} {A:List Int} (h:Gl H n all A) (p:Nat) (hp:p<4096):BT A p=⟨(H p).k,(H p).o,(H p).p,(H p).s⟩:=by
 have hn0:An A.length≠0:=by rw[h.len];have:=h.n1;omega
 rw[Qv A p hn0 hp,h.len];have hi:p/256<16:=by omega
 have hj:p/16%16<16:=by omega
 have hP2:p/256*256+p/16%16*16=p-p%16:=by omega
 have hPlt:p-p%16<4096:=by omega
 have small:(H (p-p%16)).s≠16->(H p).k=1->(H p).s=1:=by
  intro hs hk;rcases(h.lay.one p hp hk).2.2.2.2 with e|e
  ·exact e
  ·have:=(h.lay.big p hp e).2 0 (by omega);rw[Nat.add_zero] at this;rw[this] at hs;exact absurd rfl hs
 rcases h.l1 (p/256) hi with⟨hd,hk⟩|⟨hd,hk,t,ht,t1,t2,t3,t4,t5⟩
 ·have hz:H p=RL:=by
   refine h.lay.zero p hp (fun hk1=>?_)
   have:nd H 2 (p/256*256)=true:=FF (k:=p-p/256*256) (by show p-p/256*256<256;omega) (by
    unfold hB
    rw[show p/256*256+(p-p/256*256)=p by omega,hk1]
    simp)
   rw[this] at hd;cases hd
  rw[hz];unfold BH;rw[show DV A p=AG A 0 (p/256) from rfl,if_pos hk];rfl
 ·have e1:BH n p 1 (DV A p) (BH n p 2 (D6 A p) (BH n p 3 (Ii A p) ⟨0,0,0,0⟩))=BH n p 2 (D6 A p) (BH n p 3 (Ii A p) ⟨0,0,0,0⟩):=by
   exact GC _ _ _ _ _ hk (by rw[show DV A p=AG A 0 (p/256) from rfl,t3];exact t5) (by omega)
  rw[e1];have ew2:D6 A p=AG A t.fr (p/16%16):=by
   unfold D6;rw[show DV A p=AG A 0 (p/256) from rfl,t3]
  have h2:=h.l2 (p/256) (p/16%16) hi hj t ht t1 t2;rw[hP2,<- ew2] at h2;rcases h2 with⟨hs,k2,o2,p2⟩|⟨hs,hd3,k2⟩|⟨hs,hd3,k2,u,hu,u1,u2,u3,u4,u5⟩
  ·have hb:=(h.lay.big _ hPlt hs).2 (p%16) (by omega);rw[show p-p%16-(p-p%16)%16=p-p%16 by omega,show p-p%16+p%16=p by omega] at hb;rw[Ym _ hb];unfold BH;rw[if_neg (by omega),if_neg (by omega),if_pos k2,o2,p2];simp
  ·have hz:H p=RL:=by
    refine h.lay.zero p hp (fun hk1=>?_);have hs1:=small hs hk1
    have:nd H 3 (p-p%16)=true:=FF (k:=p%16) (by show p%16<16;omega) (by
     unfold hB
     rw[show p-p%16+p%16=p by omega,hk1,hs1]
     simp)
    rw[this] at hd3;cases hd3
   rw[hz];unfold BH;rw[if_pos k2];rfl
  ·have e2:BH n p 2 (D6 A p) (BH n p 3 (Ii A p) ⟨0,0,0,0⟩)=BH n p 3 (Ii A p) ⟨0,0,0,0⟩:=by
    exact GC _ _ _ _ _ k2 (by omega) (by omega)
   rw[e2];have ew3:Ii A p=AG A u.fr (p%16):=by
    unfold Ii;rw[u3]
   have hw:=h.word u hu (p%16) (by omega);rw[u1,u2,show CH 3=1 from rfl,show ((p-p%16:Nat):Int)+((p%16:Nat):Int)*1=((p:Nat):Int) by omega,<- ew3] at hw;have hr:=J8 3 _ _ (by omega) (by omega) hw;unfold C6 at hr;rw[if_pos rfl,Int.toNat_natCast] at hr;by_cases hk1:(H p).k=1
   ·rw[if_pos hk1] at hr;obtain⟨o0,o1,p0,p1,_⟩:=h.lay.one p hp hk1;obtain⟨e3,e4,e5⟩:=UU _ _ o0 o1 p0 p1;unfold BH;rw[hr.1,hr.2.1,hr.2.2,e3,e4,e5,if_neg (by omega),if_neg (by omega),if_neg (by omega),if_pos rfl,small hs hk1,hk1]
   ·rw[if_neg hk1] at hr;rw[h.lay.zero p hp hk1];unfold BH;rw[hr.1,(Ge 3 0 (by omega) (by omega) rfl).1,if_pos rfl];rfl
end Go.Proofs.YtnmhkgmmpkjjeaaGreat
