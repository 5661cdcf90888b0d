import Derived.Test.YtnmhkgmmpkjjeaaGreatG36
import Derived.Test.YtnmhkgmmpkjjeaaGreatG46
import Derived.Test.YtnmhkgmmpkjjeaaGreatG31
import Derived.Test.YtnmhkgmmpkjjeaaGreatG01
import Derived.Test.YtnmhkgmmpkjjeaaGreatG00
namespace Go.Proofs.YtnmhkgmmpkjjeaaGreat
set_option linter.unusedVariables false
theorem p3_ext {a b:P3} (h1:a.fr=b.fr) (h2:a.lv=b.lv) (h3:a.pg=b.pg):a=b:=by
 cases a; cases b; simp_all
theorem MemOk.mem {H:Nat->Ht} {n:Nat} {all:List P3} {A:List Int} (h:MemOk H n all A) (q:P3):q ∈ plist A ↔ q ∈ all:=by
 have hn0:nfr A.length ≠ 0:=by rw [h.len]; have:=h.n1; omega
 have lw:∀ l x,leadW (n:Int) l x=true ↔ dKind l x=1/\dOut l x < n:=by
  intro l x
  unfold leadW
  simp
 rw [mem_plist A hn0,h.len]
 constructor
 ·rintro (e | ⟨i,hi,l1,e | ⟨j,hj,l2,e⟩⟩)
  ·rw [e]; exact h.tb.root
  ·rcases h.l1 i hi with ⟨_,hk⟩ | ⟨_,hk,t,ht,t1,t2,t3,_,_⟩
   ·have:=((lw _ _).1 l1).1
    omega
   ·have:q=t:=by
     rw [e,under1]
     exact p3_ext t3 t1.symm (by dsimp only; rw [t2]; omega)
    rw [this]; exact ht
  ·rcases h.l1 i hi with ⟨_,hk⟩ | ⟨_,hk,t,ht,t1,t2,t3,_,_⟩
   ·have:=((lw _ _).1 l1).1
    omega
   ·rw [t3] at l2
    have hk2:=((lw _ _).1 l2).1
    rcases h.l2 i j hi hj t ht t1 t2 with ⟨_,k2,_⟩ | ⟨_,_,k2⟩ | ⟨_,_,_,u,hu,u1,u2,u3,_,_⟩
    ·omega
    ·omega
    ·have:q=u:=by
      rw [e,under2,t3]
      exact p3_ext u3 u1.symm (by dsimp only; rw [u2]; omega)
     rw [this]; exact hu
 ·intro hq
  obtain ⟨s,hs,e1,e2⟩:=h.tb.seat q hq
  obtain ⟨w1,w2,w3,w4,w5,w6⟩:=wanted_cases hs
  obtain ⟨hl,hm,hb⟩:=seat_facts hs
  have huq:=h.tb.uniq q hq
  obtain ⟨L,P⟩:=s
  dsimp only at *
  have same:∀ t,t ∈ all->t.lv=q.lv->t.pg=q.pg->t=q:=fun t ht a b=>by
   have:=h.tb.uniq t ht
   rw [a,b,huq] at this
   exact p3_ext this.symm a b
  rcases hl with rfl | rfl | rfl
  ·left
   have:=same _ h.tb.root (by rw [e1]; rfl) (by rw [e2,w5 rfl]; rfl)
   exact this.symm
  ·right
   have hm':P % 256=0:=hm
   have hb':P+256<=4096:=hb
   have hP:P / 256 * 256=P:=by omega
   rcases h.l1 (P / 256) (by omega) with ⟨hd,_⟩ | ⟨hd,hk,t,ht,t1,t2,t3,t4,t5⟩
   ·rw [hP,w4] at hd; cases hd
   ·refine ⟨P / 256,by omega,(lw _ _).2 ⟨hk,by omega⟩,.inl ?_⟩
    have hq2:=same t ht (by rw [t1,e1]; rfl) (by rw [t2,e2,hP])
    rw [<- hq2,under1]
    exact p3_ext t3.symm t1 (by dsimp only; rw [t2]; omega)
  ·right
   have hm':P % 16=0:=hm
   have hb':P+16<=4096:=hb
   have hP:P / 256 * 256+P / 16 % 16 * 16=P:=by omega
   have hnd2:nd H 2 (P / 256 * 256)=true:=nd_up (j:=P / 16 % 16) (by omega) (by rw [hP]; exact w4)
   rcases h.l1 (P / 256) (by omega) with ⟨hd,_⟩ | ⟨hd,hk,t,ht,t1,t2,t3,t4,t5⟩
   ·rw [hnd2] at hd; cases hd
   ·have h2:=h.l2 (P / 256) (P / 16 % 16) (by omega) (by omega) t ht t1 t2
    rw [hP] at h2
    refine ⟨P / 256,by omega,(lw _ _).2 ⟨hk,by omega⟩,.inr ⟨P / 16 % 16,by omega,?_⟩⟩
    rw [t3]
    rcases h2 with ⟨hs16,_⟩ | ⟨_,hd3,_⟩ | ⟨_,_,k2,u,hu,u1,u2,u3,u4,u5⟩
    ·have:=big_not3 h.lay P (by omega) hm' hs16
     rw [w4] at this; cases this
    ·rw [w4] at hd3; cases hd3
    ·refine ⟨(lw _ _).2 ⟨k2,by omega⟩,?_⟩
     have hq2:=same u hu (by rw [u1,e1]; rfl) (by rw [u2,e2])
     rw [<- hq2,under2,t3]
     exact p3_ext u3.symm u1 (by dsimp only; rw [u2]; omega)
theorem MemOk.sorted {H:Nat->Ht} {n:Nat} {all:List P3} {A:List Int} (h:MemOk H n all A):(plist A).Pairwise (fun a b=>key a < key b):=by
 have hn0:nfr A.length ≠ 0:=by rw [h.len]; have:=h.n1; omega
 unfold plist
 rw [if_neg hn0]
 exact (plcOk_below A _).sorted
theorem MemOk.dis {H:Nat->Ht} {n:Nat} {all:List P3} {A:List Int} (h:MemOk H n all A):FrDis (plist A):=by
 refine List.Pairwise.imp_of_mem (fun {a b} ha hb hlt e=>?_) h.sorted
 have:=h.tb.dis.eq ((h.mem a).1 ha) ((h.mem b).1 hb) e
 rw [this] at hlt
 omega
theorem fresh_of_dis {ps:List P3} (h:FrDis ps) (i:Nat) (hi:i < ps.length):freshP ps i=true:=by
 unfold freshP
 rw [List.all_eq_true]
 intro j hj
 have hj':=List.mem_range.1 hj
 have:=List.pairwise_iff_getElem.1 h j i (by omega) hi hj'
 have ei:pAt ps i=ps[i]:=by unfold pAt; rw [List.getD_eq_getElem?_getD,List.getElem?_eq_getElem hi]; rfl
 have ej:pAt ps j=ps[j]'(by omega):=by unfold pAt; rw [List.getD_eq_getElem?_getD,List.getElem?_eq_getElem (by omega)]; rfl
 rw [ei,ej]
 simp
 exact fun e=>this e.symm
theorem MemOk.tree {H:Nat->Ht} {n:Nat} {all:List P3} {A:List Int} (h:MemOk H n all A):ptree A=true:=by
 have hn0:nfr A.length ≠ 0:=by rw [h.len]; have:=h.n1; omega
 rw [tree_clean A hn0,Bool.and_eq_true]
 constructor
 ·unfold cleanW
  rw [List.all_eq_true]
  intro p hp
  have hp':=List.mem_range.1 hp
  unfold okW
  rw [h.walk p hp']
  have:(H p).k ≠ 3:=by
   by_cases hk:(H p).k=1
   ·omega
   ·rw [h.lay.zero p hp' hk]; decide
  simp [this]
 ·unfold cleanF
  rw [List.all_eq_true]
  intro i hi
  exact fresh_of_dis h.dis i (List.mem_range.1 hi)
theorem MemOk.count {H:Nat->Ht} {n:Nat} {all:List P3} {A:List Int} (h:MemOk H n all A):(plist A).length=(wPre H 256).length:=by
 have hsn:∀ q ∈ plist A,((q.lv.toNat:Nat):Int)=q.lv/\((q.pg.toNat:Nat):Int)=q.pg/\(q.lv.toNat,q.pg.toNat) ∈ wPre H 256:=by
  intro q hq
  obtain ⟨s,hs,e1,e2⟩:=h.tb.seat q ((h.mem q).1 hq)
  have a:q.lv.toNat=s.1:=by omega
  have b:q.pg.toNat=s.2:=by omega
  refine ⟨by omega,by omega,?_⟩
  rw [a,b]
  exact hs
 apply Nat.le_antisymm
 ·have:=sub_len ((plist A).map (fun q=>(q.lv.toNat,q.pg.toNat))) (wPre H 256) (by
   rw [List.pairwise_map]
   refine List.Pairwise.imp_of_mem (fun {a b} ha hb hlt e=>?_) h.sorted
   obtain ⟨a1,a2,_⟩:=hsn a ha
   obtain ⟨b1,b2,_⟩:=hsn b hb
   simp only [Prod.mk.injEq] at e
   unfold key at hlt
   omega) (fun x hx=>by
   obtain ⟨q,hq,rfl⟩:=List.mem_map.1 hx
   exact (hsn q hq).2.2)
  rwa [List.length_map] at this
 ·have:=sub_len (wPre H 256) ((plist A).map (fun q=>(q.lv.toNat,q.pg.toNat))) (by
   refine List.Pairwise.imp (fun {a b} hlt e=>?_) (wPre_sorted H 256)
   rw [e] at hlt
   omega) (fun x hx=>by
   obtain ⟨t,ht,a,b⟩:=h.tb.has x hx
   refine List.mem_map.2 ⟨t,(h.mem t).2 ht,?_⟩
   rw [a,b]
   rfl)
  rwa [List.length_map] at this
theorem at_of {xs:List SpanE} (hv:VS xs) (i:Nat) (hi:i < xs.length) (q:Int) (h:inS (eAt eSpan xs i) q=true):atL xs q=hitS (eAt eSpan xs i) q:=by
 refine at_hit q xs i hi (fun j hj=>?_) h
 have h1:=hv.lt j i hj hi
 unfold inS at h ⊢
 simp only [decide_eq_true_eq] at h
 rw [decide_eq_false_iff_not]
 omega
theorem lay_okH {xs:List SpanE} (hv:VS xs) {H:Nat->Ht} (hH:∀ p,p < 4096->H p=atL xs p):LayOk H:=by
 have hcase:∀ p:Nat,p < 4096->H p=zHt\/∃ i,i < xs.length/\inS (eAt eSpan xs i) p=true/\H p=hitS (eAt eSpan xs i) p:=by
  intro p hp
  rw [hH p hp]
  by_cases h:∃ i,i < xs.length/\inS (eAt eSpan xs i) p=true
  ·obtain ⟨i,hi,hin⟩:=h
   exact .inr ⟨i,hi,hin,at_of hv i hi p hin⟩
  ·left
   refine at_none p xs (fun j hj=>?_)
   cases hc:inS (eAt eSpan xs j) p
   ·rfl
   ·exact absurd ⟨j,hj,hc⟩ h
 refine ⟨fun p hp hk=>?_,fun p hp hk=>?_,fun p hp hs=>?_⟩
 ·rcases hcase p hp with e | ⟨i,hi,hin,e⟩
  ·exact e
  ·rw [e] at hk
   exact absurd rfl hk
 ·rcases hcase p hp with e | ⟨i,hi,hin,e⟩
  ·rw [e] at hk
   exact absurd hk (by decide)
  ·have hso:=spanOk_iff.1 (hv.1 i hi)
   unfold inS at hin
   simp only [decide_eq_true_eq] at hin
   rw [e]
   unfold hitS
   dsimp only
   refine ⟨by omega,by omega,by omega,by omega,?_⟩
   split
   ·right; rfl
   ·left; rfl
 ·rcases hcase p hp with e | ⟨i,hi,hin,e⟩
  ·rw [e] at hs
   exact absurd hs (by decide)
  ·rw [e] at hs
   have hb:bigB (eAt eSpan xs i) p=true:=by
    unfold hitS at hs
    dsimp only at hs
    cases hc:bigB (eAt eSpan xs i) p
    ·rw [hc] at hs
     exact absurd hs (by decide)
    ·rfl
   have hb2:=hb
   unfold bigB at hb2
   simp only [Bool.and_eq_true,decide_eq_true_eq] at hb2
   obtain ⟨hh,b1,b2,b3⟩:=hb2
   have hso:=spanOk_iff.1 (hv.1 i hi)
   have hgrp:∀ j:Nat,j < 16->H (p - p % 16+j)=⟨1,(eAt eSpan xs i).out+((p - p % 16+j:Nat):Int) - (eAt eSpan xs i).page,(eAt eSpan xs i).perm,16⟩:=by
    intro j hj
    have hlt:p - p % 16+j < 4096:=by omega
    have hinj:inS (eAt eSpan xs i) ((p - p % 16+j:Nat):Int)=true:=by
     unfold inS
     rw [decide_eq_true_eq]
     omega
    rw [hH _ hlt,at_of hv i hi _ hinj]
    unfold hitS
    have hbj:bigB (eAt eSpan xs i) ((p - p % 16+j:Nat):Int)=true:=by
     unfold bigB
     have e16:((p - p % 16+j:Nat):Int) - ((p - p % 16+j:Nat):Int) % 16=(p:Int) - (p:Int) % 16:=by omega
     rw [hh,e16]
     simp only [Bool.true_and,decide_eq_true_eq]
     exact ⟨b1,b2,b3⟩
    rw [hbj]
    rfl
   have h0:=hgrp 0 (by omega)
   rw [Nat.add_zero] at h0
   refine ⟨?_,fun j hj=>?_⟩
   ·rw [h0]
    dsimp only
    omega
   ·rw [hgrp j hj,h0]
    dsimp only
    congr 1
    omega
theorem plan_memOk {zs:List Int} {n:Nat} {H:Nat->Ht} (hlay:LayOk H) (hz:nfr zs.length=n) (hn:1<=n) (ht:ptree zs=true) (hw:(wPre H 256).length<=n):MemOk H n (allL H (plist zs)) (wrs zs (planL zs n H (plist zs))):=by
 have hn0:nfr zs.length ≠ 0:=by omega
 have hm:=nfr_mul zs.length hn0
 have hle:=nfr_le zs.length
 have hlen:zs.length=n * 16:=by omega
 have hpo:PlcOk n (plist zs):=by
  unfold plist
  rw [if_neg hn0,hz]
  exact plcOk_below zs n
 have hd:=tree_dis zs ht
 have hall:=allL_ok (H:=H) (by omega) hpo hd hw
 refine ⟨hlay,hall,by rw [wrs_len]; exact hz,hn,by omega,fun t htm i hi=>?_⟩
 have:=after_right (H:=H) hlen (by omega) hpo hd hw htm hi
 have hf:=(hall.fr t htm).1
 have e:wordAt (wrs zs (planL zs n H (plist zs))) t.fr i=(wrs zs (planL zs n H (plist zs))).getD (t.fr * 16+i).toNat 0:=by
  unfold wordAt
  congr 1
  omega
 rw [e]
 exact this
end Go.Proofs.YtnmhkgmmpkjjeaaGreat
namespace Go.Proofs.YtnmhkgmmpkjjeaaGreat
open Go.ChangeShapes Go.WideShapes Go.ChangeAt Go.RowKit
set_option linter.unusedVariables false
def OpsIn (n:Nat) (l:List OpE):Prop:=∀ o ∈ l,o.kind=1->0<=o.a/\o.a < n
theorem OpsIn.app {n:Nat} {l m:List OpE} (h1:OpsIn n l) (h2:OpsIn n m):OpsIn n (l ++ m):=fun o ho=>(List.mem_append.1 ho).elim (h1 o) (h2 o)
theorem OpsIn.seal {n:Nat} {l:List OpE} (h:OpsIn n l):OpsIn n (sealO l):=by
 unfold sealO
 split
 ·intro o ho; cases ho
 ·refine h.app (fun o ho hk=>?_)
  rw [List.mem_singleton] at ho
  subst ho
  cases hk
theorem ent_in {n:Nat} {ps:List P3} (H:Nat->Ht) (hn:0 < n) (h:PlcOk n ps) {e:En} (he:e ∈ entL H ps):0<=e.ad/\e.ad < (n * 16:Nat):=by
 obtain ⟨page,lv,hp,h1,h3,hmod,e1,e2,h0,e3⟩:=enTo_mem he
 have hf:=frOf_lt H hn h lv (page - page % (epg lv * 16):Nat)
 have hm:page / epg lv % 16 < 16:=Nat.mod_lt _ (by decide)
 rw [e3]
 omega
theorem planL_in {xs:List SpanE} {zs:List Int} {n:Nat} {ps:List P3} (hn:0 < n) (h:PlcOk n ps) (hw:(wPre (lay xs) 256).length<=n):OpsIn (n * 16) (planL zs n (lay xs) ps):=by
 unfold planL
 refine OpsIn.app (OpsIn.seal (fun o ho hk=>?_)) (OpsIn.app (OpsIn.seal (fun o ho hk=>?_)) (OpsIn.app (fun o ho hk=>?_) (OpsIn.app (OpsIn.seal (fun o ho hk=>?_)) (OpsIn.seal (fun o ho hk=>?_)))))
 ·unfold brkOps at ho
  obtain ⟨e,he,rfl⟩:=List.mem_map.1 ho
  exact ent_in (lay xs) hn h (List.mem_filter.1 he).1
 ·unfold tlbOps at ho
  obtain ⟨e,he,rfl⟩:=List.mem_map.1 ho
  cases hk
 ·unfold freeOps at ho
  obtain ⟨e,he,rfl⟩:=List.mem_map.1 ho
  cases hk
 ·unfold fillOps at ho
  obtain ⟨t,ht,ho⟩:=List.mem_flatMap.1 ho
  unfold fillOne at ho
  obtain ⟨i,hi,rfl⟩:=List.mem_map.1 ho
  obtain ⟨F,lv,pg,rfl,_,_,_,_,_,hF⟩:=all_mem hn h hw (List.mem_append_right _ ht)
  have:=List.mem_range.1 hi
  show 0<=(F:Int) * 16+(i:Nat)/\(F:Int) * 16+(i:Nat) < _
  omega
 ·unfold lnkOps at ho
  obtain ⟨e,he,rfl⟩:=List.mem_map.1 ho
  exact ent_in (lay xs) hn h (List.mem_filter.1 he).1
theorem planF_in (zs:List Int) (xs:List SpanE):OpsIn zs.length (planF zs xs).1:=by
 by_cases hpt:ptree zs=true
 ·by_cases hvb:vsB xs=true
  ·by_cases hfr:nfr zs.length < ((wPre (lay xs) 256).length:Nat)
   ·rw [planF_3 hpt hvb hfr]; intro o ho; cases ho
   ·rw [planF_0 hpt hvb hfr]
    have hnf:=ptree_nfr hpt
    obtain ⟨hnm,hn1⟩:=nfr_mul zs.length hnf
    obtain ⟨n,hnn⟩:∃ n:Nat,nfr zs.length=n:=⟨(nfr zs.length).toNat,by omega⟩
    have hpo:PlcOk n (plist zs):=by rw [<- hnn]; exact plcOk_plist zs hnf
    have hT:(nfr zs.length).toNat=n:=by rw [hnn]; rfl
    rw [hT]
    have:=planL_in (xs:=xs) (zs:=zs) (n:=n) (ps:=plist zs) (by omega) hpo (by omega)
    rwa [show n * 16=zs.length by omega] at this
  ·have hvb':vsB xs=false:=by simpa using hvb
   rw [planF_2 hpt hvb']; intro o ho; cases ho
 ·have hpt':ptree zs=false:=by simpa using hpt
  rw [planF_1 hpt']; intro o ho; cases ho
theorem planF_len0 (zs:List Int) (xs:List SpanE):(planF zs xs).1.length<=200000:=by
 by_cases hpt:ptree zs=true
 ·by_cases hvb:vsB xs=true
  ·by_cases hfr:nfr zs.length < ((wPre (lay xs) 256).length:Nat)
   ·rw [planF_3 hpt hvb hfr]; exact Nat.zero_le _
   ·rw [planF_0 hpt hvb hfr]
    have hnl:=nfr_le zs.length
    have hn0:=(nfr_mul zs.length (ptree_nfr hpt)).2
    have hlen:(newL (lay xs) (plist zs)).length<=(wPre (lay xs) 256).length:=frTo_len (keptL (lay xs) (plist zs)) (wPre (lay xs) 256) _ (Nat.le_refl _)
    have:=xAcc_len zs (lay xs) (nfr zs.length).toNat (keptL (lay xs) (plist zs)) (goneL (lay xs) (plist zs)) (newL (lay xs) (plist zs)) (by have:=ret_len (goneL (lay xs) (plist zs)) (nfr zs.length).toNat; omega) (by omega) 5
    rw [planL_acc] at this
    show (planL zs (nfr zs.length).toNat (lay xs) (plist zs)).length<=200000
    omega
  ·have hvb':vsB xs=false:=by simpa using hvb
   rw [planF_2 hpt hvb']; exact Nat.zero_le _
 ·have hpt':ptree zs=false:=by simpa using hpt
  rw [planF_1 hpt']; exact Nat.zero_le _
def zeroZ (F:Nat):List Int:=List.replicate (F * 16) 0
theorem zeroZ_len (F:Nat):(zeroZ F).length=F * 16:=by unfold zeroZ; simp
theorem zeroZ_at (F i:Nat):(zeroZ F).getD i 0=0:=by
 unfold zeroZ
 rw [List.getD_eq_getElem?_getD,List.getElem?_replicate]
 split <;> rfl
def buildF (xs:List SpanE) (fr:Int):List Int × Int :=
 if vsB xs=false then ([],1) else if fr < 1\/512 < fr then ([],2) else if (planF (zeroZ fr.toNat) xs).2 ≠ 0 then ([],3)
 else (wrs (zeroZ fr.toNat) (planF (zeroZ fr.toNat) xs).1,0)
theorem buildF_len (xs:List SpanE) (fr:Int):(buildF xs fr).1.length<=8192:=by
 unfold buildF
 split
 ·exact Nat.zero_le _
 ·split
  ·exact Nat.zero_le _
  ·split
   ·exact Nat.zero_le _
   ·show (wrs _ _).length<=8192
    rw [wrs_len,zeroZ_len]
    omega
def BuildPost (w:World) (r:List Int × Int) (e:Ending) (w':World):Prop :=
 ∃ a c,e=.returned (.tuple #[.agg #[.slice a r.1.length c],.int .i64 r.2])/\ERow eWord w' w.heap.size (.slice a r.1.length c) r.1/\Below w.heap.size w w'
theorem eWord_nil (w:World) (B:Nat):ERow eWord w B (.slice none 0 0) []:=⟨by simp [ecells],.inl ⟨rfl,rfl⟩⟩
theorem IRow.put {w:World} {g k:Nat} {zs:List Int} {x:Int} (h:IRow w g zs):IRow (w.setCell ⟨g,k,none⟩ (.int .u64 x)) g (zs.set k x):=by
 unfold IRow at h ⊢
 rw [List.length_set]
 refine (World.rowIs.set h k (.int .u64 x)).congr (fun i hi=>?_)
 rw [List.getD_eq_getElem?_getD,List.getD_eq_getElem?_getD,List.getElem?_set]
 by_cases e:i=k
 ·rw [if_pos e,if_pos e.symm,if_pos (by omega)]; rfl
 ·rw [if_neg e,if_neg (fun e2=>e e2.symm)]
theorem IRow.tch {w w':World} {g:Nat} {zs:List Int} {S:Nat->Prop} (h:IRow w g zs) (hg:Tch S w w') (hn:¬ S g):IRow w' g zs:=World.rowIs.of_block h (hg.block g h.lt hn)
theorem op_cells {w:World} {b g c n:Nat} {xs:List OpE} (h:ERow eOp w b (.slice (some ⟨g,0,none⟩) n c) xs) (i:Nat) (hi:i < xs.length):g < w.heap.size/\w.cell? ⟨g,i * 4,none⟩=some (.int .i64 (eAt eOp xs i).kind)/\w.cell? ⟨g,i * 4+1,none⟩=some (.int .i64 (eAt eOp xs i).a)/\w.cell? ⟨g,i * 4+2,none⟩=some (.int .i64 (eAt eOp xs i).b)/\w.cell? ⟨g,i * 4+3,none⟩=some (.int .u64 (eAt eOp xs i).word):=by
 obtain ⟨a,c',e,h1⟩:=h.form
 obtain ⟨g',N,f,e2,_,hr,hN,hf⟩:=h1 (by omega)
 have hN':xs.length * 4<=N:=hN
 simp only [Value.slice.injEq] at e
 obtain ⟨e,_,_⟩:=e
 rw [e2] at e
 simp only [Option.some.injEq,Addr.mk.injEq,and_true] at e
 subst e
 have a0:f (i * 4+0)=eCell eOp xs i 0:=hf i hi 0 (by decide)
 have a1:f (i * 4+1)=eCell eOp xs i 1:=hf i hi 1 (by decide)
 have a2:f (i * 4+2)=eCell eOp xs i 2:=hf i hi 2 (by decide)
 have a3:f (i * 4+3)=eCell eOp xs i 3:=hf i hi 3 (by decide)
 exact ⟨hr.lt,(hr.cell (by omega)).trans (congrArg some a0),(hr.cell (by omega)).trans (congrArg some a1),(hr.cell (by omega)).trans (congrArg some a2),(hr.cell (by omega)).trans (congrArg some a3)⟩
end Go.Proofs.YtnmhkgmmpkjjeaaGreat
namespace Go.Proofs.YtnmhkgmmpkjjeaaGreat
open Go.ChangeShapes Go.WideShapes Go.ChangeAt Go.RowKit
set_option linter.unusedVariables false
set_option maxRecDepth 100000
def W64 (x:Int):Prop:=0<=x/\x < 2 ^ 64
theorem encI_b (l k o p:Int):W64 (encI l k o p):=by
 unfold encI W64
 split
 ·rename_i h
  unfold encW
  split <;> omega
 ·omega
theorem rgt_b (H:Nat->Ht) (all:List P3) (lv pg:Int):W64 (rgt H all lv pg):=by
 unfold rgt
 repeat' split
 all_goals first | exact encI_b _ _ _ _ | exact ⟨by omega,by omega⟩
def OpsW (l:List OpE):Prop:=∀ o ∈ l,o.kind=1->W64 o.word
theorem OpsW.app {l m:List OpE} (h1:OpsW l) (h2:OpsW m):OpsW (l ++ m):=fun o ho=>(List.mem_append.1 ho).elim (h1 o) (h2 o)
theorem OpsW.seal {l:List OpE} (h:OpsW l):OpsW (sealO l):=by
 unfold sealO
 split
 ·intro o ho; cases ho
 ·refine h.app (fun o ho hk=>?_)
  rw [List.mem_singleton] at ho
  subst ho
  cases hk
theorem planL_w (zs:List Int) (n:Nat) (H:Nat->Ht) (ps:List P3):OpsW (planL zs n H ps):=by
 unfold planL
 refine OpsW.app (OpsW.seal (fun o ho hk=>?_)) (OpsW.app (OpsW.seal (fun o ho hk=>?_)) (OpsW.app (fun o ho hk=>?_) (OpsW.app (OpsW.seal (fun o ho hk=>?_)) (OpsW.seal (fun o ho hk=>?_)))))
 ·unfold brkOps at ho
  obtain ⟨e,he,rfl⟩:=List.mem_map.1 ho
  exact (show W64 0 from ⟨by decide,by decide⟩)
 ·unfold tlbOps at ho
  obtain ⟨e,he,rfl⟩:=List.mem_map.1 ho
  cases hk
 ·unfold freeOps at ho
  obtain ⟨e,he,rfl⟩:=List.mem_map.1 ho
  cases hk
 ·unfold fillOps at ho
  obtain ⟨t,ht,ho⟩:=List.mem_flatMap.1 ho
  unfold fillOne at ho
  obtain ⟨i,hi,rfl⟩:=List.mem_map.1 ho
  exact rgt_b _ _ _ _
 ·unfold lnkOps at ho
  obtain ⟨e,he,rfl⟩:=List.mem_map.1 ho
  exact rgt_b _ _ _ _
theorem wrs_w:∀ (l:List OpE) (zs:List Int),OpsW l->(∀ i,W64 (zs.getD i 0))->∀ i,W64 ((wrs zs l).getD i 0)
 | [],zs,_,hz=>hz
 | o :: l,zs,hl,hz=>by
  show ∀ i,W64 ((wrs (wr1 zs o) l).getD i 0)
  refine wrs_w l (wr1 zs o) (fun o' ho'=>hl o' (List.mem_cons_of_mem _ ho')) (fun i=>?_)
  unfold wr1
  split
  ·rename_i hk
   have:=hl o List.mem_cons_self hk
   rw [List.getD_eq_getElem?_getD,List.getElem?_set]
   split
   ·split
    ·exact this
    ·exact ⟨by decide,by decide⟩
   ·have:=hz i
    rw [List.getD_eq_getElem?_getD] at this
    exact this
  ·exact hz i
theorem planF_zero {zs:List Int} {xs:List SpanE} (h:(planF zs xs).2=0):ptree zs=true/\vsB xs=true/\¬ nfr zs.length < ((wPre (lay xs) 256).length:Nat):=by
 by_cases h1:ptree zs=true
 ·by_cases h2:vsB xs=true
  ·by_cases h3:nfr zs.length < ((wPre (lay xs) 256).length:Nat)
   ·rw [planF_3 h1 h2 h3] at h; cases h
   ·exact ⟨h1,h2,h3⟩
  ·rw [planF_2 h1 (by simpa using h2)] at h; cases h
 ·rw [planF_1 (by simpa using h1)] at h; cases h
structure BldOk (xs:List SpanE) (fr:Int) (A:List Int):Prop where
 v:vsB xs=true
 f:1<=fr/\fr<=512
 l:(A.length:Int)=fr * 16
 w:∀ i,0<=A.getD i 0/\A.getD i 0 < 2 ^ 64
 t:ptree A=true
 c:((plist A).length:Int)=tnF xs
 h:∀ p:Nat,p < 4096->walkZ A p=⟨(atA xs p).k,(atA xs p).o,(atA xs p).p,(atA xs p).s⟩
theorem build_ok (xs:List SpanE) (fr:Int) (h:(buildF xs fr).2=0):BldOk xs fr (buildF xs fr).1:=by
 unfold buildF at h ⊢
 split at h
 ·cases h
 ·rename_i hv
  have hv':vsB xs=true:=by simpa using hv
  rw [if_neg hv]
  split at h
  ·cases h
  ·rename_i hf
   rw [if_neg hf]
   split at h
   ·cases h
   ·rename_i hp
    rw [if_neg hp]
    have hp0:(planF (zeroZ fr.toNat) xs).2=0:=by simpa using hp
    obtain ⟨p1,p2,p3⟩:=planF_zero hp0
    obtain ⟨F,hF⟩:∃ F:Nat,fr.toNat=F:=⟨_,rfl⟩
    rw [hF] at p1 p3 ⊢
    have hfr:fr=(F:Int):=by omega
    have hn:nfr (zeroZ F).length=(F:Int):=by
     rw [zeroZ_len]
     unfold nfr
     rw [if_neg (by omega)]
     omega
    rw [planF_0 p1 p2 p3,hn]
    rw [hn] at p3
    have hvs:=VS.of_true hv'
    have hok:=plan_memOk (zs:=zeroZ F) (n:=F) (lay_okH hvs (fun p hp=>lay_at xs p hp)) hn (by omega) p1 (by omega)
    show BldOk xs fr (wrs (zeroZ F) (planL (zeroZ F) F (lay xs) (plist (zeroZ F))))
    refine ⟨hv',by omega,?_,?_,hok.tree,?_,fun p hp=>?_⟩
    ·rw [wrs_len,zeroZ_len,hfr]; omega
    ·exact wrs_w _ _ (planL_w _ _ _ _) (fun i=>by rw [zeroZ_at]; exact ⟨by decide,by decide⟩)
    ·rw [hok.count,tnF_yes hv']
    ·rw [hok.walk p hp,lay_at xs p hp]
     unfold atA
     rw [if_pos ⟨hv',by omega,by omega⟩]
theorem build_no (xs:List SpanE) (fr:Int) (h:(buildF xs fr).2 ≠ 0):(buildF xs fr).1=[]:=by
 unfold buildF at h ⊢
 split
 ·rfl
 ·split
  ·rfl
  ·split
   ·rfl
   ·rename_i h1 h2 h3
    rw [if_neg h1,if_neg h2,if_neg h3] at h
    exact absurd rfl h
end Go.Proofs.YtnmhkgmmpkjjeaaGreat
namespace Go.Proofs.YtnmhkgmmpkjjeaaGreat
open Go.ChangeShapes Go.WideShapes Go.ChangeAt Go.RowKit
set_option linter.unusedVariables false
set_option maxRecDepth 100000
attribute [local go_sem ↓] Go.wp_at_zero Go.wp_at_succ
set_option maxHeartbeats 4000000 in
theorem implBuild_any (a:Option Addr) (cap b:Nat) (xs:List SpanE) (fr:Int) (w:World) (hn:xs.length<=1048576) (hf0:-9223372036854775808<=fr) (hf1:fr<=9223372036854775807) (hwf:∀ i,i < xs.length->wfS (eAt eSpan xs i)) (h:ERow eSpan w b (.slice a xs.length cap) xs) :
  Calls Tryz.prog 12 #[.slice a xs.length cap,.int .i64 fr] w fun e w'=>BuildPost w (buildF xs fr) e w':=by
 obtain ⟨wb,hwb⟩:∃ wb,wb=w.alloc (.cells #[.slice none 0 0] 35):=⟨_,rfl⟩
 have hbb:Below w.heap.size w wb:=by rw [hwb]; exact bal
 have hzb:wb.heap.size=w.heap.size+1:=by rw [hwb]; simp
 have q0:wb.cell? ⟨w.heap.size,0,none⟩=some (.slice none 0 0):=by rw [hwb]; simp [go_sem]
 have f0:wb.frozen? ⟨w.heap.size,0,none⟩=false:=by rw [hwb]; simp [go_sem]
 have hvs0:=implVS_any a cap b xs wb hn hwf (h.below hbb)
 have HPL:Hid (∀ g F wX,Below wb.heap.size wb wX->F<=512->CRow wX g (zeroZ F)->Calls Tryz.prog 25 #[.agg #[.slice (some ⟨g,0,none⟩) (zeroZ F).length (zeroZ F).length],.slice a xs.length cap] wX fun e w'=>PlanPost wX (planF (zeroZ F) xs) e w'):=hidOf <| fun g F wX hX hF hc=>implPlan_any g (zeroZ F) (zeroZ F).length a cap b xs wX (by rw [zeroZ_len]; omega) (Nat.le_refl _) (fun i=>by rw [zeroZ_at]; exact ⟨Int.le_refl _,by decide⟩) hc hn hwf (h.below (hbb.trans (hX.mono (by omega))))
 have HWB:Hid (wb=_):=hwb
 have HBB:Hid (Below w.heap.size w wb):=hbb
 have HZB:Hid (wb.heap.size=w.heap.size+1):=hzb
 have HQ0:Hid (∀ wX,Below wb.heap.size wb wX->wX.cell? ⟨w.heap.size,0,none⟩=some (.slice none 0 0)/\wX.frozen? ⟨w.heap.size,0,none⟩=false):=hidOf <| fun wX hX=>⟨(hX.cell (p:=⟨w.heap.size,0,none⟩) (show w.heap.size < _ by omega)).trans q0,(hX.frozen (p:=⟨w.heap.size,0,none⟩) (show w.heap.size < _ by omega)).trans f0⟩
 have HEND:Hid (∀ k w',Below wb.heap.size wb w'->∀ u,BuildPost w ([],k) (.returned (.tuple #[.agg #[.slice none 0 0],.int .i64 k])) (w'.setCell ⟨w.heap.size,0,none⟩ u)):=hidOf <| fun k w' hX u=>⟨none,0,rfl,eWord_nil _ _,(hbb.trans (hX.mono (by omega))).setCell (Nat.le_refl _) _⟩
 have N0:w.heap.size < wb.heap.size:=by omega
 clear hwb hbb hzb q0 f0 h hwf
 unfold buildF
 cases hvb:vsB xs
 ·rw [if_pos rfl]
  rw [hvb] at hvs0
  clear hvb
  go_enter Tryz.func12,Tryz.ntmps12
  go_wp2_with fail
  rw [<- HWB.out]
  refine hvs0.mono ?_
  rintro e w1 ⟨rfl,hb1⟩
  obtain ⟨k0,k1⟩:=HQ0.out w1 hb1
  have hl1:w.heap.size < w1.heap.size:=Nat.lt_of_lt_of_le N0 hb1.size
  have hfin:=HEND.out 1 w1 hb1 (.slice none 0 0)
  have r0:(w1.setCell ⟨w.heap.size,0,none⟩ (.slice none 0 0)).cell? ⟨w.heap.size,0,none⟩=some (.slice none 0 0):=World.cell?_setCell_same _ _ _ k0
  clear hvs0 hb1
  go_wp2_with fail
  refine bodyPost_ret (v:=.tuple #[.agg #[.slice none 0 0],.int .i64 1]) (by simp [results,Tryz.results12,go_sem,r0]) rfl ?_
  exact hfin
 ·rw [if_neg (by decide)]
  rw [hvb] at hvs0
  clear hvb
  by_cases hr:fr < 1\/512 < fr
  ·rw [if_pos hr]
   by_cases h1:fr < 1
   ·have d1:decide (fr < 1)=true:=decide_eq_true h1
    clear hr
    go_enter Tryz.func12,Tryz.ntmps12
    go_wp2_with fail
    rw [<- HWB.out]
    refine hvs0.mono ?_
    rintro e w1 ⟨rfl,hb1⟩
    obtain ⟨k0,k1⟩:=HQ0.out w1 hb1
    have hl1:w.heap.size < w1.heap.size:=Nat.lt_of_lt_of_le N0 hb1.size
    have hfin:=HEND.out 2 w1 hb1 (.slice none 0 0)
    have r0:(w1.setCell ⟨w.heap.size,0,none⟩ (.slice none 0 0)).cell? ⟨w.heap.size,0,none⟩=some (.slice none 0 0):=World.cell?_setCell_same _ _ _ k0
    clear hvs0 hb1
    go_wp2_with fail
    refine bodyPost_ret (v:=.tuple #[.agg #[.slice none 0 0],.int .i64 2]) (by simp [results,Tryz.results12,go_sem,r0]) rfl ?_
    exact hfin
   ·have h2:512 < fr:=by omega
    have d1:decide (fr < 1)=false:=decide_eq_false h1
    have d2:decide (512 < fr)=true:=decide_eq_true h2
    clear hr
    go_enter Tryz.func12,Tryz.ntmps12
    go_wp2_with fail
    rw [<- HWB.out]
    refine hvs0.mono ?_
    rintro e w1 ⟨rfl,hb1⟩
    obtain ⟨k0,k1⟩:=HQ0.out w1 hb1
    have hl1:w.heap.size < w1.heap.size:=Nat.lt_of_lt_of_le N0 hb1.size
    have hfin:=HEND.out 2 w1 hb1 (.slice none 0 0)
    have r0:(w1.setCell ⟨w.heap.size,0,none⟩ (.slice none 0 0)).cell? ⟨w.heap.size,0,none⟩=some (.slice none 0 0):=World.cell?_setCell_same _ _ _ k0
    clear hvs0 hb1
    go_wp2_with fail
    refine bodyPost_ret (v:=.tuple #[.agg #[.slice none 0 0],.int .i64 2]) (by simp [results,Tryz.results12,go_sem,r0]) rfl ?_
    exact hfin
  ·rw [if_neg hr]
   obtain ⟨F,rfl⟩:∃ F:Nat,fr=F:=⟨fr.toNat,by omega⟩
   have hFT:((F:Nat):Int).toNat=F:=rfl
   rw [hFT]
   have hF1:1<=F:=by omega
   have hF2:F<=512:=by omega
   obtain ⟨ZL,hZL⟩:∃ ZL,F * 16=ZL:=⟨_,rfl⟩
   have hZ8:ZL<=8192:=by omega
   have hzl:(zeroZ F).length=ZL:=by rw [zeroZ_len,hZL]
   have W1:IntKind.i64.wrap ((F:Int) * 16)=(ZL:Int):=by rw [IntKind.wrap_i64]; omega
   have hmk:=run_make_row' (P:=Tryz.prog) 33 75 (.int .u64 0) 8 Tryz.underlying33 info_u64 rfl .i64 .i64 ZL (by omega) (by omega)
   have hin:=planF_in (zeroZ F) xs
   have HLEN:Hid (∀ l,(wrs (zeroZ F) l).length=ZL):=hidOf <| fun l=>by rw [wrs_len,hzl]
   rw [hzl] at hin
   have HZ0:Hid (∀ i,(zeroZ F).getD i 0=0):=zeroZ_at F
   have HPL2:Hid (∀ g wX,Below wb.heap.size wb wX->CRow wX g (zeroZ F)->Calls Tryz.prog 25 #[.agg #[.slice (some ⟨g,0,none⟩) ZL ZL],.slice a xs.length cap] wX fun e w'=>PlanPost wX (planF (zeroZ F) xs) e w'):=hidOf <| fun g wX hX hc=>by
    have h9:=HPL.out g F wX hX hF2 hc
    rw [hzl] at h9
    exact h9
   have HZLN:Hid ((zeroZ F).length=ZL):=hzl
   have hpl:=planF_len0 (zeroZ F) xs
   generalize planF (zeroZ F) xs=PF at *
   obtain ⟨l,code⟩:=PF
   dsimp only at *
   have d1:decide ((F:Int) < 1)=false:=decide_eq_false (by omega)
   have d2:decide ((512:Int) < (F:Int))=false:=decide_eq_false (by omega)
   clear hr HPL hzl hFT hZL
   generalize zeroZ F=ZS at *
   by_cases hcode:code=0
   ·subst hcode
    rw [if_neg (by decide)]
    go_enter Tryz.func12,Tryz.ntmps12
    go_wp2_with fail
    rw [<- HWB.out]
    refine hvs0.mono ?_
    rintro e w1 ⟨rfl,hb1⟩
    have HB1:Hid (Below wb.heap.size wb w1):=hb1
    clear hvs0 hb1
    obtain ⟨wM,hwM⟩:∃ wM,wM=(w1.alloc (.cells (madeCells #[.int .u64 0] ZL) 75)).alloc (.cells #[.slice (some ⟨w1.heap.size,0,none⟩) ZL ZL] 35):=⟨_,rfl⟩
    have hbM:Below w1.heap.size w1 wM:=by rw [hwM]; exact ((Below.refl _ _).alloc (Nat.le_refl _) _).alloc (by simp) _
    have hzM:wM.heap.size=w1.heap.size+2:=by rw [hwM]; simp
    have hrow:IRow wM w1.heap.size ZS:=by
     unfold IRow
     rw [HZLN.out,hwM]
     refine World.rowIs.alloc ((World.rowIs_made w1 (.int .u64 0) ZL 75).congr (fun i hi=>?_)) _
     rw [HZ0.out]
    have m0:wM.cell? ⟨w1.heap.size+1,0,none⟩=some (.slice (some ⟨w1.heap.size,0,none⟩) ZL ZL):=by rw [hwM]; simp [go_sem]
    have HBM:Hid (Below wb.heap.size wb wM):=HB1.out.trans (hbM.mono HB1.out.size)
    have hp:=HPL2.out w1.heap.size wM HBM.out hrow.c
    have HROW:Hid (IRow wM w1.heap.size ZS):=hrow
    have HM0:Hid (wM.cell? ⟨w1.heap.size+1,0,none⟩=some (.slice (some ⟨w1.heap.size,0,none⟩) ZL ZL)):=m0
    have HZM:Hid (wM.heap.size=w1.heap.size+2):=hzM
    have hw1:w.heap.size < w1.heap.size:=Nat.lt_of_lt_of_le N0 HB1.out.size
    have HWM:Hid (wM=_):=hwM
    have N2:w1.heap.size+1 < wM.heap.size:=by omega
    clear hwM hbM hzM hrow m0 HPL2
    go_wp2_with fail
    rw [<- HWM.out]
    refine hp.mono ?_
    rintro e wY ⟨aP,cP,rfl,hrP,hbP⟩
    dsimp only at hrP
    have hmY:=(hbP.cell (p:=⟨w1.heap.size+1,0,none⟩) N2).trans HM0.out
    have HRY:Hid (IRow wY w1.heap.size ZS):=HROW.out.below hbP (by omega)
    have HBY:Hid (Below wb.heap.size wb wY):=HBM.out.trans (hbP.mono HBM.out.size)
    have HMY:Hid (wY.cell? ⟨w1.heap.size+1,0,none⟩=some (.slice (some ⟨w1.heap.size,0,none⟩) ZL ZL)):=hmY
    have hsY:=hbP.size
    have HRP:Hid (∀ wX,Tch (fun k=>k=w1.heap.size) wY wX->ERow eOp wX wM.heap.size (.slice aP l.length cP) l):=hidOf <| fun wX hX=>hrP.tch hX (fun k hk e=>by have:=(hrP.own k (by rw [own_sl]; exact hk)).1; omega)
    have N3:w1.heap.size+1 < wY.heap.size:=by omega
    clear hp hrP hbP hmk
    go_wp2_with fail
    go_loopw [37] (fun iv wr=>∃ i:Nat,i<=l.length/\iv=.int .i64 i/\IRow wr w1.heap.size (wrs ZS (l.take i))/\Tch (fun k=>k=w1.heap.size) wY wr) (fun iv _=>l.length - (intOf iv).toNat)
    case atStart=>exact ⟨0,Nat.zero_le _,rfl,by rw [List.take_zero]; exact HRY.out,Tch.refl _⟩
    case round =>
     obtain ⟨i,hi,rfl,hrow,htc⟩:=hrel
     have hmr:wr.cell? ⟨w1.heap.size+1,0,none⟩=some (.slice (some ⟨w1.heap.size,0,none⟩) ZL ZL):=(htc.cell (p:=⟨w1.heap.size+1,0,none⟩) N3 (by show ¬ w1.heap.size+1=w1.heap.size; omega)).trans HMY.out
     have hszr:=htc.size
     by_cases hlt:i < l.length
     ·have hrw:=HRP.out wr htc
      obtain ⟨g,rfl⟩:∃ g,aP=some ⟨g,0,none⟩:=by
       obtain ⟨a',c',e,h1⟩:=hrw.form
       obtain ⟨g,N,f,e2,_⟩:=h1 (by omega)
       simp only [Value.slice.injEq] at e
       exact ⟨g,by rw [e.1,e2]⟩
      obtain ⟨hgl,x0,x1,x2,x3⟩:=op_cells hrw i hlt
      have hgg:wM.heap.size<=g:=(hrw.own g rfl).1
      have HSU:Hid (wrs ZS (l.take (i+1))=wr1 (wrs ZS (l.take i)) (eAt eOp l i)):=wrs_succ ZS l i hlt
      have hmem:eAt eOp l i ∈ l:=by
       unfold eAt
       rw [List.getD_eq_getElem?_getD,List.getElem?_eq_getElem hlt]
       exact List.getElem_mem hlt
      have hi9:=hin _ hmem
      have hWL:=HLEN.out (l.take i)
      generalize eAt eOp l i=OO at x0 x1 x2 x3 hi9 HSU hmem
      obtain ⟨K,A,Bb,W⟩:=OO
      dsimp only at x0 x1 x2 x3 hi9
      obtain ⟨WS,hWS⟩:∃ WS,wrs ZS (l.take i)=WS:=⟨_,rfl⟩
      rw [hWS] at hrow HSU hWL
      have L1:(0:Int)<=(i:Int):=by omega
      have L2:(i:Int) < (l.length:Int):=by omega
      have HROWR:Hid (IRow wr w1.heap.size WS):=hrow
      have HTC:Hid (Tch (fun k=>k=w1.heap.size) wY wr):=htc
      by_cases hK:K=1
      ·subst hK
       obtain ⟨i1,i2⟩:=hi9 rfl
       obtain ⟨AN,rfl⟩:∃ AN:Nat,A=AN:=⟨A.toNat,by omega⟩
       have HS1:Hid (wrs ZS (l.take (i+1))=WS.set AN W):=hidOf <| by rw [HSU.out]; rfl
       have o0:=hrow.cell (i:=AN) (by omega)
       have o1:=World.rowIs.frozen hrow AN
       generalize WS.getD AN 0=OV at o0
       have L3:(0:Int)<=(AN:Int):=by omega
       have L4:(AN:Int) < (ZL:Int):=by omega
       have L5:w1.heap.size < wr.heap.size:=by omega
       have L6:w1.heap.size+1 < wr.heap.size:=by omega
       have HNX:Hid (∀ w9,Below wr.heap.size wr w9->IRow (w9.setCell ⟨w1.heap.size,AN,none⟩ (.int .u64 W)) w1.heap.size (WS.set AN W)/\Tch (fun k=>k=w1.heap.size) wY (w9.setCell ⟨w1.heap.size,AN,none⟩ (.int .u64 W))):=hidOf <| fun w9 h9=>⟨IRow.put (HROWR.out.below h9 L5),(HTC.out.then (Tch.of_below (S:=fun _=>False) h9) (fun k _ hh=>hh.elim)).set _ _ rfl⟩
       clear hrow htc hi9 hin HSU hrw hmem hWS
       go_wp2_with fail
       go_roundw
       case rel=>exact ⟨i+1,by omega,by go_num,by rw [HS1.out]; exact (HNX.out wr (Below.refl _ _)).1.below bal (by simpa using L5),(HNX.out wr (Below.refl _ _)).2.then (Tch.of_below (S:=fun _=>False) bal) (fun k _ hh=>hh.elim)⟩
       case measure=>simp [intOf]; omega
      ·have HS1:Hid (wrs ZS (l.take (i+1))=WS):=hidOf <| by rw [HSU.out]; unfold wr1; rw [if_neg hK]
       have dK:(K == 1)=false:=by simpa using hK
       have HNX:Hid (∀ w9,Below wr.heap.size wr w9->IRow w9 w1.heap.size WS/\Tch (fun k=>k=w1.heap.size) wY w9):=hidOf <| fun w9 h9=>⟨HROWR.out.below h9 (by omega),HTC.out.then (Tch.of_below (S:=fun _=>False) h9) (fun k _ hh=>hh.elim)⟩
       clear hrow htc hi9 hin HSU hrw hmem hWS
       go_wp2_with fail
       go_roundw
       case rel=>exact ⟨i+1,by omega,by go_num,by rw [HS1.out]; exact (HNX.out _ (bal)).1,(HNX.out _ (bal)).2⟩
       case measure=>simp [intOf]; omega
     ·have ei:i=l.length:=by omega
      subst ei
      rw [List.take_length] at hrow
      obtain ⟨k0,k1⟩:=HQ0.out wY HBY.out
      have kr0:wr.cell? ⟨w.heap.size,0,none⟩=some (.slice none 0 0):=(htc.cell (p:=⟨w.heap.size,0,none⟩) (by show w.heap.size < _; omega) (by show ¬ w.heap.size=_; omega)).trans k0
      have kr1:wr.frozen? ⟨w.heap.size,0,none⟩=false:=(htc.frozen (p:=⟨w.heap.size,0,none⟩) (by show w.heap.size < _; omega) (by show ¬ w.heap.size=_; omega)).trans k1
      have hl1:w.heap.size < wr.heap.size:=by omega
      have r0:(wr.setCell ⟨w.heap.size,0,none⟩ (.slice (some ⟨w1.heap.size,0,none⟩) ZL ZL)).cell? ⟨w.heap.size,0,none⟩=some (.slice (some ⟨w1.heap.size,0,none⟩) ZL ZL):=World.cell?_setCell_same _ _ _ kr0
      have hfin:BuildPost w (wrs ZS l,0) (.returned (.tuple #[.agg #[.slice (some ⟨w1.heap.size,0,none⟩) ZL ZL],.int .i64 0])) (wr.setCell ⟨w.heap.size,0,none⟩ (.slice (some ⟨w1.heap.size,0,none⟩) ZL ZL)):=by
       have hl9:=HLEN.out l
       have hrw2:IRow (wr.setCell ⟨w.heap.size,0,none⟩ (.slice (some ⟨w1.heap.size,0,none⟩) ZL ZL)) w1.heap.size (wrs ZS l):=hrow.tch (S:=fun k=>k=w.heap.size) ((Tch.refl wr).set _ _ rfl) (by omega)
       have he:=hrw2.erow (base:=w.heap.size) (by omega) (by rw [hl9]; omega)
       rw [hl9] at he
       refine ⟨some ⟨w1.heap.size,0,none⟩,ZL,by dsimp only; rw [hl9],by dsimp only; rw [hl9]; exact he,?_⟩
       have hB0:Below w.heap.size w wY:=HBB.out.trans (HBY.out.mono (by omega))
       have ht9:=((Tch.of_below (S:=fun k=>w.heap.size<=k) hB0).then htc (fun k _ hh=>by omega)).set ⟨w.heap.size,0,none⟩ (.slice (some ⟨w1.heap.size,0,none⟩) ZL ZL) (Nat.le_refl _)
       exact ht9.below (fun k hk hh=>by omega)
      clear hrow htc k0 k1
      go_wp2_with fail
      refine bodyPost_ret (v:=.tuple #[.agg #[.slice (some ⟨w1.heap.size,0,none⟩) ZL ZL],.int .i64 0]) (by simp [results,Tryz.results12,go_sem,r0]) rfl ?_
      exact hfin
   ·rw [if_pos hcode]
    have dc:(code != 0)=true:=by simpa using hcode
    go_enter Tryz.func12,Tryz.ntmps12
    go_wp2_with fail
    rw [<- HWB.out]
    refine hvs0.mono ?_
    rintro e w1 ⟨rfl,hb1⟩
    have HB1:Hid (Below wb.heap.size wb w1):=hb1
    clear hvs0 hb1
    obtain ⟨wM,hwM⟩:∃ wM,wM=(w1.alloc (.cells (madeCells #[.int .u64 0] ZL) 75)).alloc (.cells #[.slice (some ⟨w1.heap.size,0,none⟩) ZL ZL] 35):=⟨_,rfl⟩
    have hbM:Below w1.heap.size w1 wM:=by rw [hwM]; exact ((Below.refl _ _).alloc (Nat.le_refl _) _).alloc (by simp) _
    have hrow:IRow wM w1.heap.size ZS:=by
     unfold IRow
     rw [HZLN.out,hwM]
     refine World.rowIs.alloc ((World.rowIs_made w1 (.int .u64 0) ZL 75).congr (fun i hi=>?_)) _
     rw [HZ0.out]
    have HBM:Hid (Below wb.heap.size wb wM):=HB1.out.trans (hbM.mono HB1.out.size)
    have hp:=HPL2.out w1.heap.size wM HBM.out hrow.c
    have HWM:Hid (wM=_):=hwM
    clear hwM hbM hrow HPL2 hcode
    go_wp2_with fail
    rw [<- HWM.out]
    refine hp.mono ?_
    rintro e wY ⟨aP,cP,rfl,hrP,hbP⟩
    have hB:=HBM.out.trans (hbP.mono HBM.out.size)
    obtain ⟨k0,k1⟩:=HQ0.out wY hB
    have hl1:w.heap.size < wY.heap.size:=Nat.lt_of_lt_of_le N0 hB.size
    have hfin:=HEND.out 3 wY hB (.slice none 0 0)
    have r0:(wY.setCell ⟨w.heap.size,0,none⟩ (.slice none 0 0)).cell? ⟨w.heap.size,0,none⟩=some (.slice none 0 0):=World.cell?_setCell_same _ _ _ k0
    clear hp hrP hbP hB hmk
    go_wp2_with fail
    refine bodyPost_ret (v:=.tuple #[.agg #[.slice none 0 0],.int .i64 3]) (by simp [results,Tryz.results12,go_sem,r0]) rfl ?_
    exact hfin
end Go.Proofs.YtnmhkgmmpkjjeaaGreat
