import Derived.Test.YtnmhkgmmpkjjeaaGreatL45
namespace Go.Proofs.YtnmhkgmmpkjjeaaGreat
open Go.ChangeShapes Go.WideShapes Go.ChangeAt Go.RowKit
set_option linter.unusedVariables false
set_option maxRecDepth 100000
theorem Qw {B C:List Int} (hl:C.length=B.length) (hn:Ae B.length≠0) (hw:∀q∈A5 B,∀i,i<16->A7 C q.fr i=A7 B q.fr i):∀q∈A5 C,q∈A5 B:=by
 intro q hq;have hq':=(Bl C (by rw[hl];exact hn) q).1 hq;rw[hl] at hq';have hr:=(Bl B hn root).2 (.inl rfl);rcases hq' with rfl|⟨i,hi,h1,hq'⟩
 ·exact hr
 have e1:A7 C 0 i=A7 B 0 i:=hw root hr i hi;rw[e1] at h1;have eu:AT C root i=AT B root i:=by rw[D8,D8,e1]
 have h2:=(Bl B hn (AT B root i)).2 (.inr ⟨i,hi,h1,.inl rfl⟩);rcases hq' with rfl|⟨j,hj,h3,rfl⟩
 ·rw[eu];exact h2
 ·have e2:=hw _ h2 j hj;have eF:(AT B root i).fr=AV 1 (A7 B 0 i):=by rw[D8]
  have e2':A7 C (AV 1 (A7 B 0 i)) j=A7 B (AV 1 (A7 B 0 i)) j:=by rw[<- eF];exact e2
  rw[e1,e2'] at h3;refine(Bl B hn _).2 (.inr ⟨i,hi,h1,.inr ⟨j,hj,h3,?_⟩⟩);rw[Hi,Hi,e1,e2']
theorem RE (mk:Nat->Bool) (m p:Nat):Ax mk m p<=m-p:=by
 unfold Ax;have:=(List.takeWhile_prefix (l:=List.range (m-p)) (fun k=>mk (p+k))).length_le;rw[List.length_range] at this;exact this
theorem Wq {mk:Nat->Bool} {m p:Nat} (hs:Bs mk p=true) (hp:p<m):1<=Ax mk m p:=by
 unfold Ax;unfold Bs at hs;rw[Bool.and_eq_true] at hs;obtain⟨j,hj⟩:∃j,m-p=j+1:=⟨m-p-1,by omega⟩
 rw[hj,List.range_succ_eq_map,List.takeWhile_cons_of_pos (by simpa using hs.1),List.length_cons];omega
theorem Vo {mk:Nat->Bool} {n:Nat} {s:YS} {o:Ay} (h:o∈Av mk):o.kind≠1/\o.kind≠2/\VK n s o:=by
 unfold Av BV at h;obtain⟨r,hr,rfl⟩:=List.mem_map.1 h;obtain⟨p,hp,hr⟩:=List.mem_flatMap.1 hr;have hp:=List.mem_range.1 hp;split at hr
 ·rename_i hs;rw[List.mem_singleton] at hr;subst hr;have h1:=Wq hs hp;have h2:=RE mk 4096 p;refine⟨by show (3:Int)≠1;decide,by show (3:Int)≠2;decide,.inr (.inr (.inl ⟨rfl,?_,?_,?_,rfl⟩))⟩
  ·show (0:Int)<=(p:Nat);omega
  ·show (1:Int)<=(Ax mk 4096 p:Nat);omega
  ·show ((p:Nat):Int)+(Ax mk 4096 p:Nat)<=4096;omega
 ·cases hr
theorem Ml {l:List Ay} {a:List Ay} {o:Ay} {r:List Ay} (h:a++o :: r=l):o∈l/\∀x∈a,x∈l:=by
 subst h;exact⟨List.mem_append_right _ List.mem_cons_self,fun x hx=>List.mem_append_left _ hx⟩
theorem DP.new_ne {zs:List Int} {n:Nat} {H:Nat->Ht} (h:DP zs n H) {q t:P3} (hq:q∈AC H (A5 zs)) (ht:t∈CM H (A5 zs)):q.fr≠t.fr:=by
 have hd:(AC H (A5 zs)++CM H (A5 zs)).Pairwise (fun a b=>a.fr≠b.fr):=h.all.dis;exact(List.pairwise_append.1 hd).2.2 q hq t ht
theorem MP {H:Nat->Ht} {all fresh:List P3} {o:Ay} (h:o∈AK H all fresh):∃t∈fresh,∃i:Nat,i<16/\o=⟨1,t.fr*16+(i:Nat),0,Bv H all t.lv (t.pg+(i:Nat)*Bj t.lv)⟩:=by
 unfold AK at h;obtain⟨t,ht,h⟩:=List.mem_flatMap.1 h;unfold Al at h;obtain⟨i,hi,rfl⟩:=List.mem_map.1 h;exact⟨t,ht,i,List.mem_range.1 hi,rfl⟩
theorem DP.fill_out {zs:List Int} {n:Nat} {H:Nat->Ht} (h:DP zs n H) (B:List Int) (a:List Ay) (ha:∀x∈a,x∈AK H (AY H (A5 zs)) (CM H (A5 zs))) {q:P3} (hq:q∈AC H (A5 zs)) (i:Nat) (hi:i<16):A7 (Bu B a) q.fr i=A7 B q.fr i:=by
 obtain⟨_,f0,_⟩:=h.kfr hq;unfold A7;refine Ea _ _ _ (fun o ho _ he=>?_);obtain⟨t,ht,j,hj,rfl⟩:=MP (ha o ho);have ht0:=(h.all.fr t (List.mem_append_right _ ht)).1;have:=h.new_ne hq ht;dsimp only at he;omega
theorem DP.acc {zs:List Int} {n:Nat} {H:Nat->Ht} (h:DP zs n H):Iy n ⟨zs,zs,0⟩ (AO zs n H (A5 zs))/\DQ ⟨zs,zs,0⟩ (AO zs n H (A5 zs))=⟨Bu zs (AO zs n H (A5 zs)),Bu zs (AO zs n H (A5 zs)),0⟩:=by
 have hp:=h.pos;have hn0:Ae zs.length≠0:=by rw[h.nf];omega
 have hel:(Bk H (A5 zs)).length<=4368:=by have:=Pj (AC H (A5 zs)) 4096;unfold Bk;omega
 have hnl:(CM H (A5 zs)).length<=273:=by
  have h1:=Er (AC H (A5 zs)) (AA H 256) (AA H 256).length (Nat.le_refl _);have h2:=Gd H 256;unfold CM;omega
 have hbrk:∀q∈A5 (Cp zs H),q∈AC H (A5 zs):=h.brk_kept
 have hbl:(Cp zs H).length=zs.length:=CI _ _;rw[NY]
 obtain⟨p1,r1⟩:=Je n zs (AR zs H (AY H (A5 zs)) (Bk H (A5 zs))) (fun o ho=>by
   unfold AR at ho
   obtain⟨e,he,rfl⟩:=List.mem_map.1 ho
   have:=Mq H (by omega) h.plc (List.mem_filter.1 he).1
   exact⟨rfl,this.1,this.2,rfl⟩) (by have:=Dh zs H (AY H (A5 zs)) (Bk H (A5 zs));omega) (fun a' o r' he=>by
   have ho:=(Ml he).1
   unfold AR at ho
   obtain⟨e,_,rfl⟩:=List.mem_map.1 ho
   exact .inl rfl)
 have p2:Iy n ⟨Cp zs H,Cp zs H,0⟩ (BB (Av (FD zs H (AY H (A5 zs)) (Bk H (A5 zs)))))/\DQ ⟨Cp zs H,Cp zs H,0⟩ (BB (Av (FD zs H (AY H (A5 zs)) (Bk H (A5 zs)))))=⟨Cp zs H,Cp zs H,0⟩:=by
  obtain⟨i1,i2⟩:=Ia n ⟨Cp zs H,Cp zs H,0⟩ (Av (FD zs H (AY H (A5 zs)) (Bk H (A5 zs)))) (fun o ho=>Vo ho);unfold BB;split
  ·exact⟨trivial,rfl⟩
  ·rw[E0,Ek,i2];exact⟨⟨i1,.inr (.inl ⟨rfl,rfl,rfl,rfl⟩),trivial⟩,rfl⟩
 obtain⟨p3,r3⟩:=Ia n ⟨Cp zs H,Cp zs H,0⟩ (Ah n (CH H (A5 zs))) (fun o ho=>by
  unfold Ah at ho
  obtain⟨f,hf,rfl⟩:=List.mem_map.1 ho
  obtain⟨hf1,hf2⟩:=List.mem_filter.1 hf
  have hf1:=List.mem_range.1 hf1
  obtain⟨t,ht,htf⟩:=FM.1 hf2
  have ht2:=List.mem_filter.1 ht
  have hno:∀q∈A5 (Cp zs H),q.fr≠(f:Int):=fun q hq he=>by
   obtain⟨k1,k2⟩:=BE.1 (hbrk q hq)
   have:=(Ke zs h.tree).eq k1 ht2.1 (he.trans htf.symm)
   subst this
   rw[k2] at ht2
   exact absurd ht2.2 (by simp)
  refine⟨by show (4:Int)≠1;decide,by show (4:Int)≠2;decide,.inr (.inr (.inr ⟨rfl,?_,?_,rfl,rfl,hno,hno⟩))⟩
  ·show (0:Int)<=(f:Nat);omega
  ·show ((f:Nat):Int)<n;omega)
 obtain⟨p4,r4⟩:=Je n (Cp zs H) (AK H (AY H (A5 zs)) (CM H (A5 zs))) (fun o ho=>by
   obtain⟨t,ht,i,hi,rfl⟩:=MP ho
   have:=h.all.fr t (List.mem_append_right _ ht)
   refine⟨rfl,?_,?_,rfl⟩
   ·show 0<=t.fr*16+(i:Nat);omega
   ·show t.fr*16+(i:Nat)<(n*16:Nat);omega) (by rw[DJ];omega) (fun a' o r' he=>by
   obtain⟨ho,hall⟩:=Ml he
   obtain⟨t,ht,i,hi,rfl⟩:=MP ho
   refine .inr (.inr (.inr (fun q hq=>?_)))
   have hq2:=Qw (B:=Cp zs H) (C:=Bu (Cp zs H) a') (CI _ _) (by rw[hbl];exact hn0) (fun q hq i hi=>h.fill_out _ a' hall (hbrk q hq) i hi) q hq
   have:=h.new_ne (hbrk q hq2) ht
   show q.fr≠(t.fr*16+(i:Nat))/16
   omega)
 obtain⟨p5,r5⟩:=Je n (Bu (Cp zs H) (AK H (AY H (A5 zs)) (CM H (A5 zs)))) (AZ zs H (AY H (A5 zs)) (Bk H (A5 zs))) (fun o ho=>by
   unfold AZ at ho
   obtain⟨e,he,rfl⟩:=List.mem_map.1 ho
   have:=Mq H (by omega) h.plc (List.mem_filter.1 he).1
   exact⟨rfl,this.1,this.2,rfl⟩) (by have:=Do zs H (AY H (A5 zs)) (Bk H (A5 zs));omega) (fun a' o r' he=>by
   obtain⟨ho,hall⟩:=Ml he
   unfold AZ at ho
   obtain⟨e,he1,rfl⟩:=List.mem_map.1 ho
   obtain⟨he2,he3⟩:=List.mem_filter.1 he1
   obtain⟨t,ht,i,hi,rfl⟩:=Im (by omega) h.plc he2
   obtain⟨hta,t0,t1⟩:=h.kfr ht
   have hl:=h.len
   by_cases hex:∃x∈a',x.kind=1/\x.a.toNat=(Bd t i).ad.toNat
   ·refine .inr (.inl ?_)
    symm
    refine Ic _ _ _ _ ?_ (fun x hx _ hxe=>?_) hex
    ·rw[CI,hbl]
     show (t.fr*16+(i:Nat)).toNat<_
     omega
    ·have hx2:=hall x hx
     unfold AZ at hx2
     obtain⟨e',hx3,rfl⟩:=List.mem_map.1 hx2
     obtain⟨u,hu,j,hj,rfl⟩:=Im (by omega) h.plc (List.mem_filter.1 hx3).1
     obtain⟨hua,u0,_⟩:=h.kfr hu
     obtain⟨rfl,rfl⟩:=In (n:=n) h.all.dis hua hta hj hi u0 t0 hxe
     rfl
   ·refine .inr (.inr (.inl ?_))
    show (Bu _ a').getD (Bd t i).ad.toNat 0%2=0
    rw[Ea _ _ _ (fun x hx hk hxe=>hex ⟨x,hx,hk,hxe⟩)]
    have e1:∀W:List Int,W.getD (Bd t i).ad.toNat 0=A7 W t.fr i:=fun W=>by
     unfold A7
     rw[<- P7 t.fr i t0]
     rfl
    rw[e1,h.fill_out (Cp zs H) _ (fun x hx=>hx) ht i hi,h.brk_at ht hi]
    by_cases hb:JT zs H (AY H (A5 zs)) (Bd t i)=true
    ·rw[if_pos hb];rfl
    ·rw[if_neg hb]
     have e2:IV zs (Bd t i).ad=A7 zs t.fr i:=e1 zs
     unfold JT at hb
     unfold SH at he3
     rw[e2] at hb he3
     simp at hb he3
     by_cases ho:A7 zs t.fr i%2=1
     ·exact absurd (hb ho).symm he3.2
     ·omega)
 unfold AO;have r1':DQ ⟨zs,zs,0⟩ (BB (AR zs H (AY H (A5 zs)) (Bk H (A5 zs))))=⟨Cp zs H,Cp zs H,0⟩:=r1;rw[E0,Ek,r1',E0,Ek,p2.2,E0,Ek,r3,E0,Ek,r4];exact⟨⟨p1,p2.1,p3,p4,p5⟩,r5⟩
theorem DP.ops {zs:List Int} {n:Nat} {H:Nat->Ht} (h:DP zs n H):(AO zs n H (A5 zs)).length<=20000:=by
 have hp:=h.pos;have hn2:=h.n2;have hel:(Bk H (A5 zs)).length<=4368:=by have:=Pj (AC H (A5 zs)) 4096;unfold Bk;omega
 have hnl:(CM H (A5 zs)).length<=273:=by
  have h1:=Er (AC H (A5 zs)) (AA H 256) (AA H 256).length (Nat.le_refl _);have h2:=Gd H 256;unfold CM;omega
 have hs:∀l:List Ay,(BB l).length<=l.length+1:=fun l=>by unfold BB;split<;>simp
 have b1:=Dh zs H (AY H (A5 zs)) (Bk H (A5 zs));have b5:=Do zs H (AY H (A5 zs)) (Bk H (A5 zs));have b4:=DJ H (AY H (A5 zs)) (CM H (A5 zs));have b3:=JL (CH H (A5 zs)) n;have b2:(Av (FD zs H (AY H (A5 zs)) (Bk H (A5 zs)))).length<=4096:=by
  have:∀(mk:Nat->Bool) (k:Nat),(BV mk 4096 k).length<=k:=fun mk k=>by
   induction k with
   | zero=>simp[BV]
   | succ k ih =>
    unfold BV at ih ⊢;rw[List.range_succ,List.flatMap_append,List.length_append];simp only[List.flatMap_cons,List.flatMap_nil,List.append_nil];split
    ·rw[List.length_singleton];omega
    ·rw[List.length_nil];omega
  unfold Av;rw[List.length_map];exact this _ _
 have s1:=hs (AR zs H (AY H (A5 zs)) (Bk H (A5 zs)));have s2:=hs (Av (FD zs H (AY H (A5 zs)) (Bk H (A5 zs))));have s4:=hs (AK H (AY H (A5 zs)) (CM H (A5 zs)));have s5:=hs (AZ zs H (AY H (A5 zs)) (Bk H (A5 zs)));unfold AO;simp only[List.length_append];omega
structure WQ (n:Nat) (s:YS):Prop where
 m:s.m.length=n*16
 l:s.l.length=n*16
 wm:Uw s.m
 wl:Uw s.l
theorem TA {n:Nat} {s:YS} {o:Ay} (h:WQ n s) (ho:o.kind=1->Tx o.word):WQ n (CL s o):=by
 unfold CL;split
 ·rename_i hk;have:=ho hk;exact⟨h.m,by rw[List.length_set];exact h.l,h.wm,h.wl.set _ _ this.1 this.2⟩
 ·split
  ·exact⟨h.l,h.l,h.wl,h.wl⟩
  ·exact h
theorem QT {n:Nat}:∀(l:List Ay) (s:YS),(∀o∈l,o.kind=1->Tx o.word)->WQ n s->WQ n (DQ s l)
 | [],s,_,h=>h
 | o :: l,s,ho,h=>QT l (CL s o) (fun x hx=>ho x (List.mem_cons_of_mem _ hx)) (TA h (ho o List.mem_cons_self))
theorem Up {n:Nat} {s:YS} {l:List Ay} (h:Iy n s l) (i:Nat) (hi:i<l.length):VK n (DQ s (l.take i)) (AI Az l i):=by
 have e:l=l.take i++(AI Az l i :: l.drop (i+1)):=by
  have h1:AI Az l i=l[i]:=by unfold AI;rw[List.getD_eq_getElem?_getD,List.getElem?_eq_getElem hi];rfl
  rw[h1,<- List.drop_eq_getElem_cons hi,List.take_append_drop]
 rw[e,E0] at h;exact h.2.1
theorem Kk {n:Nat} {zs:List Int} (hn1:1<=n) (hn:n<=512) (hl:zs.length=n*16) (hw:Uw zs):D3 zs:=⟨by
 unfold Ae;rw[if_neg (by omega)]
 omega,hw⟩
theorem IQ (g c b bo n:Nat) (zs:List Int) (H:Nat->Ht) (ao:Option Addr) (co:Nat) (ae:Option Addr) (ce:Nat) (w:World) (h:DP zs n H) (hw:Uw zs) (hr:A6 Aa w b (.slice (some ⟨g,0,none⟩) zs.length c) zs) (hops:A6 Az w bo (.slice ao (AO zs n H (A5 zs)).length co) (AO zs n H (A5 zs))) : Calls Tryz.prog 14 #[.agg #[.slice (some ⟨g,0,none⟩) zs.length c,.slice none 0 0,.slice none 0 0,.slice none 0 0],.slice ao (AO zs n H (A5 zs)).length co,.slice ae 0 ce] w fun e w'=>KI w (Bu zs (AO zs n H (A5 zs))) (AO zs n H (A5 zs)).length e w':=by
 have hp:=h.pos;have hn:=h.n2;have hl:=h.len;have hok:=Ja zs n H (A5 zs);obtain⟨a1,a2⟩:=h.acc
 have t:=R5 g c b bo zs ao co (AO zs n H (A5 zs)) ae ce w (Kk hp hn hl hw) hr h.ops hops (fun b0 gu g1 c1 g2 c2 i hi wX a3' c3' P' hX=>by
  have hy:=Up a1 i hi
  have hwf:=QT ((AO zs n H (A5 zs)).take i) ⟨zs,zs,0⟩ (fun o ho=>hok o (List.mem_of_mem_take ho)) (⟨hl,hl,hw,hw⟩:WQ n ⟨zs,zs,0⟩)
  have hm:AI Az (AO zs n H (A5 zs)) i∈AO zs n H (A5 zs):=by
   unfold AI
   rw[List.getD_eq_getElem?_getD,List.getElem?_eq_getElem hi]
   exact List.getElem_mem hi
  have hwd:0<=(AI Az (AO zs n H (A5 zs)) i).word/\(AI Az (AO zs n H (A5 zs)) i).word<18446744073709551616:=by
   rcases hy with⟨e,_⟩|⟨_,_,_,e⟩|⟨_,_,_,_,e⟩|⟨_,_,_,_,e,_⟩
   ·exact hok _ hm e
   ·rw[e];exact⟨by decide,by decide⟩
   ·rw[e];exact⟨by decide,by decide⟩
   ·rw[e];exact⟨by decide,by decide⟩
  exact Ps gu b0 _ g1 c1 g2 c2 a3' c3' P' _ n wX hn hwf.l (Kk hp hn hwf.m hwf.wm) (Kk hp hn hwf.l hwf.wl) hy hwd.1 hwd.2 hX)
 rw[a2] at t;exact t
structure VT (xs:List AF) (fr:Int) (A:List Int):Prop where
 v:Eh xs=true
 f:1<=fr/\fr<=512
 l:(A.length:Int)=fr*16
 w:∀i,0<=A.getD i 0/\A.getD i 0<2 ^ 64
 t:BO A=true
 c:((A5 A).length:Int)=RJ xs
 h:∀p:Nat,p<4096->FO A p=⟨(F4 xs p).k,(F4 xs p).o,(F4 xs p).p,(F4 xs p).s⟩
theorem TM (xs:List AF) (fr:Int) (h:(An xs fr).2=0):VT xs fr (An xs fr).1:=by
 unfold An at h ⊢;split at h
 ·cases h
 ·rename_i hv;have hv':Eh xs=true:=by simpa using hv
  rw[if_neg hv];split at h
  ·cases h
  ·rename_i hf;rw[if_neg hf];split at h
   ·cases h
   ·rename_i hp;rw[if_neg hp];(have hp0:(BU (Ap fr.toNat) xs).2=0:=by simpa using hp);obtain⟨p1,p2,p3⟩:=Fk hp0;(obtain⟨F,hF⟩:∃F:Nat,fr.toNat=F:=⟨_,rfl⟩);rw[hF] at p1 p3 ⊢;(have hfr:fr=(F:Int):=by omega);have hn:Ae (Ap F).length=(F:Int):=by
     rw[Ch];unfold Ae;rw[if_neg (by omega)];omega
    rw[EU p1 p2 p3,hn];rw[hn] at p3;have hvs:=VS.of_true hv';have hok:=KY (zs:=Ap F) (n:=F) (Qq hvs (fun p hp=>Hf xs p hp)) hn (by omega) p1 (by omega);show VT xs fr (Bu (Ap F) (AO (Ap F) F (lay xs) (A5 (Ap F))));refine⟨hv',by omega,?_,?_,hok.tree,?_,fun p hp=>?_⟩
    ·rw[CI,Ch,hfr];omega
    ·exact Qu _ _ (Ja _ _ _ _) (fun i=>by rw[FI];exact⟨by decide,by decide⟩)
    ·rw[hok.count,Ql hv']
    ·rw[hok.walk p hp,Hf xs p hp];unfold F4;rw[if_pos ⟨hv',by omega,by omega⟩]
theorem Oj (xs:List AF) (fr:Int) (h:(An xs fr).2=0):((AA (lay xs) 256).length:Int)<=fr:=by
 unfold An at h;split at h
 ·cases h
 ·split at h
  ·cases h
  ·rename_i hf;split at h
   ·cases h
   ·rename_i hp;(have hp0:(BU (Ap fr.toNat) xs).2=0:=by simpa using hp);obtain⟨_,_,p3⟩:=Fk hp0;have hn:Ae (Ap fr.toNat).length=fr:=by
     rw[Ch];unfold Ae;rw[if_neg (by omega)];omega
    rw[hn] at p3;omega
structure J7 (n:Nat) (Z:List Int):Prop where
 t:BO Z=true
 f:Ae Z.length=n
 w:Uw Z
 n1:1<=n
structure IH (n:Nat) (Z:List Int) (xs:List AF):Prop where
 p:BU Z xs=(AO Z n (lay xs) (A5 Z),0)
 c:DP Z n (lay xs)
 g:J7 n (Bu Z (AO Z n (lay xs) (A5 Z)))
 h:∀p:Nat,p<4096->FO (Bu Z (AO Z n (lay xs) (A5 Z))) p=⟨(F4 xs p).k,(F4 xs p).o,(F4 xs p).p,(F4 xs p).s⟩
 e:BU (Bu Z (AO Z n (lay xs) (A5 Z))) xs=([],0)
 l:(Bu Z (AO Z n (lay xs) (A5 Z))).length=Z.length
theorem OY {n:Nat} {Z:List Int} {xs:List AF} (hg:J7 n Z) (hv:Eh xs=true) (hr:(AA (lay xs) 256).length<=n):IH n Z xs:=by
 have hn1:=hg.n1;have hT:(Ae Z.length).toNat=n:=by rw[hg.f];rfl
 have hvs:=VS.of_true hv;have hlay:=Qq hvs (fun p hp=>Hf xs p hp);have hok:=KY (zs:=Z) (n:=n) hlay hg.f hn1 hg.t hr;have hlen:(Bu Z (AO Z n (lay xs) (A5 Z))).length=Z.length:=CI _ _;refine⟨?_,⟨hlay,hg.f,hn1,hg.t,hr,fun i=>(hg.w i).1⟩,⟨hok.tree,by rw[hlen];exact hg.f,Qu _ _ (Ja _ _ _ _) hg.w,hn1⟩,fun p hp=>?_,?_,hlen⟩
 ·rw[EU hg.t hv (by rw[hg.f];omega),hT]
 ·rw[hok.walk p hp,Hf xs p hp];unfold F4;rw[if_pos ⟨hv,by omega,by omega⟩]
 ·rw[EU hok.tree hv (by rw[hlen,hg.f];omega),hlen,hT,hok.plan_none]
theorem R4 {ra rb:List AF×Int×Int} {rc:List Int×Int} {rd:List Ay×Int} (ha:0<=ra.2.1) (hb:0<=rb.2.1) (hc:0<=rc.2) (hd:0<=rd.2) (h:(Eu ra rb rc rd).2.1=0):ra.2.1=0/\rb.2.1=0/\rc.2=0/\rd.2=0:=by
 unfold Eu at h;by_cases h1:ra.2.1=0
 ·rw[if_neg (fun hh=>hh h1)] at h;by_cases h2:rb.2.1=0
  ·rw[if_neg (fun hh=>hh h2)] at h;by_cases h3:rc.2=0
   ·rw[if_neg (fun hh=>hh h3)] at h;by_cases h4:rd.2=0
    ·exact⟨h1,h2,h3,h4⟩
    ·rw[if_pos h4] at h;dsimp only at h;omega
   ·rw[if_pos h3] at h;dsimp only at h;omega
  ·rw[if_pos h2] at h;dsimp only at h;omega
 ·rw[if_pos h1] at h;dsimp only at h;omega
end Go.Proofs.YtnmhkgmmpkjjeaaGreat
