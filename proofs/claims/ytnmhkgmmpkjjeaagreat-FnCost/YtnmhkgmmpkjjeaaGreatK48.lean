import Derived.Test.YtnmhkgmmpkjjeaaGreatK43
import Derived.Test.YtnmhkgmmpkjjeaaGreatK19
import Derived.Test.YtnmhkgmmpkjjeaaGreatK47
namespace Go.Proofs.YtnmhkgmmpkjjeaaGreat
open Go.ChangeShapes Go.WideShapes Go.ChangeAt Go.RowKit
set_option linter.unusedVariables false
set_option linter.unusedSimpArgs false
set_option maxRecDepth 100000
def Dk (n:Nat) (l:List BP):Prop:=∀o∈l,o.kind=1->0<=o.a/\o.a<n
theorem Dk.app {n:Nat} {l m:List BP} (h1:Dk n l) (h2:Dk n m):Dk n (l++m):=fun o ho=>(List.mem_append.1 ho).elim (h1 o) (h2 o)
theorem Dk.seal {n:Nat} {l:List BP} (h:Dk n l):Dk n (BG l):=by
 unfold BG;split
 ·intro o ho;cases ho
 ·refine h.app (fun o ho hk=>?_);rw[List.mem_singleton] at ho;subst ho;cases hk
theorem Uj {n:Nat} {ps:List P3} (H:Nat->Ht) (hn:0<n) (h:BO n ps) {e:En} (he:e∈CE H ps):0<=e.ad/\e.ad<(n*16:Nat):=by
 obtain⟨page,lv,hp,h1,h3,hmod,e1,e2,h0,e3⟩:=GR he;have hf:=N7 H hn h lv (page-page%(Ao lv*16):Nat);have hm:page/Ao lv%16<16:=Nat.mod_lt _ (by decide);rw[e3];omega
theorem Un {xs:List A9} {zs:List Int} {n:Nat} {ps:List P3} (hn:0<n) (h:BO n ps) (hw:(AC (lay xs) 256).length<=n):Dk (n*16) (C8 zs n (lay xs) ps):=by
 unfold C8;refine Dk.app (Dk.seal (fun o ho hk=>?_)) (Dk.app (Dk.seal (fun o ho hk=>?_)) (Dk.app (fun o ho hk=>?_) (Dk.app (Dk.seal (fun o ho hk=>?_)) (Dk.seal (fun o ho hk=>?_)))))
 ·unfold AX at ho;obtain⟨e,he,rfl⟩:=List.mem_map.1 ho;exact Uj (lay xs) hn h (List.mem_filter.1 he).1
 ·unfold BB at ho;obtain⟨e,he,rfl⟩:=List.mem_map.1 ho;cases hk
 ·unfold Al at ho;obtain⟨e,he,rfl⟩:=List.mem_map.1 ho;cases hk
 ·unfold AM at ho;obtain⟨t,ht,ho⟩:=List.mem_flatMap.1 ho;unfold Ak at ho;obtain⟨i,hi,rfl⟩:=List.mem_map.1 ho;obtain⟨F,lv,pg,rfl,_,_,_,_,_,hF⟩:=Gv hn h hw (List.mem_append_right _ ht);have:=List.mem_range.1 hi;show 0<=(F:Int)*16+(i:Nat)/\(F:Int)*16+(i:Nat)<_;omega
 ·unfold Af at ho;obtain⟨e,he,rfl⟩:=List.mem_map.1 ho;exact Uj (lay xs) hn h (List.mem_filter.1 he).1
theorem Ol (zs:List Int) (xs:List A9):Dk zs.length (Bt zs xs).1:=by
 by_cases hpt:BM zs=true
 ·by_cases hvb:FE xs=true
  ·by_cases hfr:An zs.length<((AC (lay xs) 256).length:Nat)
   ·rw[IR hpt hvb hfr];intro o ho;cases ho
   ·rw[Ff hpt hvb hfr];have hnf:=EZ hpt;obtain⟨hnm,hn1⟩:=C5 zs.length hnf;(obtain⟨n,hnn⟩:∃n:Nat,An zs.length=n:=⟨(An zs.length).toNat,by omega⟩);(have hpo:BO n (A8 zs):=by rw[<- hnn];exact GW zs hnf);(have hT:(An zs.length).toNat=n:=by rw[hnn];rfl);rw[hT];have:=Un (xs:=xs) (zs:=zs) (n:=n) (ps:=A8 zs) (by omega) hpo (by omega);rwa [show n*16=zs.length by omega] at this
  ·(have hvb':FE xs=false:=by simpa using hvb);rw[Iq hpt hvb'];intro o ho;cases ho
 ·have hpt':BM zs=false:=by simpa using hpt
  rw[IK hpt'];intro o ho;cases ho
theorem LV (zs:List Int) (xs:List A9):(Bt zs xs).1.length<=200000:=by
 by_cases hpt:BM zs=true
 ·by_cases hvb:FE xs=true
  ·by_cases hfr:An zs.length<((AC (lay xs) 256).length:Nat)
   ·rw[IR hpt hvb hfr];exact Nat.zero_le _
   ·rw[Ff hpt hvb hfr];have hnl:=Ek zs.length;have hn0:=(C5 zs.length (EZ hpt)).2;have hlen:(DD (lay xs) (A8 zs)).length<=(AC (lay xs) 256).length:=Gn (AA (lay xs) (A8 zs)) (AC (lay xs) 256) _ (Nat.le_refl _);have:=Kj zs (lay xs) (An zs.length).toNat (AA (lay xs) (A8 zs)) (Cr (lay xs) (A8 zs)) (DD (lay xs) (A8 zs)) (by have:=Nw (Cr (lay xs) (A8 zs)) (An zs.length).toNat;omega) (by omega) 5;rw[MW] at this;show (C8 zs (An zs.length).toNat (lay xs) (A8 zs)).length<=200000;omega
  ·(have hvb':FE xs=false:=by simpa using hvb);rw[Iq hpt hvb'];exact Nat.zero_le _
 ·have hpt':BM zs=false:=by simpa using hpt
  rw[IK hpt'];exact Nat.zero_le _
def BU (F:Nat):List Int:=List.replicate (F*16) 0
theorem FZ (F:Nat):(BU F).length=F*16:=by unfold BU;simp
theorem GT (F i:Nat):(BU F).getD i 0=0:=by
 unfold BU;rw[List.getD_eq_getElem?_getD,List.getElem?_replicate];split<;>rfl
def Dq (xs:List A9) (fr:Int):List Int×Int :=
 if FE xs=false then ([],1) else if fr<1\/512<fr then ([],2) else if (Bt (BU fr.toNat) xs).2≠0 then ([],3)
 else (EQ (BU fr.toNat) (Bt (BU fr.toNat) xs).1,0)
theorem Q9 (xs:List A9) (fr:Int):(Dq xs fr).1.length<=8192:=by
 unfold Dq;split
 ·exact Nat.zero_le _
 ·split
  ·exact Nat.zero_le _
  ·split
   ·exact Nat.zero_le _
   ·show (EQ _ _).length<=8192;rw[E7,FZ];omega
def H0 (w:World) (r:List Int×Int) (e:Ending) (w':World):Prop :=
 ∃a c,e=.returned (.tuple #[.agg #[.slice a r.1.length c],.int .i64 r.2])/\A6 Ag w' w.heap.size (.slice a r.1.length c) r.1/\Below w.heap.size w w'
theorem Rv (w:World) (B:Nat):A6 Ag w B (.slice none 0 0) []:=⟨by simp[AK],.inl ⟨rfl,rfl⟩⟩
theorem CQ.put {w:World} {g k:Nat} {zs:List Int} {x:Int} (h:CQ w g zs):CQ (w.setCell ⟨g,k,none⟩ (.int .u64 x)) g (zs.set k x):=by
 unfold CQ at h ⊢;rw[List.length_set];refine(World.rowIs.set h k (.int .u64 x)).congr (fun i hi=>?_);rw[List.getD_eq_getElem?_getD,List.getD_eq_getElem?_getD,List.getElem?_set];by_cases e:i=k
 ·rw[if_pos e,if_pos e.symm,if_pos (by omega)];rfl
 ·rw[if_neg e,if_neg (fun e2=>e e2.symm)]
theorem CQ.tch {w w':World} {g:Nat} {zs:List Int} {S:Nat->Prop} (h:CQ w g zs) (hg:BJ S w w') (hn:¬S g):CQ w' g zs:=World.rowIs.of_block h (hg.block g h.lt hn)
theorem Ky {w:World} {b g c n:Nat} {xs:List BP} (h:A6 Ba w b (.slice (some ⟨g,0,none⟩) n c) xs) (i:Nat) (hi:i<xs.length):g<w.heap.size/\w.cell? ⟨g,i*4,none⟩=some (.int .i64 (AI Ba xs i).kind)/\w.cell? ⟨g,i*4+1,none⟩=some (.int .i64 (AI Ba xs i).a)/\w.cell? ⟨g,i*4+2,none⟩=some (.int .i64 (AI Ba xs i).b)/\w.cell? ⟨g,i*4+3,none⟩=some (.int .u64 (AI Ba xs i).word):=by
 obtain⟨a,c',e,h1⟩:=h.form;obtain⟨g',N,f,e2,_,hr,hN,hf⟩:=h1 (by omega);have hN':xs.length*4<=N:=hN;simp only[Value.slice.injEq] at e;obtain⟨e,_,_⟩:=e;rw[e2] at e;simp only[Option.some.injEq,Addr.mk.injEq,and_true] at e;subst e;have a0:f (i*4+0)=CO Ba xs i 0:=hf i hi 0 (by decide);have a1:f (i*4+1)=CO Ba xs i 1:=hf i hi 1 (by decide);have a2:f (i*4+2)=CO Ba xs i 2:=hf i hi 2 (by decide);have a3:f (i*4+3)=CO Ba xs i 3:=hf i hi 3 (by decide);exact⟨hr.lt,(hr.cell (by omega)).trans (congrArg some a0),(hr.cell (by omega)).trans (congrArg some a1),(hr.cell (by omega)).trans (congrArg some a2),(hr.cell (by omega)).trans (congrArg some a3)⟩
theorem Tx (all:List St) (n:Ap):(Bd all n∈all/\(Bd all n).kind=1)\/Bd all n=AR:=by
 induction all with
 | nil=>exact .inr rfl
 | cons e r ih =>
  unfold Bd;split
  ·rename_i h;unfold Ei at h;simp at h;exact .inl ⟨by simp,h.1⟩
  ·rcases ih with h|h
   ·exact .inl ⟨List.mem_cons_of_mem _ h.1,h.2⟩
   ·exact .inr h
theorem VE (ts:List Ap) (h:(CR ts).kind=2):1<=(CR ts).perm:=by
 unfold CR at h ⊢;split at h
 ·exact absurd h (by decide)
 ·rename_i h0;rw[if_neg h0];split at h
  ·exfalso;unfold Ss at h;(repeat' split at h);all_goals exact absurd h (by simp[AR])
  ·rename_i h1;rw[if_neg h1];split at h
   ·rename_i h2;rw[if_pos h2];unfold Sx at h ⊢;split at h
    ·exact absurd h (by decide)
    ·rename_i h3;rw[if_neg h3];split at h
     ·exact absurd h (by decide)
     ·rename_i h4;rw[if_neg h4];have:=Kg (EF ts 3);show 1<=Dn (EF ts 3);omega
   ·exfalso;unfold TZ at h;(repeat' split at h);all_goals exact absurd h (by simp[AR])
structure Yl (all:List St):Prop where
 s:∀e∈all,EO e
 o:∀e∈all,e.kind=1->e.b+e.a<=65536
 p:∀e∈all,e.kind=2->1<=e.perm
theorem Tp {all:List St} (h:Yl all) {k:Nat} (hk:k<4096) (hc:(BY all (k:Nat)).count=1):AY (BY all (k:Nat))=true/\(BY all (k:Nat)).page=k:=by
 unfold BY at hc ⊢;cases hf:all.find? (O6 all (k:Nat)) with
 | none=>rw[hf] at hc;cases hc
 | some s =>
  have hm:=List.mem_of_find?_eq_some hf;have hi:=List.find?_some hf;unfold O6 at hi;simp at hi;obtain⟨i1,i2,i3⟩:=hi;have p1:=h.p s hm i1;have p7:=(h.s s hm).p1;rw[Av];show (1<=(1:Int)/\0<=(k:Int)/\(k:Int)+1<=4096/\0<=(Bd all s.name).b+k-s.a/\(Bd all s.name).b+k-s.a+1<=65536/\1<=s.perm/\s.perm<=7)/\(k:Int)=k;rcases Tx all s.name with⟨ho,h1⟩|ho
  ·have:=h.o _ ho h1;have:=(h.s _ ho).b0;omega
  ·rw[ho] at i3;have:AR.a=0:=rfl;omega
def UD (out:List A9):Int:=(CZ out).page+(CZ out).count
theorem KH (out:List A9) (r:A9) (i:Nat) (h:i<out.length):AI A7 (out++[r]) i=AI A7 out i:=by
 unfold AI;rw[List.getD_eq_getElem?_getD,List.getD_eq_getElem?_getD,List.getElem?_append_left h]
theorem Ml (out:List A9) (r:A9):AI A7 (out++[r]) out.length=r:=by
 unfold AI;rw[List.getD_eq_getElem?_getD];simp
theorem Oi {all:List St} (h:Yl all):∀k,k<=4096->VS (AZ all k)/\(0<(AZ all k).length->UD (AZ all k)<=k)
 | 0,_=>⟨⟨fun i hi=>absurd hi (Nat.not_lt_zero _),fun i hi=>absurd hi (Nat.not_lt_zero _)⟩,fun h0=>absurd h0 (Nat.not_lt_zero _)⟩
 | k+1,hk=>by
  obtain⟨ho,he⟩:=Oi h k (by omega);show VS (CK (AZ all k) (BY all (k:Nat)))/\(0<(CK (AZ all k) (BY all (k:Nat))).length->UD (CK (AZ all k) (BY all (k:Nat)))<=((k+1:Nat):Int));have hpc:=Tp h (k:=k) (by omega);generalize BY all (k:Nat)=r at *;generalize AZ all k=out at *;unfold CK;by_cases hc:r.count=1
  ·obtain⟨hr,hp⟩:=hpc hc;rw[if_pos hc];by_cases hj:0<out.length/\BX (CZ out) r=true
   ·rw[if_pos hj];have hj2:=hj.2;unfold BX at hj2;simp at hj2;obtain⟨j1,j2,j3,j4⟩:=hj2;refine⟨⟨fun i hi=>?_,fun i hi=>?_⟩,fun _=>?_⟩
    ·rw[List.length_set] at hi;rw[J6 hi];split
     ·have h1:=ho.1 (out.length-1) (by omega);have e:AI A7 out (out.length-1)=CZ out:=rfl;rw[e,Av] at h1;rw[Av] at hr ⊢;unfold SC;dsimp only;omega
     ·exact ho.1 i hi
    ·rw[List.length_set] at hi;rw[J6 (by omega),J6 hi,if_neg (by omega)];have hp:=ho.2 i hi;split
     ·rename_i e;(have e2:AI A7 out (i+1)=CZ out:=by unfold CZ;rw[<- e]);rw[e2] at hp;unfold Cq BX at hp ⊢;unfold SC;exact hp
     ·exact hp
    ·unfold UD CZ AI;rw[List.length_set,List.getD_eq_getElem?_getD,List.getElem?_set_self (by omega)];show (CZ out).page+((CZ out).count+1)<=_;omega
   ·rw[if_neg hj];refine⟨⟨fun i hi=>?_,fun i hi=>?_⟩,fun _=>?_⟩
    ·rw[List.length_append,List.length_singleton] at hi;by_cases hh:i<out.length
     ·rw[KH out r i hh];exact ho.1 i hh
     ·(obtain rfl:i=out.length:=by omega);rw[Ml];exact hr
    ·rw[List.length_append,List.length_singleton] at hi;by_cases hh:i+1<out.length
     ·rw[KH out r i (by omega),KH out r (i+1) hh];exact ho.2 i hh
     ·(have e:i+1=out.length:=by omega);rw[e,Ml,KH out r i (by omega)];(have e2:AI A7 out i=CZ out:=by unfold CZ;rw[<- e];rfl);rw[e2];have h1:=he (by omega);have h2:BX (CZ out) r=false:=by
       cases hcc:BX (CZ out) r
       ·rfl
       ·exact absurd ⟨by omega,hcc⟩ hj
      unfold UD at h1;unfold Cq;rw[h2];simp;omega
    ·(have e:CZ (out++[r])=r:=by unfold CZ;rw[List.length_append,List.length_singleton];exact Ml out r);unfold UD;rw[e,hp,hc];omega
  ·rw[if_neg hc];exact⟨ho,fun h0=>by have:=he h0;omega⟩
theorem Is:VS []:=⟨fun i hi=>absurd hi (Nat.not_lt_zero _),fun i hi=>absurd hi (Nat.not_lt_zero _)⟩
theorem WH (ts:List Ap) (es:List Nat):VS (JU ts es).1:=by
 unfold JU;cases hf:(List.range es.length).find? (fun k=>!(EA ts es k==0)) with
 | some k=>exact Is
 | none =>
  dsimp only;split
  ·exact Is
  ·refine(Oi ⟨Gm ts es es.length,fun e he hk=>?_,fun e he hk=>?_⟩ 4096 (Nat.le_refl _)).1
   ·unfold Dm at he;obtain⟨i,hi,rfl⟩:=List.mem_map.1 he;have:=List.find?_eq_none.1 hf i hi;simp at this;unfold EA Be at this;rw[hk] at this;simp at this;by_cases h1:(Bd (Dm ts es i) (Xk ts es i).name).kind=1
    ·rw[if_pos h1] at this;cases this
    ·rw[if_neg h1] at this;by_cases h2:(Xk ts es i).a=0\/65536<(Xk ts es i).b+(Xk ts es i).a
     ·rw[if_pos h2] at this;cases this
     ·omega
   ·unfold Dm at he;obtain⟨i,hi,rfl⟩:=List.mem_map.1 he;exact VE _ hk
theorem VO (l:Ap):VS (GO l).1:=by
 unfold GO K6;split
 ·exact Is
 ·split
  ·exact Is
  ·split
   ·exact Is
   ·exact WH _ _
theorem Lz (H:Nat->Ht):∀g,(AC H g).length<=1+g+(g+15)/16
 | 0=>by simp[AC]
 | g+1=>by
  rw[Gw,List.length_append];have:=Lz H g;have h0:=KF H (g*16);unfold ER;rw[List.length_append];split
  ·rename_i hg;have:=hg.1;simp only[List.length_singleton];omega
  ·simp only[List.length_nil];omega
theorem Pk (F:Nat) (h:An (BU F).length≠0):A8 (BU F)=[⟨0,1,0⟩]:=by
 unfold A8;rw[if_neg h];unfold As Ah;have e:∀i,De (BU F) (An (BU F).length) ⟨0,1,0⟩ i=false:=fun i=>by
  unfold De AG;rw[GT];rfl
 simp[e]
theorem Sq (F:Nat) (h:An (BU F).length≠0):BM (BU F)=true:=by
 unfold BM;rw[Pk F h];have e:∀i,Cp (BU F) (An (BU F).length) ⟨0,1,0⟩ i=true:=fun i=>by
  unfold Cp AG;rw[GT];rfl
 have hs:Cd (BU F) (An (BU F).length) ⟨0,1,0⟩=true:=by
  unfold Cd;rw[List.all_eq_true];exact fun i _=>e i
 have hp:Ai [(⟨0,1,0⟩:P3)] 0=⟨0,1,0⟩:=rfl;simp[Bj,Ec,h,hp,hs]
theorem Sb {xs:List A9} {fr:Int} (hv:VS xs) (h1:Mx xs<=fr) (h2:fr<=512):(Dq xs fr).2=0:=by
 have hvb:=KZ hv;rw[Re hvb] at h1;have hw:1<=(AC (lay xs) 256).length:=by unfold AC;simp
 obtain⟨F,rfl⟩:∃F:Nat,fr=F:=⟨fr.toNat,by omega⟩
 have hn:An (BU F).length=(F:Int):=by
  rw[FZ];unfold An;rw[if_neg (by omega)];omega
 unfold Dq;rw[if_neg (by rw[hvb];simp),if_neg (by omega),if_neg];show ¬(Bt (BU F) xs).2≠0;rw[Ff (Sq F (by omega)) hvb (by omega)];simp
theorem JJ (xs:List A9):0<=Mx xs/\Mx xs<=273:=by
 unfold Mx;split
 ·exact⟨by omega,by have:=Lz (lay xs) 256;omega⟩
 ·exact⟨by omega,by omega⟩
def XE (x:Int):Prop:=0<=x/\x<2 ^ 64
theorem Xz (l k o p:Int):XE (Am l k o p):=by
 unfold Am XE;split
 ·rename_i h;unfold Cf;split<;>omega
 ·omega
theorem Wr (H:Nat->Ht) (all:List P3) (lv pg:Int):XE (C6 H all lv pg):=by
 unfold C6;repeat' split
 all_goals first|exact Xz _ _ _ _|exact⟨by omega,by omega⟩
def GS (l:List BP):Prop:=∀o∈l,o.kind=1->XE o.word
theorem GS.app {l m:List BP} (h1:GS l) (h2:GS m):GS (l++m):=fun o ho=>(List.mem_append.1 ho).elim (h1 o) (h2 o)
theorem GS.seal {l:List BP} (h:GS l):GS (BG l):=by
 unfold BG;split
 ·intro o ho;cases ho
 ·refine h.app (fun o ho hk=>?_);rw[List.mem_singleton] at ho;subst ho;cases hk
theorem RI (zs:List Int) (n:Nat) (H:Nat->Ht) (ps:List P3):GS (C8 zs n H ps):=by
 unfold C8;refine GS.app (GS.seal (fun o ho hk=>?_)) (GS.app (GS.seal (fun o ho hk=>?_)) (GS.app (fun o ho hk=>?_) (GS.app (GS.seal (fun o ho hk=>?_)) (GS.seal (fun o ho hk=>?_)))))
 ·unfold AX at ho;obtain⟨e,he,rfl⟩:=List.mem_map.1 ho;exact(show XE 0 from ⟨by decide,by decide⟩)
 ·unfold BB at ho;obtain⟨e,he,rfl⟩:=List.mem_map.1 ho;cases hk
 ·unfold Al at ho;obtain⟨e,he,rfl⟩:=List.mem_map.1 ho;cases hk
 ·unfold AM at ho;obtain⟨t,ht,ho⟩:=List.mem_flatMap.1 ho;unfold Ak at ho;obtain⟨i,hi,rfl⟩:=List.mem_map.1 ho;exact Wr _ _ _ _
 ·unfold Af at ho;obtain⟨e,he,rfl⟩:=List.mem_map.1 ho;exact Wr _ _ _ _
theorem Uq:∀(l:List BP) (zs:List Int),GS l->(∀i,XE (zs.getD i 0))->∀i,XE ((EQ zs l).getD i 0)
 | [],zs,_,hz=>hz
 | o :: l,zs,hl,hz=>by
  show ∀i,XE ((EQ (Mg zs o) l).getD i 0)
  refine Uq l (Mg zs o) (fun o' ho'=>hl o' (List.mem_cons_of_mem _ ho')) (fun i=>?_);unfold Mg;split
  ·rename_i hk;have:=hl o List.mem_cons_self hk;rw[List.getD_eq_getElem?_getD,List.getElem?_set];split
   ·split
    ·exact this
    ·exact⟨by decide,by decide⟩
   ·have:=hz i;rw[List.getD_eq_getElem?_getD] at this;exact this
  ·exact hz i
theorem Km {zs:List Int} {xs:List A9} (h:(Bt zs xs).2=0):BM zs=true/\FE xs=true/\¬An zs.length<((AC (lay xs) 256).length:Nat):=by
 by_cases h1:BM zs=true
 ·by_cases h2:FE xs=true
  ·by_cases h3:An zs.length<((AC (lay xs) 256).length:Nat)
   ·rw[IR h1 h2 h3] at h;cases h
   ·exact⟨h1,h2,h3⟩
  ·rw[Iq h1 (by simpa using h2)] at h;cases h
 ·rw[IK (by simpa using h1)] at h;cases h
theorem RM (xs:List A9) (fr:Int) (h:(Dq xs fr).2=0):0<(Dq xs fr).1.length/\∀i,0<=(Dq xs fr).1.getD i 0/\(Dq xs fr).1.getD i 0<2 ^ 64:=by
 unfold Dq at h ⊢;split at h
 ·cases h
 ·rename_i hv;rw[if_neg hv];split at h
  ·cases h
  ·rename_i hf;rw[if_neg hf];split at h
   ·cases h
   ·rename_i hp;rw[if_neg hp];(have hp0:(Bt (BU fr.toNat) xs).2=0:=by simpa using hp);obtain⟨p1,p2,p3⟩:=Km hp0;rw[Ff p1 p2 p3];refine⟨?_,?_⟩
    ·show 0<(EQ _ _).length;rw[E7,FZ];omega
    ·exact Uq _ _ (RI _ _ _ _) (fun i=>by rw[GT];exact⟨by decide,by decide⟩)
def OM (xs:List A9) (p:Nat):DH:=⟨(QH xs (p:Nat)).k,(QH xs (p:Nat)).o,(QH xs (p:Nat)).p,(QH xs (p:Nat)).s⟩
def Yt (zs:List Int) (xs:List A9) (p:Nat):Bool:=!FU (BT zs p) (OM xs p)
def dR (zs:List Int) (xs:List A9):Nat->Nat
 | 0=>0
 | k+1=>dR zs xs k+bn (Yt zs xs k)
theorem UP (zs:List Int) (xs:List A9):∀k,dR zs xs k<=k
 | 0=>Nat.le_refl _
 | k+1=>by have:=UP zs xs k;have:=KL (Yt zs xs k);show dR zs xs k+_<=_;omega
def YJ (zs:List Int) (xs:List A9) (p:Nat):Bool:=FU (BT zs p) (OM xs p)&&decide ((OM xs p).kind=1)
structure QR (zs:List Int) (xs:List A9) (l:List BP) (A:List Int):Prop where
 i:Dk zs.length l
 w:O5 A
 len:A.length=zs.length
 h:∀p:Nat,p<4096->BT A p=OM xs p
 c:nK 1 l<=2*dR zs xs 4096+(wT (A8 A) (A8 zs)+wT (A8 zs) (A8 A))+16*wT (A8 A) (A8 zs)
 d:nK 2 l<=4
 t:∀o∈l,o.kind=3->∃a b:Nat,o.a=a/\o.b=b/\1<=b/\a+b<=4096/\∀k,k<b->YJ zs xs (a+k)=false
theorem Va {zs:List Int} {xs:List A9} (hw:O5 zs) (h:(Bt zs xs).2=0):QR zs xs (Bt zs xs).1 (EQ zs (Bt zs xs).1):=by
 have hin:=Ol zs xs;obtain⟨p1,p2,p3⟩:=Km h;rw[Ff p1 p2 p3] at hin ⊢;have hnf:=EZ p1;obtain⟨_,hn1⟩:=C5 zs.length hnf;obtain⟨n,hnn⟩:∃n:Nat,An zs.length=n:=⟨(An zs.length).toNat,by omega⟩
 have hT:(An zs.length).toNat=n:=by rw[hnn];rfl
 rw[hT] at hin ⊢;dsimp only at hin ⊢;have hvs:=VS.of_true p2;have hlay:=VA hvs (fun p hp=>LU xs p hp);have hok:=QD (zs:=zs) (n:=n) hlay hnn (by omega) p1 (by omega);have hc:B6 zs n (lay xs):=⟨hlay,hnn,by omega,p1,by omega,fun i=>(hw i).1⟩;have hat:∀p:Nat,p<4096->Lj (lay xs p)=OM xs p:=fun p hp=>by
  unfold OM Lj QH;rw[if_pos ⟨p2,by omega,by omega⟩,LU xs p hp]
 have hd:∀k,k<=4096->Yp zs (lay xs) k=dR zs xs k:=by
  intro k;induction k with
  | zero=>intro _;rfl
  | succ k ih =>
   intro hk;show sm _ k+_=dR zs xs k+_;rw[<- ih (by omega)];unfold Yp Vp Yt;rw[<- hat k (by omega)]
 refine⟨hin,Uq _ _ (RI _ _ _ _) hw,E7 _ _,fun p hp=>?_,?_,(Uf _ _ _ _).2,fun o ho hk=>?_⟩
 ·rw[hok.walk p hp];exact hat p hp
 ·rw[<- hd 4096 (Nat.le_refl _)];exact hc.cost hok.mem
 ·obtain⟨a,b,e1,e2,b1,ab,hx⟩:=hc.tlb ho hk;refine⟨a,b,e1,e2,b1,ab,fun k hkb=>?_⟩;have hh:=hx k hkb;rw[hat (a+k) (by omega)] at hh;have e3:(lay xs (a+k)).k=(OM xs (a+k)).kind:=by rw[<- hat (a+k) (by omega)];rfl
  rw[e3] at hh;unfold YJ;cases hs:FU (BT zs (a+k:Nat)) (OM xs (a+k))
  ·rfl
  ·have:=hh (JC.1 hs);simpa using this
end Go.Proofs.YtnmhkgmmpkjjeaaGreat
namespace Go.Proofs.YtnmhkgmmpkjjeaaGreat
open Go.ChangeShapes Go.WideShapes Go.ChangeAt Go.RowKit
set_option linter.unusedVariables false
set_option linter.unusedSimpArgs false
set_option maxRecDepth 100000
attribute [local go_sem ↓] Go.wp_at_zero Go.wp_at_succ
theorem Jf (A B C D A' B' C' D':Int) (w:World) : Calls Tryz.prog 18 #[.agg #[.int .i64 A,.int .i64 B,.int .i64 C,.int .i64 D],.agg #[.int .i64 A',.int .i64 B',.int .i64 C',.int .i64 D']] w fun e w'=>e=.returned (.bool (FU ⟨A,B,C,D⟩ ⟨A',B',C',D'⟩))/\Below w.heap.size w w':=by
 have hb:Below w.heap.size w ((w.alloc (.cells #[.int .i64 A,.int .i64 B,.int .i64 C,.int .i64 D] 56)).alloc (.cells #[.int .i64 A',.int .i64 B',.int .i64 C',.int .i64 D'] 56)):=((Below.refl _ _).alloc (Nat.le_refl _) _).alloc (by simp) _;unfold FU;dsimp only;by_cases h1:A=A'
 ·by_cases h2:B=B'
  ·by_cases h3:C=C'
   ·by_cases h4:D=D'
    ·subst h1 h2 h3 h4;(go_enter Tryz.func18,Tryz.ntmps18);(go_wp2);go_ret;exact⟨by simp,hb⟩
    ·(have e4:(D==D')=false:=by simpa using h4);subst h1 h2 h3;(go_enter Tryz.func18,Tryz.ntmps18);(go_wp2);go_ret;exact⟨by simp[h4],hb⟩
   ·(have e3:(C==C')=false:=by simpa using h3);subst h1 h2;(go_enter Tryz.func18,Tryz.ntmps18);(go_wp2);go_ret;exact⟨by simp[h3],hb⟩
  ·(have e2:(B==B')=false:=by simpa using h2);subst h1;(go_enter Tryz.func18,Tryz.ntmps18);(go_wp2);go_ret;exact⟨by simp[h2],hb⟩
 ·have e1:(A==A')=false:=by simpa using h1
  go_enter Tryz.func18,Tryz.ntmps18
  go_wp2
  go_ret;exact⟨by simp[h1],hb⟩
def Ig:E8 Bool:=⟨4,1,fun x=>[.bool x],false,by omega,fun _=>rfl⟩
theorem TJ:(Tryz.prog.info? 4).map (fun i=>(i.zero,i.size,i.bytes))=some (some (.bool false),1,1):=by kernel_rfl
theorem Qd {w:World} {b g c:Nat} {xs:List Bool} (h:A6 Ig w b (.slice (some ⟨g,0,none⟩) xs.length c) xs) (i:Nat) (hi:i<xs.length):g<w.heap.size/\w.cell? ⟨g,i,none⟩=some (.bool (xs.getD i false)):=by
 obtain⟨a,c',e,h1⟩:=h.form;obtain⟨g',N,f,e2,_,hr,hN,hf⟩:=h1 (by omega);have hN':xs.length*1<=N:=hN;simp only[Value.slice.injEq] at e;obtain⟨e,_,_⟩:=e;rw[e2] at e;simp only[Option.some.injEq,Addr.mk.injEq,and_true] at e;subst e;have h5:=hf i hi 0 (by decide);have e5:i*Ig.sz+0=i:=by show i*1+0=i;omega
 rw[e5] at h5;exact⟨hr.lt,by rw[hr.cell (i:=i) (by omega)];exact congrArg some h5⟩
def T7 (zs:List Int) (xs:List A9) (p:Nat):List Bool:=(List.range p).map (YJ zs xs)
theorem Qp (zs:List Int) (xs:List A9) (p:Nat):(T7 zs xs p).length=p:=by unfold T7;simp
theorem Ui (zs:List Int) (xs:List A9) (p:Nat):T7 zs xs (p+1)=T7 zs xs p++[YJ zs xs p]:=by unfold T7;rw[List.range_succ,List.map_append];rfl
theorem Y8 (zs:List Int) (xs:List A9) (p i:Nat) (h:i<p):(T7 zs xs p).getD i false=YJ zs xs i:=by
 unfold T7;rw[List.getD_eq_getElem?_getD,List.getElem?_map,List.getElem?_range h];rfl
theorem RF (k:Int) (l:List BP) (i:Nat) (h:i<l.length):nK k (l.take (i+1))=nK k (l.take i)+bn (decide ((AI Ba l i).kind=k)):=by
 rw[CV Ba l i h,Eu];unfold nK bn;rw[List.countP_cons,List.countP_nil];simp
theorem R4 (k:Int) (l:List BP):nK k l<=l.length:=List.countP_le_length
theorem U0 (l:List BP) (i:Nat) (h:i<l.length):AI Ba l i∈l:=by
 unfold AI;rw[List.getD_eq_getElem?_getD,List.getElem?_eq_getElem h];exact List.getElem_mem h
end Go.Proofs.YtnmhkgmmpkjjeaaGreat
