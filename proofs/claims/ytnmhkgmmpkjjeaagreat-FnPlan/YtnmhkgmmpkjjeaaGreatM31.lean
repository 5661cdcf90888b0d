import Derived.Test.YtnmhkgmmpkjjeaaGreatM12
import Derived.Test.YtnmhkgmmpkjjeaaGreatM15
import Derived.Test.YtnmhkgmmpkjjeaaGreatM18
namespace Go.Proofs.YtnmhkgmmpkjjeaaGreat
open ChangeShapes WideShapes ChangeAt RowKit Proofs.Tryz
set_option linter.all false
set_option maxRecDepth 100000
def GI (n l x:Int):Bool:=decide (AG l x=4)||(decide (AG l x=1)&&decide (n<=AX l x))
def Av (n l x:Int):Bool:=decide (AG l x=1)&&decide (AX l x<n)
theorem MW(l x:Int):0<=AG l x/\AG l x<=4/\AG 3 x≠1:=by
 unfold AG;refine⟨?_,?_,?_⟩<;>(repeat' split)<;>omega
def DG (zs:List Int) (pg:Nat):Int:=AC zs 0 (pg/256)
def DW (zs:List Int) (pg:Nat):Int:=AC zs (AX 1 (DG zs pg)) (pg/16%16)
def JD (zs:List Int) (pg:Nat):Int:=AC zs (AX 2 (DW zs pg)) (pg%16)
theorem Mp(n page l x:Int)(R:Di)(h:l<3):(BK n page l x R).kind=3↔GI n l x=true\/(Av n l x=true/\R.kind=3):=by
 have hk:=MW l x;unfold BK GI Av;by_cases h0:AG l x=0
 ·simp[h0]
 ·rw[if_neg h0];by_cases h1:AG l x=1
  ·by_cases h2:AX l x<n
   ·rw[if_pos ⟨h1,h2,h⟩];(have h3:¬n<=AX l x:=by omega);simp[h1,h2,h3]
   ·rw[if_neg (by simp[h2]),if_neg (by omega),if_neg (by omega)];(have h3:n<=AX l x:=by omega);simp[h1,h3]
  ·rw[if_neg (by simp[h1])];by_cases h2:AG l x=2
   ·simp[h2]
   ·by_cases h3:AG l x=3
    ·simp[h3]
    ·(have h4:AG l x=4:=by omega);simp[h4]
theorem RE(n page x:Int)(R:Di):(BK n page 3 x R).kind=3↔GI n 3 x=true:=by
 have hk:=MW 3 x;unfold BK GI;by_cases h0:AG 3 x=0
 ·simp[h0]
 ·rw[if_neg h0,if_neg (by omega)];by_cases h2:AG 3 x=2
  ·simp[h2]
  ·by_cases h3:AG 3 x=3
   ·simp[h3]
   ·(have h4:AG 3 x=4:=by have:=hk.2.2;omega);simp[h4]
theorem Eu(zs:List Int)(f:Int)(i:Nat)(j:Int)(hf:0<=f)(hj:j=i):zs.getD (f*16+j).toNat 0=AC zs f i:=by
 unfold AC;congr 1;omega
theorem Gt(zs:List Int)(pg:Nat)(hn:An zs.length≠0)(hp:pg<4096):(BG zs pg).kind=3↔GI (An zs.length) 1 (DG zs pg)=true\/(Av (An zs.length) 1 (DG zs pg)=true/\(GI (An zs.length) 2 (DW zs pg)=true\/(Av (An zs.length) 2 (DW zs pg)=true/\GI (An zs.length) 3 (JD zs pg)=true))):=by
 have hpo:DX (pg:Int)=true:=by simp[DX];omega
 have e1:C5 (Cp zs) (pg:Int) 0 1 0=DG zs pg:=by
  rw[D0];exact Eu zs 0 (pg/256) _ (by omega) (by simp[JM])
 have e2:C5 (Cp zs) (pg:Int) 0 2 (AX 1 (DG zs pg))=DW zs pg:=by
  rw[D0];exact Eu zs _ (pg/16%16) _ (Ci _ _).1 (by simp[JM])
 have e3:C5 (Cp zs) (pg:Int) 0 3 (AX 2 (DW zs pg))=JD zs pg:=by
  rw[D0];exact Eu zs _ (pg%16) _ (Ci _ _).1 (by simp[JM])
 unfold BG;rw[if_neg (by simp[hn,hpo])];rw[<- EJ zs pg 1 0 1 (by omega),e1,<- EJ zs pg (1+1) _ 0 (by omega)];rw[show (1:Int)+1=2 from rfl,e2,<- JH zs pg (2+1) _ ⟨0,0,0,0⟩ rfl,show (2:Int)+1=3 from rfl,e3];rw[Mp _ _ _ _ _ (by omega),Mp _ _ _ _ _ (by omega),RE]
def root:P3:=⟨0,1,0⟩
theorem Cr(zs:List Int)(i:Nat):Af zs root i=⟨AX 1 (AC zs 0 i),2,(i:Int)*256⟩:=by
 unfold Af root BX;simp
theorem Fh(zs:List Int)(i j:Nat):Af zs (Af zs root i) j=⟨AX 2 (AC zs (AX 1 (AC zs 0 i)) j),3,(i:Int)*256+(j:Int)*16⟩:=by
 rw[Cr];unfold Af BX;simp
theorem BI(zs:List Int)(hn:An zs.length≠0)(p:P3):p∈A7 zs↔p=root\/∃i,i<16/\Av (An zs.length) 1 (AC zs 0 i)=true/\(p=Af zs root i\/∃j,j<16/\Av (An zs.length) 2 (AC zs (AX 1 (AC zs 0 i)) j)=true/\p=Af zs (Af zs root i) j):=by
 have hl1:∀i,Dq zs (An zs.length) root i=Av (An zs.length) 1 (AC zs 0 i):=fun i=>rfl
 have hl2:∀i j,Dq zs (An zs.length) (Af zs root i) j=Av (An zs.length) 2 (AC zs (AX 1 (AC zs 0 i)) j):=fun i j=>by rw[Cr];rfl
 have e:A7 zs=Ar zs (An zs.length) (fun q=>Ar zs (An zs.length) (fun r=>[r]) q 16) root 16:=by
  unfold A7;rw[if_neg hn];rfl
 rw[e];unfold Ar;constructor
 ·intro h;rcases List.mem_cons.1 h with h|h
  ·exact .inl h
  ·obtain⟨i,hi,hm⟩:=List.mem_flatMap.1 h;rw[List.mem_range] at hi;rw[hl1] at hm;by_cases hw:Av (An zs.length) 1 (AC zs 0 i)=true
   ·rw[if_pos hw] at hm;refine .inr ⟨i,hi,hw,?_⟩;rcases List.mem_cons.1 hm with h2|h2
    ·exact .inl h2
    ·obtain⟨j,hj,hm2⟩:=List.mem_flatMap.1 h2;rw[List.mem_range] at hj;rw[hl2] at hm2;by_cases hw2:Av (An zs.length) 2 (AC zs (AX 1 (AC zs 0 i)) j)=true
     ·rw[if_pos hw2] at hm2;exact .inr ⟨j,hj,hw2,by simpa using hm2⟩
     ·rw[if_neg hw2] at hm2;simp at hm2
   ·rw[if_neg hw] at hm;simp at hm
 ·intro h;rcases h with h|⟨i,hi,hw,h⟩
  ·exact List.mem_cons.2 (.inl h)
  ·refine List.mem_cons.2 (.inr (List.mem_flatMap.2 ⟨i,List.mem_range.2 hi,?_⟩));rw[hl1,if_pos hw];rcases h with h|⟨j,hj,hw2,h⟩
   ·exact List.mem_cons.2 (.inl h)
   ·refine List.mem_cons.2 (.inr (List.mem_flatMap.2 ⟨j,List.mem_range.2 hj,?_⟩));rw[hl2,if_pos hw2];simpa using h
theorem GT(zs:List Int)(n:Int)(p:P3):Ct zs n p=true↔∀k,k<16->GI n p.lv (AC zs p.fr k)=false:=by
 unfold Ct;rw[List.all_eq_true];constructor
 ·intro h k hk;have:=h k (List.mem_range.2 hk);have e:Cy zs n p k=!GI n p.lv (AC zs p.fr k):=rfl;rw[e] at this;simpa using this
 ·intro h k hk;have:=h k (List.mem_range.1 hk);have e:Cy zs n p k=!GI n p.lv (AC zs p.fr k):=rfl;rw[e,this];rfl
theorem Ju(zs:List Int)(hn:An zs.length≠0):(∀p,p∈A7 zs->Ct zs (An zs.length) p=true)↔∀pg,pg<4096->(BG zs (pg:Nat)).kind≠3:=by
 constructor
 ·intro h pg hp hk;have hb:∀(b:Bool),b=true->b=false->False:=fun b h1 h2=>by rw[h1] at h2;cases h2
  rcases(Gt zs pg hn hp).1 hk with h1|⟨l1,h2|⟨l2,h3⟩⟩
  ·have:=(GT _ _ _).1 (h root ((BI zs hn _).2 (.inl rfl))) (pg/256) (by omega);exact hb _ h1 this
  ·have:=(GT _ _ _).1 (h (Af zs root (pg/256)) ((BI zs hn _).2 (.inr ⟨pg/256,by omega,l1,.inl rfl⟩))) (pg/16%16) (by omega);rw[Cr] at this;exact hb _ h2 this
  ·have:=(GT _ _ _).1 (h (Af zs (Af zs root (pg/256)) (pg/16%16)) ((BI zs hn _).2 (.inr ⟨pg/256,by omega,l1,.inr ⟨pg/16%16,by omega,l2,rfl⟩⟩))) (pg%16) (by omega);rw[Fh] at this;exact hb _ h3 this
 ·intro h p hp;rw[GT];intro k hk;cases hb:GI (An zs.length) p.lv (AC zs p.fr k)
  ·rfl
  ·exfalso;rcases(BI zs hn p).1 hp with rfl|⟨i,hi,l1,rfl|⟨j,hj,l2,rfl⟩⟩
   ·refine h (k*256) (by omega) ((Gt zs _ hn (by omega)).2 (.inl ?_));unfold DG;rw[show k*256/256=k by omega];exact hb
   ·rw[Cr] at hb;(have e1:DG zs (i*256+k*16)=AC zs 0 i:=by unfold DG;rw[show (i*256+k*16)/256=i by omega]);(have e2:DW zs (i*256+k*16)=AC zs (AX 1 (AC zs 0 i)) k:=by unfold DW;rw[e1,show (i*256+k*16)/16%16=k by omega]);exact h (i*256+k*16) (by omega) ((Gt zs _ hn (by omega)).2 (.inr ⟨by rw[e1];exact l1,.inl (by rw[e2];exact hb)⟩))
   ·rw[Fh] at hb;(have e1:DG zs (i*256+j*16+k)=AC zs 0 i:=by unfold DG;rw[show (i*256+j*16+k)/256=i by omega]);(have e2:DW zs (i*256+j*16+k)=AC zs (AX 1 (AC zs 0 i)) j:=by unfold DW;rw[e1,show (i*256+j*16+k)/16%16=j by omega]);(have e3:JD zs (i*256+j*16+k)=AC zs (AX 2 (AC zs (AX 1 (AC zs 0 i)) j)) k:=by unfold JD;rw[e2,show (i*256+j*16+k)%16=k by omega]);exact h (i*256+j*16+k) (by omega) ((Gt zs _ hn (by omega)).2 (.inr ⟨by rw[e1];exact l1,.inr ⟨by rw[e2];exact l2,by rw[e3];exact hb⟩⟩))
def Zl (zs:List Int) (pg:Nat):Bool:=!decide ((BG zs (pg:Nat)).kind=3)
def QV (zs:List Int) (k:Nat):Bool:=(List.range k).all (Zl zs)
def Q9 (ps:List P3) (i:Nat):Bool:=(List.range i).all (EQ ps)
theorem Ha(ps:List P3)(i:Nat)(h:i<ps.length):Aq ps i∈ps:=by
 unfold Aq;rw[List.getD_eq_getElem?_getD,List.getElem?_eq_getElem h];exact List.getElem_mem h
theorem Qf(ps:List P3)(p:P3)(h:p∈ps):∃i,i<ps.length/\Aq ps i=p:=by
 obtain⟨i,hi,e⟩:=List.getElem_of_mem h;exact⟨i,hi,by unfold Aq;rw[List.getD_eq_getElem?_getD,List.getElem?_eq_getElem hi];exact e⟩
theorem LH(zs:List Int)(hn:An zs.length≠0):Be zs=(QV zs 4096&&Q9 (A7 zs) (A7 zs).length):=by
 have e:Be zs=C0 zs (An zs.length) (A7 zs) (A7 zs).length:=by unfold Be;simp[hn]
 rw[e,Bool.eq_iff_iff];unfold C0 QV Q9;simp only[Bool.and_eq_true,List.all_eq_true,List.mem_range];constructor
 ·intro h;refine⟨fun pg hp=>?_,fun i hi=>(h i hi).1⟩
  have:=(Ju zs hn).1 (fun p hp=>by
   obtain⟨i,hi,rfl⟩:=Qf _ _ hp
   exact(h i hi).2) pg hp
  unfold Zl;simpa using this
 ·rintro⟨h1,h2⟩ i hi;refine⟨h2 i hi,(Ju zs hn).2 (fun pg hp=>?_) _ (Ha _ _ hi)⟩;have:=h1 pg hp;unfold Zl at this;simpa using this
def Ei (ps:List P3):Prop:=ps.Pairwise (fun a b=>a.fr≠b.fr)
theorem Ei.eq{ps:List P3}(h:Ei ps){a b:P3}(ha:a∈ps)(hb:b∈ps)(he:a.fr=b.fr):a=b:=by
 induction ps with
 | nil=>cases ha
 | cons c r ih =>
  obtain⟨h1,h2⟩:=List.pairwise_cons.1 h;rcases List.mem_cons.1 ha with e1|e1<;>rcases List.mem_cons.1 hb with e2|e2
  ·rw[e1,e2]
  ·subst e1;exact absurd he (h1 b e2)
  ·subst e2;exact absurd he.symm (h1 a e1)
  ·exact ih h2 e1 e2
theorem LN(zs:List Int)(h:Be zs=true):Ei (A7 zs):=by
 have ht:C0 zs (An zs.length) (A7 zs) (A7 zs).length=true:=by
  unfold Be at h;simp only[Bool.and_eq_true] at h;exact h.2
 unfold C0 at ht;rw[List.all_eq_true] at ht;unfold Ei;rw[List.pairwise_iff_getElem];intro i j hi hj hij e;have h1:=ht j (List.mem_range.2 hj);simp only[Bool.and_eq_true] at h1;have h2:=h1.1;unfold EQ at h2;rw[List.all_eq_true] at h2;have h3:=h2 i (List.mem_range.2 hij);have ei:Aq (A7 zs) i=(A7 zs)[i]:=by unfold Aq;rw[List.getD_eq_getElem?_getD,List.getElem?_eq_getElem hi];rfl
 have ej:Aq (A7 zs) j=(A7 zs)[j]:=by unfold Aq;rw[List.getD_eq_getElem?_getD,List.getElem?_eq_getElem hj];rfl
 rw[ei,ej] at h3;simp at h3;exact h3 e.symm
theorem VV{H:Nat->Ht}{ps:List P3}(h:Ei ps):Ei (AF H ps):=h.filter _
theorem Ow(kept:List P3)(ws:List (Nat×Nat))(h:Ei kept):∀k,k<=ws.length->Ei (kept++Bd kept ws k)
 | 0,_=>by rw[DE,List.append_nil];exact h
 | k+1,hk=>by
  have ih:=Ow kept ws h k (by omega);rw[De kept ws k (by omega)];unfold EF;split
  ·rw[<- List.append_assoc];unfold Ei;rw[List.pairwise_append];refine⟨ih,List.pairwise_singleton _ _,fun a ha b hb=>?_⟩;rw[List.mem_singleton] at hb;subst hb;intro e;have:=(Fu (kept++Bd kept ws k)).2.2;have h2:BA (kept++Bd kept ws k) ((FJ (kept++Bd kept ws k):Nat):Int)=true:=Fz.2 ⟨a,ha,e⟩;rw[this] at h2;cases h2
  ·exact ih
theorem Wi{H:Nat->Ht}{ps:List P3}(h:Ei ps):Ei (AW H ps):=Ow _ _ (VV h) _ (Nat.le_refl _)
theorem PA(kept:List P3)(ws:List (Nat×Nat)):∀k,k<=ws.length->∀j (hj:j<ws.length),j<k->AI kept (ws[j]).1 (ws[j]).2<0->∃q∈Bd kept ws k,q.lv=(ws[j]).1/\q.pg=(ws[j]).2
 | 0,_,j,hj,h0,_=>by omega
 | k+1,hk,j,hj,h0,hf=>by
  rw[De kept ws k (by omega)];by_cases e:j=k
  ·subst e;unfold EF;rw[if_pos hf];exact⟨_,List.mem_append_right _ (List.mem_singleton.2 rfl),rfl,rfl⟩
  ·obtain⟨q,hq,h1,h2⟩:=PA kept ws k (by omega) j hj (by omega) hf;refine⟨q,?_,h1,h2⟩;unfold EF;split
   ·exact List.mem_append_left _ hq
   ·exact hq
structure Kq (H:Nat->Ht) (n:Nat) (all:List P3):Prop where
 dis:Ei all
 fr:∀t∈all,0<=t.fr/\t.fr<n
 seat:∀t∈all,∃s∈AJ H 256,t.lv=(s.1:Nat)/\t.pg=(s.2:Nat)
 has:∀s∈AJ H 256,∃t∈all,t.lv=(s.1:Nat)/\t.pg=(s.2:Nat)
 uniq:∀t∈all,AI all t.lv t.pg=t.fr
 root:(⟨0,1,0⟩:P3)∈all
theorem NK{H:Nat->Ht}{n:Nat}{ps:List P3}(hn:0<n)(h:Bc n ps)(hd:Ei ps)(hw:(AJ H 256).length<=n):Kq H n (AW H ps):=by
 have hks:=D3 H h;have hfm:=Db (H:=H) hn h hw (AJ H 256).length (Nat.le_refl _);have hkw:=fun (q:P3) (hq:q∈AF H ps)=>Dh h hq
 have hdis:=Wi (H:=H) hd;have hseat:∀t∈AW H ps,∃s∈AJ H 256,t.lv=(s.1:Nat)/\t.pg=(s.2:Nat):=by
  intro t ht;rcases List.mem_append.1 ht with ht|ht
  ·obtain⟨a,b,c⟩:=hkw t ht;exact⟨_,a,b.symm,c.symm⟩
  ·obtain⟨j,hj,hj2,a,b,_⟩:=hfm t ht;exact⟨_,List.getElem_mem hj2,a,b⟩
 have hnew:∀k,k<=(AJ H 256).length->(Bd (AF H ps) (AJ H 256) k).Pairwise (fun a b=>¬(a.lv=b.lv/\a.pg=b.pg)):=by
  intro k;induction k with
  | zero=>intro _;rw[DE];exact List.Pairwise.nil
  | succ k ih =>
   intro hk;rw[De _ _ k (by omega)];unfold EF;split
   ·rw[List.pairwise_append];refine⟨ih (by omega),List.pairwise_singleton _ _,fun a ha b hb=>?_⟩;rw[List.mem_singleton] at hb;subst hb;rintro⟨e1,e2⟩;obtain⟨j,hj,hj2,a1,a2,_⟩:=Db (H:=H) hn h hw k (by omega) a ha;have hp:=List.pairwise_iff_getElem.1 (Jt H 256) j k hj2 (by omega) hj;unfold Jk at hp;dsimp only at e1 e2;rw[a1] at e1;rw[a2] at e2;omega
   ·exact ih (by omega)
 refine⟨hdis,fun t ht=>?_,hseat,fun s hs=>?_,fun t ht=>?_,List.mem_append_left _ (BB.2 ⟨h.root,by unfold PP;exact Fe H _⟩)⟩
 ·rcases List.mem_append.1 ht with ht|ht
  ·exact h.fr (by omega) (BB.1 ht).1
  ·obtain⟨j,hj,hj2,_,_,_,F,hF,hF2⟩:=hfm t ht;omega
 ·obtain⟨j,hj,rfl⟩:=List.getElem_of_mem hs;by_cases hf:AI (AF H ps) ((AJ H 256)[j]).1 ((AJ H 256)[j]).2<0
  ·obtain⟨q,hq,a,b⟩:=PA (AF H ps) (AJ H 256) _ (Nat.le_refl _) j hj hj hf;exact⟨q,List.mem_append_right _ hq,a,b⟩
  ·obtain⟨q,hq,a,b,_⟩:=Co (qs:=AF H ps) (lv:=((AJ H 256)[j]).1) (pg:=((AJ H 256)[j]).2) (by omega);exact⟨q,List.mem_append_left _ hq,a,b⟩
 ·unfold AW;rw[KF];rcases List.mem_append.1 ht with hk|hk
  ·have hsome:((AF H ps).find? (B5 t.lv t.pg)).isSome:=by
    rw[List.find?_isSome];exact⟨t,hk,by unfold B5;simp⟩
   rw[if_pos hsome];exact Cg hks hk
  ·obtain⟨j,hj,hj2,a,b,hneg,_⟩:=hfm t hk;have hnone:¬((AF H ps).find? (B5 t.lv t.pg)).isSome:=by
    intro hs;rw[List.find?_isSome] at hs;obtain⟨q,hq,hsq⟩:=hs;unfold B5 at hsq;have h2:=of_decide_eq_true hsq;have h3:=Cg hks hq;rw[h2.1,h2.2] at h3;have h4:=(h.fr (by omega) (BB.1 hq).1).1;omega
   rw[if_neg hnone];have hp:=hnew _ (Nat.le_refl _);have key:∀(l:List P3),l.Pairwise (fun a b=>¬(a.lv=b.lv/\a.pg=b.pg))->t∈l->AI l t.lv t.pg=t.fr:=by
    intro l;induction l with
    | nil=>intro _ hm;cases hm
    | cons c r ih =>
     intro hpw hm;obtain⟨p1,p2⟩:=List.pairwise_cons.1 hpw;unfold AI;rcases List.mem_cons.1 hm with e|e
     ·subst e;rw[List.find?_cons_of_pos (by unfold B5;simp)]
     ·rw[List.find?_cons_of_neg (by
       unfold B5
       rw[decide_eq_false (p1 t e)];decide)]
      exact ih p2 e
   exact key _ hp hk
theorem Kq.of{H:Nat->Ht}{n:Nat}{all:List P3}(h:Kq H n all){lv pg:Nat}(hs:(lv,pg)∈AJ H 256):∃t∈all,t.lv=(lv:Int)/\t.pg=(pg:Int)/\AI all (lv:Int) (pg:Int)=t.fr/\0<=t.fr/\t.fr<n:=by
 obtain⟨t,ht,a,b⟩:=h.has _ hs;dsimp only at a b;have:=h.uniq t ht;rw[a,b] at this;exact⟨t,ht,a,b,this,h.fr t ht⟩
theorem Kq.no{H:Nat->Ht}{n:Nat}{all:List P3}(h:Kq H n all){lv pg:Nat}(hs:(lv,pg) ∉ AJ H 256):AI all (lv:Int) (pg:Int)=-1 :=
 Em (fun q hq e=>by
  obtain⟨s,hm,a,b⟩:=h.seat q hq
  apply hs
  have e1:s.1=lv:=by have:=e.1;omega
  have e2:s.2=pg:=by have:=e.2;omega
  rw[<- e1,<- e2]
  exact hm)
theorem VK(zs:List Int)(i j:Nat)(v:Int):(zs.set i v).getD j 0=if j=i/\i<zs.length then v else zs.getD j 0:=by
 simp only[List.getD_eq_getElem?_getD,List.getElem?_set];by_cases e:i=j
 ·subst e;by_cases h:i<zs.length
  ·simp[h]
  ·simp[h]
 ·simp[e,Ne.symm e]
theorem Hg(zs:List Int)(l m:List BP):D8 zs (l++m)=D8 (D8 zs l) m:=by unfold D8;exact List.foldl_append
theorem Et(a:Nat):∀(l:List BP) (zs:List Int),(∀o∈l,o.kind=1->o.a.toNat≠a)->(D8 zs l).getD a 0=zs.getD a 0
 | [],zs,_=>rfl
 | o :: r,zs,h=>by
  show (D8 (Of zs o) r).getD a 0=_;rw[Et a r _ (fun o' ho'=>h o' (List.mem_cons_of_mem _ ho'))];unfold Of;split
  ·rename_i hk;rw[VK,if_neg (fun e=>h o (List.mem_cons_self ..) hk e.1.symm)]
  ·rfl
theorem Jc(a:Nat)(v:Int):∀(l:List BP) (zs:List Int),a<zs.length->(∀o∈l,o.kind=1->o.a.toNat=a->o.word=v)->(∃o∈l,o.kind=1/\o.a.toNat=a)->(D8 zs l).getD a 0=v
 | [],zs,_,_,h=>by obtain⟨o,ho,_⟩:=h;cases ho
 | o :: r,zs,hl,h1,h2=>by
  show (D8 (Of zs o) r).getD a 0=v;by_cases hr:∃o'∈r,o'.kind=1/\o'.a.toNat=a
  ·exact Jc a v r _ (by rw[SC];exact hl) (fun o' ho'=>h1 o' (List.mem_cons_of_mem _ ho')) hr
  ·rw[Et a r _ (fun o' ho' hk e=>hr ⟨o',ho',hk,e⟩)];obtain⟨o',ho',hk,he⟩:=h2;rcases List.mem_cons.1 ho' with e|e
   ·subst e;unfold Of;rw[if_pos hk,VK,if_pos ⟨he.symm,by omega⟩];exact h1 o' (List.mem_cons_self ..) hk he
   ·exact absurd ⟨o',e,hk,he⟩ hr
theorem Js(l:List BP)(zs:List Int)(h:∀o∈l,o.kind≠1):D8 zs l=zs:=by
 induction l generalizing zs with
 | nil=>rfl
 | cons o r ih =>
  show D8 (Of zs o) r=zs;have e:Of zs o=zs:=by unfold Of;rw[if_neg (h o (List.mem_cons_self ..))]
  rw[e];exact ih zs (fun o' ho'=>h o' (List.mem_cons_of_mem _ ho'))
theorem JB(l:List BP)(zs:List Int):D8 zs (BU l)=D8 zs l:=by
 unfold BU;split
 ·rename_i h;rw[List.isEmpty_iff.1 h]
 ·rw[Hg];exact Js _ _ (fun o ho=>by rw[List.mem_singleton] at ho;subst ho;decide)
theorem Ou(zs:List Int)(n:Nat)(H:Nat->Ht)(ps:List P3):D8 zs (Ao zs n H ps)=D8 (D8 (D8 zs (Ac zs H (AW H ps) (Bo H ps))) (AU H (AW H ps) (Cd H ps))) (Ai zs H (AW H ps) (Bo H ps)):=by
 unfold Ao
 have h1:∀z,D8 z (B8 (Fg zs H (AW H ps) (Bo H ps)))=z:=fun z=>Js _ _ (fun o ho=>by
  unfold B8 at ho
  obtain⟨f,_,rfl⟩:=List.mem_map.1 ho
  dsimp only
  omega)
 have h2:∀z,D8 z (As n (Cm H ps))=z:=fun z=>Js _ _ (fun o ho=>by
  unfold As at ho
  obtain⟨f,_,rfl⟩:=List.mem_map.1 ho
  dsimp only
  omega)
 rw[Hg,Hg,Hg,Hg,JB,JB,JB,JB,h1,h2]
theorem Kr{H:Nat->Ht}{s:Nat×Nat}(h:s∈AJ H 256):(s.1=1\/s.1=2\/s.1=3)/\s.2%(Ay s.1*16)=0/\s.2+Ay s.1*16<=4096:=by
 obtain⟨h1,h2,h3,_,_,h6⟩:=BY h;have:s.1=1\/s.1=2\/s.1=3:=by omega
 refine⟨this,?_⟩;rcases this with e|e|e<;>rw[e] at h3 h6 ⊢
 ·exact⟨h6,h3⟩
 ·exact⟨h6,h3⟩
 ·exact⟨h6,h3⟩
theorem Rc{H:Nat->Ht}{n:Nat}{ps:List P3}(hn:0<n)(h:Bc n ps){t:P3}(ht:t∈AF H ps){i:Nat}(hi:i<16):CA t i∈Bo H ps:=by
 obtain⟨hs,e1,e2⟩:=Dh h ht;obtain⟨hl,hm,hb⟩:=Kr hs;have hfr:=Cg (D3 H h) ht;have hf0:=(h.fr (by omega) (BB.1 ht).1).1;generalize t.lv.toNat=L at *;generalize t.pg.toNat=P at *;dsimp only at *;have hc:BX t.lv=(Ay L:Nat):=by rw[<- e1];exact Cx L
 have hpos:=Hu L;have hone:CA t i∈Dy (AF H ps) (P+i*Ay L) L:=by
  unfold Dy;have m1:(P+i*Ay L)%Ay L=0:=by rcases hl with rfl|rfl|rfl<;>simp[Ay] at hm hb ⊢<;>omega
  have m2:P+i*Ay L-(P+i*Ay L)%(Ay L*16)=P:=by rcases hl with rfl|rfl|rfl<;>simp[Ay] at hm hb ⊢<;>omega
  have m3:(P+i*Ay L)/Ay L%16=i:=by rcases hl with rfl|rfl|rfl<;>simp[Ay] at hm hb ⊢<;>omega
  rw[m1,m2,m3,e1,e2,hfr,if_pos ⟨rfl,hf0⟩,List.mem_singleton];unfold CA;rw[hc,<- e1,<- e2];congr 1
 have hlt:P+i*Ay L<4096:=by rcases hl with rfl|rfl|rfl<;>simp[Ay] at hm hb ⊢<;>omega
 unfold Bo Bf;refine List.mem_flatMap.2 ⟨P+i*Ay L,List.mem_range.2 hlt,?_⟩;unfold Lm;rcases hl with rfl|rfl|rfl
 ·exact List.mem_append_left _ hone
 ·exact List.mem_append_right _ (List.mem_append_left _ hone)
 ·exact List.mem_append_right _ (List.mem_append_right _ hone)
theorem Je{H:Nat->Ht}{n:Nat}{ps:List P3}(hn:0<n)(h:Bc n ps){e:En}(he:e∈Bo H ps):∃t∈AF H ps,∃i:Nat,i<16/\e=CA t i:=by
 obtain⟨page,lv,hp,h1,h3,hm,e1,e2,hf,hadr⟩:=JK he;obtain⟨q,hq,q1,q2,q3⟩:=Co hf;have hl:lv=1\/lv=2\/lv=3:=by omega
 refine⟨q,hq,page/Ay lv%16,Nat.mod_lt _ (by omega),?_⟩;have hc:BX q.lv=(Ay lv:Nat):=by rw[q1];exact Cx lv
 unfold CA;rw[hc,q1,q2,q3,<- hadr];have hpg:((page-page%(Ay lv*16):Nat):Int)+((page/Ay lv%16:Nat):Int)*(Ay lv:Nat)=(page:Nat):=by
  rcases hl with rfl|rfl|rfl<;>simp[Ay] at hm ⊢<;>omega
 rw[hpg];cases e;simp only[En.mk.injEq] at *;exact⟨e1,e2,trivial⟩
theorem JZ{n:Nat}{all:List P3}(hd:Ei all){t u:P3}(ht:t∈all)(hu:u∈all){i j:Nat}(hi:i<16)(hj:j<16)(ht0:0<=t.fr)(hu0:0<=u.fr)(h:(t.fr*16+i).toNat=(u.fr*16+j).toNat):t=u/\i=j:=by
 have:t.fr=u.fr/\i=j:=by omega
 exact⟨hd.eq ht hu this.1,this.2⟩
def Pi (x r:Int):Prop:=x=r\/(r=0/\x%2=0)
theorem PZ{zs:List Int}{n:Nat}{H:Nat->Ht}{ps:List P3}(hz:zs.length=n*16)(hn:0<n)(h:Bc n ps)(hd:Ei ps)(hw:(AJ H 256).length<=n){t:P3}(ht:t∈AW H ps){i:Nat}(hi:i<16):Pi ((D8 zs (Ao zs n H ps)).getD (t.fr*16+i).toNat 0) (C3 H (AW H ps) t.lv (t.pg+i*BX t.lv)):=by
 have hok:=NK (H:=H) hn h hd hw;have hf:=hok.fr t ht;have hfm:=Db (H:=H) hn h hw (AJ H 256).length (Nat.le_refl _);have hlt:(t.fr*16+i).toNat<zs.length:=by omega
 have hkA:∀u,u∈AF H ps->u∈AW H ps:=fun u hu=>List.mem_append_left _ hu
 have hnA:∀u,u∈Cd H ps->u∈AW H ps:=fun u hu=>List.mem_append_right _ hu
 have hkn:∀u,u∈AF H ps->u∈Cd H ps->False:=by
  intro u h1 h2;obtain⟨j,hj,hj2,_,_,hneg,_⟩:=hfm u h2;have:=Cg (D3 H h) h1;have:=(h.fr (by omega) (BB.1 h1).1).1;omega
 rw[Ou];rcases List.mem_append.1 ht with hk|hk
 ·skip;have huniq:∀e∈Bo H ps,e.ad.toNat=(t.fr*16+i).toNat->e=CA t i:=by
   intro e he ha;obtain⟨u,hu,j,hj,rfl⟩:=Je hn h he;obtain⟨e1,e2⟩:=JZ (n:=n) hok.dis (hkA u hu) ht hj hi (hok.fr u (hkA u hu)).1 hf.1 ha;rw[e1,e2]
  have hmem:=Rc (H:=H) hn h hk hi;have hfill:∀o∈AU H (AW H ps) (Cd H ps),o.kind=1->o.a.toNat≠(t.fr*16+i).toNat:=by
   intro o ho _ ha;unfold AU at ho;obtain⟨u,hu,ho⟩:=List.mem_flatMap.1 ho;unfold B6 at ho;obtain⟨j,hj,rfl⟩:=List.mem_map.1 ho;obtain⟨e1,_⟩:=JZ (n:=n) hok.dis (hnA u hu) ht (List.mem_range.1 hj) hi (hok.fr u (hnA u hu)).1 hf.1 ha;rw[e1] at hu;exact hkn t hk hu
  have hw0:Fl zs (CA t i).ad=zs.getD (t.fr*16+i).toNat 0:=rfl;have hr0:C3 H (AW H ps) (CA t i).lv (CA t i).pg=C3 H (AW H ps) t.lv (t.pg+i*BX t.lv):=rfl;have hb2:(D8 (D8 zs (Ac zs H (AW H ps) (Bo H ps))) (AU H (AW H ps) (Cd H ps))).length=zs.length:=by rw[DB,DB]
  by_cases hl:MT zs H (AW H ps) (CA t i)=true
  ·left;refine Jc _ _ _ _ (by rw[hb2];exact hlt) (fun o ho hk1 ha=>?_) ⟨⟨1,(CA t i).ad,0,C3 H (AW H ps) (CA t i).lv (CA t i).pg⟩,?_,rfl,rfl⟩
   ·unfold Ai at ho;obtain⟨e,he,rfl⟩:=List.mem_map.1 ho;rw[huniq e (List.mem_filter.1 he).1 ha];rfl
   ·unfold Ai;exact List.mem_map.2 ⟨CA t i,List.mem_filter.2 ⟨hmem,hl⟩,rfl⟩
  ·have hl':MT zs H (AW H ps) (CA t i)=false:=by simpa using hl
   rw[Et _ _ _ (fun o ho hk1 ha=>by
    unfold Ai at ho
    obtain⟨e,he,rfl⟩:=List.mem_map.1 ho
    obtain⟨he1,he2⟩:=List.mem_filter.1 he
    rw[huniq e he1 ha] at he2
    rw[hl'] at he2
    cases he2),Et _ _ _ hfill]
   unfold MT at hl';rw[hr0,hw0,decide_eq_false_iff_not] at hl';by_cases hb:GW zs H (AW H ps) (CA t i)=true
   ·have hv:(D8 zs (Ac zs H (AW H ps) (Bo H ps))).getD (t.fr*16+i).toNat 0=0:=by
     refine Jc _ _ _ _ hlt (fun o ho hk1 ha=>?_) ⟨⟨1,(CA t i).ad,0,0⟩,?_,rfl,rfl⟩
     ·unfold Ac at ho;obtain⟨e,he,rfl⟩:=List.mem_map.1 ho;rfl
     ·unfold Ac;exact List.mem_map.2 ⟨CA t i,List.mem_filter.2 ⟨hmem,hb⟩,rfl⟩
    rw[hv];unfold GW at hb;rw[hr0,hw0,decide_eq_true_eq] at hb;left;by_cases hr:C3 H (AW H ps) t.lv (t.pg+i*BX t.lv)=0
    ·exact hr.symm
    ·exact absurd ⟨hr,fun e=>hb.2 e.symm⟩ hl'
   ·have hb':GW zs H (AW H ps) (CA t i)=false:=by simpa using hb
    rw[Et _ _ _ (fun o ho hk1 ha=>by
     unfold Ac at ho
     obtain⟨e,he,rfl⟩:=List.mem_map.1 ho
     obtain⟨he1,he2⟩:=List.mem_filter.1 he
     rw[huniq e he1 ha] at he2
     rw[hb'] at he2
     cases he2)]
    unfold GW at hb';rw[hr0,hw0,decide_eq_false_iff_not] at hb';by_cases hr:C3 H (AW H ps) t.lv (t.pg+i*BX t.lv)=zs.getD (t.fr*16+i).toNat 0
    ·exact .inl hr.symm
    ·right;have h0:C3 H (AW H ps) t.lv (t.pg+i*BX t.lv)=0:=by
      by_cases h0:C3 H (AW H ps) t.lv (t.pg+i*BX t.lv)=0
      ·exact h0
      ·exact absurd ⟨h0,hr⟩ hl'
     refine⟨h0,?_⟩;by_cases h1:zs.getD (t.fr*16+i).toNat 0%2=1
     ·exact absurd ⟨h1,fun e=>hr e.symm⟩ hb'
     ·omega
 ·skip;left
  rw[Et _ _ _ (fun o ho hk1 ha=>by
   unfold Ai at ho
   obtain⟨e,he,rfl⟩:=List.mem_map.1 ho
   obtain⟨u,hu,j,hj,rfl⟩:=Je hn h (List.mem_filter.1 he).1
   obtain⟨e1,_⟩:=JZ (n:=n) hok.dis (hkA u hu) ht hj hi (hok.fr u (hkA u hu)).1 hf.1 ha
   rw[e1] at hu
   exact hkn t hu hk)]
  refine Jc _ _ _ _ (by rw[DB];exact hlt) (fun o ho hk1 ha=>?_) ⟨⟨1,t.fr*16+(i:Nat),0,C3 H (AW H ps) t.lv (t.pg+(i:Nat)*BX t.lv)⟩,?_,rfl,rfl⟩
  ·unfold AU at ho;obtain⟨u,hu,ho⟩:=List.mem_flatMap.1 ho;unfold B6 at ho;obtain⟨j,hj,rfl⟩:=List.mem_map.1 ho;obtain⟨e1,e2⟩:=JZ (n:=n) hok.dis (hnA u hu) ht (List.mem_range.1 hj) hi (hok.fr u (hnA u hu)).1 hf.1 ha;rw[e1,e2]
  ·unfold AU;refine List.mem_flatMap.2 ⟨t,hk,?_⟩;unfold B6;exact List.mem_map.2 ⟨i,List.mem_range.2 hi,rfl⟩
structure P8 (H:Nat->Ht):Prop where
 zero:∀p,p<4096->(H p).k≠1->H p=Ru
 one:∀p,p<4096->(H p).k=1->0<=(H p).o/\(H p).o<65536/\1<=(H p).p/\(H p).p<=7/\((H p).s=1\/(H p).s=16)
 big:∀p,p<4096->(H p).s=16->(H (p-p%16)).o%16=0/\∀j,j<16->H (p-p%16+j)=⟨1,(H (p-p%16)).o+j,(H (p-p%16)).p,16⟩
theorem Gs(l x:Int)(h1:1<=l)(h3:l<=3)(h:x%2=0):AG l x=0/\AX l x=0/\Ak l x=0:=by
 have hk:AG l x=0:=by unfold AG;rw[if_neg (by omega),if_pos h]
 refine⟨hk,?_,?_⟩
 ·unfold AX;rw[if_pos (.inl hk)]
 ·unfold Ak;rw[if_pos (.inl hk)]
theorem JO(l x r:Int)(h1:1<=l)(h3:l<=3)(h:Pi x r):AG l x=AG l r/\AX l x=AX l r/\Ak l x=Ak l r:=by
 rcases h with h|⟨h,hx⟩
 ·rw[h];exact⟨rfl,rfl,rfl⟩
 ·obtain⟨a,b,c⟩:=Gs l x h1 h3 hx;obtain⟨a',b',c'⟩:=Gs l r h1 h3 (by rw[h];rfl);rw[a,b,c,a',b',c'];exact⟨rfl,rfl,rfl⟩
theorem OR(l k o p:Int)(hk:k=1\/k=2\/k=3)(ho:0<=o)(ho1:o<65536)(hp:0<=p)(hp1:p<=7)(h:AG l (Cs k o p)=k):AG l (Aw l k o p)=k/\AX l (Aw l k o p)=o/\Ak l (Aw l k o p)=p:=by
 have hO:AX l (Cs k o p)=o:=by
  unfold AX;rw[if_neg (by omega)];unfold Cs;split<;>omega
 have hP:Ak l (Cs k o p)=p:=by
  unfold Ak;rw[if_neg (by omega)];unfold Cs;split<;>omega
 have e:Aw l k o p=Cs k o p:=by
  unfold Aw;rw[if_pos ⟨hk,ho,ho1,hp,hp1,h,hO,hP⟩]
 rw[e];exact⟨h,hO,hP⟩
theorem Mv(l f:Int)(hl:l=1\/l=2)(h0:0<=f)(h1:f<65536):AG l (Aw l 1 f 0)=1/\AX l (Aw l 1 f 0)=f/\Ak l (Aw l 1 f 0)=0:=by
 refine OR l 1 f 0 (.inl rfl) h0 h1 (by omega) (by omega) ?_;have e:Cs 1 f 0=3+f*4096:=by unfold Cs;rw[if_neg (by omega)];omega
 rw[e];unfold AG;rw[if_neg (by omega),if_neg (by omega),if_neg (by omega),if_pos (by omega)]
theorem N7(o p:Int)(h0:0<=o)(h1:o<65536)(hm:o%16=0)(hp:1<=p)(hp1:p<=7):AG 2 (Aw 2 2 o p)=2/\AX 2 (Aw 2 2 o p)=o/\Ak 2 (Aw 2 2 o p)=p:=by
 refine OR 2 2 o p (.inr (.inl rfl)) h0 h1 (by omega) hp1 ?_;have e:Cs 2 o p=1+p*4+o*4096:=by unfold Cs;rw[if_pos rfl];omega
 rw[e];unfold AG;rw[if_neg (by omega),if_neg (by omega),if_neg (by omega),if_neg (by omega),if_pos (by omega)]
theorem UY(o p:Int)(h0:0<=o)(h1:o<65536)(hp:1<=p)(hp1:p<=7):AG 3 (Aw 3 3 o p)=3/\AX 3 (Aw 3 3 o p)=o/\Ak 3 (Aw 3 3 o p)=p:=by
 refine OR 3 3 o p (.inr (.inr rfl)) h0 h1 (by omega) hp1 ?_;have e:Cs 3 o p=3+p*4+o*4096:=by unfold Cs;rw[if_neg (by omega)];omega
 rw[e];unfold AG;rw[if_neg (by omega),if_neg (by omega),if_neg (by omega),if_neg (by omega),if_neg (by omega),if_pos (by omega)]
theorem Ni(zs:List Int)(pg:Nat)(hn:An zs.length≠0)(hp:pg<4096):BG zs pg=BK (An zs.length) pg 1 (DG zs pg) (BK (An zs.length) pg 2 (DW zs pg) (BK (An zs.length) pg 3 (JD zs pg) ⟨0,0,0,0⟩)):=by
 have hpo:DX (pg:Int)=true:=by simp[DX];omega
 have e1:C5 (Cp zs) (pg:Int) 0 1 0=DG zs pg:=by
  rw[D0];exact Eu zs 0 (pg/256) _ (by omega) (by simp[JM])
 have e2:C5 (Cp zs) (pg:Int) 0 2 (AX 1 (DG zs pg))=DW zs pg:=by
  rw[D0];exact Eu zs _ (pg/16%16) _ (Ci _ _).1 (by simp[JM])
 have e3:C5 (Cp zs) (pg:Int) 0 3 (AX 2 (DW zs pg))=JD zs pg:=by
  rw[D0];exact Eu zs _ (pg%16) _ (Ci _ _).1 (by simp[JM])
 unfold BG;rw[if_neg (by simp[hn,hpo])];rw[<- EJ zs pg 1 0 1 (by omega),e1,<- EJ zs pg (1+1) _ 0 (by omega)];rw[show (1:Int)+1=2 from rfl,e2,<- JH zs pg (2+1) _ ⟨0,0,0,0⟩ rfl,show (2:Int)+1=3 from rfl,e3]
structure Dd (H:Nat->Ht) (n:Nat) (all:List P3) (A:List Int):Prop where
 lay:P8 H
 tb:Kq H n all
 len:An A.length=n
 n1:1<=n
 n2:n<=512
 word:∀t∈all,∀i:Nat,i<16->Pi (AC A t.fr i) (C3 H all t.lv (t.pg+i*BX t.lv))
theorem Dd.at1{H:Nat->Ht}{n:Nat}{all:List P3}{A:List Int}(h:Dd H n all A)(i:Nat)(hi:i<16):Pi (AC A 0 i) (if AI all 2 (i*256:Nat)<0 then 0 else Aw 1 1 (AI all 2 (i*256:Nat)) 0):=by
 have:=h.word _ h.tb.root i hi;unfold C3 at this;dsimp only at this;rw[if_neg (by decide),if_neg (by simp),show BX 1=256 from rfl] at this;rw[show (1:Int)+1=2 from rfl,show (0:Int)+(i:Int)*256=((i*256:Nat):Int) by omega] at this;exact this
theorem Dd.l1{H:Nat->Ht}{n:Nat}{all:List P3}{A:List Int}(h:Dd H n all A)(i:Nat)(hi:i<16):(nd H 2 (i*256)=false/\AG 1 (AC A 0 i)=0)\/(nd H 2 (i*256)=true/\AG 1 (AC A 0 i)=1/\∃t∈all,t.lv=2/\t.pg=(i*256:Nat)/\AX 1 (AC A 0 i)=t.fr/\0<=t.fr/\t.fr<n):=by
 have hr:=JO 1 _ _ (by omega) (by omega) (h.at1 i hi);cases hd:nd H 2 (i*256)
 ·left
  have hno:=h.tb.no (lv:=2) (pg:=i*256) (fun hm=>by
   have:=(BY hm).2.2.2.1
   dsimp only at this
   rw[hd] at this
   cases this)
  rw[show ((2:Nat):Int)=2 from rfl] at hno;rw[hno,if_pos (by omega)] at hr;exact⟨rfl,hr.1.trans (Gs 1 0 (by omega) (by omega) rfl).1⟩
 ·right;obtain⟨t,ht,a,b,c,d0,d1⟩:=h.tb.of (Lg hi hd);rw[show ((2:Nat):Int)=2 from rfl] at c a;have:=h.n2;rw[c,if_neg (by omega)] at hr;obtain⟨e1,e2,_⟩:=Mv 1 t.fr (.inl rfl) d0 (by omega);exact⟨rfl,hr.1.trans e1,t,ht,a,b,hr.2.1.trans e2,d0,d1⟩
theorem Pr{H:Nat->Ht}(hl:P8 H)(P:Nat)(hP:P<4096)(hm:P%16=0)(hs:(H P).s=16):nd H 3 P=false:=by
 refine JE (by omega) (fun k hk=>?_);have hk16:k<16:=hk;have hb:=(hl.big P hP hs).2 k hk16;rw[show P-P%16=P by omega] at hb;unfold hB;rw[hb];simp
theorem Dd.l2{H:Nat->Ht}{n:Nat}{all:List P3}{A:List Int}(h:Dd H n all A)(i j:Nat)(hi:i<16)(hj:j<16)(t:P3)(ht:t∈all)(h2:t.lv=2)(hp:t.pg=(i*256:Nat)):((H (i*256+j*16)).s=16/\AG 2 (AC A t.fr j)=2/\AX 2 (AC A t.fr j)=(H (i*256+j*16)).o/\Ak 2 (AC A t.fr j)=(H (i*256+j*16)).p) \/ ((H (i*256+j*16)).s≠16/\nd H 3 (i*256+j*16)=false/\AG 2 (AC A t.fr j)=0) \/ ((H (i*256+j*16)).s≠16/\nd H 3 (i*256+j*16)=true/\AG 2 (AC A t.fr j)=1/\∃u∈all,u.lv=3/\u.pg=(i*256+j*16:Nat)/\AX 2 (AC A t.fr j)=u.fr/\0<=u.fr/\u.fr<n):=by
 have hw:=h.word t ht j hj;rw[h2,hp,show BX 2=16 from rfl,show ((i*256:Nat):Int)+(j:Int)*16=((i*256+j*16:Nat):Int) by omega] at hw;have hr:=JO 2 _ _ (by omega) (by omega) hw;generalize hx:AC A t.fr j=x at *;have hlt:i*256+j*16<4096:=by omega
 have ht:((i*256+j*16:Nat):Int).toNat=i*256+j*16:=Int.toNat_natCast _;unfold C3 at hr;rw[ht,if_neg (by decide)] at hr;by_cases hs:(H (i*256+j*16)).s=16
 ·left;rw[if_pos ⟨rfl,hs⟩] at hr;have hk:(H (i*256+j*16)).k=1:=by
   by_cases hk:(H (i*256+j*16)).k=1
   ·exact hk
   ·have:=h.lay.zero _ hlt hk;rw[this] at hs;exact absurd hs (by decide)
  obtain⟨o0,o1,p0,p1,_⟩:=h.lay.one _ hlt hk;have hb:=(h.lay.big _ hlt hs).1;rw[show i*256+j*16-(i*256+j*16)%16=i*256+j*16 by omega] at hb;obtain⟨e1,e2,e3⟩:=N7 _ _ o0 o1 hb p0 p1;exact⟨hs,hr.1.trans e1,hr.2.1.trans e2,hr.2.2.trans e3⟩
 ·rw[if_neg (fun hh=>hs hh.2),show (2:Int)+1=3 from rfl] at hr;cases hd:nd H 3 (i*256+j*16)
  ·right;left
   have hno:=h.tb.no (lv:=3) (pg:=i*256+j*16) (fun hm=>by
    have:=(BY hm).2.2.2.1
    dsimp only at this
    rw[hd] at this
    cases this)
   rw[show ((3:Nat):Int)=3 from rfl] at hno;rw[hno,if_pos (by omega)] at hr;exact⟨hs,rfl,hr.1.trans (Gs 2 0 (by omega) (by omega) rfl).1⟩
  ·right;right;have hmem:(3,i*256+j*16)∈AJ H 256:=by
    (have e:i*256+j*16=(i*16+j)*16:=by omega);rw[e] at hd ⊢;exact L9 (by omega) hd
   obtain⟨u,hu,a,b,c,d0,d1⟩:=h.tb.of hmem;rw[show ((3:Nat):Int)=3 from rfl] at c a;have:=h.n2;rw[c,if_neg (by omega)] at hr;obtain⟨e1,e2,_⟩:=Mv 2 u.fr (.inr rfl) d0 (by omega);exact⟨hs,rfl,hr.1.trans e1,u,hu,a,b,hr.2.1.trans e2,d0,d1⟩
theorem Zm(h:Ht){k o p s:Int}(e:h=⟨k,o,p,s⟩):(⟨h.k,h.o,h.p,h.s⟩:Di)=⟨k,o,p,s⟩:=by rw[e]
theorem G4(n page l x:Int)(R:Di)(h1:AG l x=1)(h2:AX l x<n)(h3:l<3):BK n page l x R=R:=by
 unfold BK;rw[if_neg (by omega),if_pos ⟨h1,h2,h3⟩]
theorem Dd.walk{H:Nat->Ht}{n:Nat}{all:List P3}{A:List Int}(h:Dd H n all A)(p:Nat)(hp:p<4096):BG A p=⟨(H p).k,(H p).o,(H p).p,(H p).s⟩:=by
 have hn0:An A.length≠0:=by rw[h.len];have:=h.n1;omega
 rw[Ni A p hn0 hp,h.len];have hi:p/256<16:=by omega
 have hj:p/16%16<16:=by omega
 have hP2:p/256*256+p/16%16*16=p-p%16:=by omega
 have hPlt:p-p%16<4096:=by omega
 have small:(H (p-p%16)).s≠16->(H p).k=1->(H p).s=1:=by
  intro hs hk;rcases(h.lay.one p hp hk).2.2.2.2 with e|e
  ·exact e
  ·have:=(h.lay.big p hp e).2 0 (by omega);rw[Nat.add_zero] at this;rw[this] at hs;exact absurd rfl hs
 rcases h.l1 (p/256) hi with⟨hd,hk⟩|⟨hd,hk,t,ht,t1,t2,t3,t4,t5⟩
 ·have hz:H p=Ru:=by
   refine h.lay.zero p hp (fun hk1=>?_)
   have:nd H 2 (p/256*256)=true:=Fi (k:=p-p/256*256) (by show p-p/256*256<256;omega) (by
    unfold hB
    rw[show p/256*256+(p-p/256*256)=p by omega,hk1]
    simp)
   rw[this] at hd;cases hd
  rw[hz];unfold BK;rw[show DG A p=AC A 0 (p/256) from rfl,if_pos hk];rfl
 ·have e1:BK n p 1 (DG A p) (BK n p 2 (DW A p) (BK n p 3 (JD A p) ⟨0,0,0,0⟩))=BK n p 2 (DW A p) (BK n p 3 (JD A p) ⟨0,0,0,0⟩):=by
   exact G4 _ _ _ _ _ hk (by rw[show DG A p=AC A 0 (p/256) from rfl,t3];exact t5) (by omega)
  rw[e1];have ew2:DW A p=AC A t.fr (p/16%16):=by
   unfold DW;rw[show DG A p=AC A 0 (p/256) from rfl,t3]
  have h2:=h.l2 (p/256) (p/16%16) hi hj t ht t1 t2;rw[hP2,<- ew2] at h2;rcases h2 with⟨hs,k2,o2,p2⟩|⟨hs,hd3,k2⟩|⟨hs,hd3,k2,u,hu,u1,u2,u3,u4,u5⟩
  ·have hb:=(h.lay.big _ hPlt hs).2 (p%16) (by omega);rw[show p-p%16-(p-p%16)%16=p-p%16 by omega,show p-p%16+p%16=p by omega] at hb;rw[Zm _ hb];unfold BK;rw[if_neg (by omega),if_neg (by omega),if_pos k2,o2,p2];simp
  ·have hz:H p=Ru:=by
    refine h.lay.zero p hp (fun hk1=>?_);have hs1:=small hs hk1
    have:nd H 3 (p-p%16)=true:=Fi (k:=p%16) (by show p%16<16;omega) (by
     unfold hB
     rw[show p-p%16+p%16=p by omega,hk1,hs1]
     simp)
    rw[this] at hd3;cases hd3
   rw[hz];unfold BK;rw[if_pos k2];rfl
  ·have e2:BK n p 2 (DW A p) (BK n p 3 (JD A p) ⟨0,0,0,0⟩)=BK n p 3 (JD A p) ⟨0,0,0,0⟩:=by
    exact G4 _ _ _ _ _ k2 (by omega) (by omega)
   rw[e2];have ew3:JD A p=AC A u.fr (p%16):=by
    unfold JD;rw[u3]
   have hw:=h.word u hu (p%16) (by omega);rw[u1,u2,show BX 3=1 from rfl,show ((p-p%16:Nat):Int)+((p%16:Nat):Int)*1=((p:Nat):Int) by omega,<- ew3] at hw;have hr:=JO 3 _ _ (by omega) (by omega) hw;unfold C3 at hr;rw[if_pos rfl,Int.toNat_natCast] at hr;by_cases hk1:(H p).k=1
   ·rw[if_pos hk1] at hr;obtain⟨o0,o1,p0,p1,_⟩:=h.lay.one p hp hk1;obtain⟨e3,e4,e5⟩:=UY _ _ o0 o1 p0 p1;unfold BK;rw[hr.1,hr.2.1,hr.2.2,e3,e4,e5,if_neg (by omega),if_neg (by omega),if_neg (by omega),if_pos rfl,small hs hk1,hk1]
   ·rw[if_neg hk1] at hr;rw[h.lay.zero p hp hk1];unfold BK;rw[hr.1,(Gs 3 0 (by omega) (by omega) rfl).1,if_pos rfl];rfl
end Go.Proofs.YtnmhkgmmpkjjeaaGreat
