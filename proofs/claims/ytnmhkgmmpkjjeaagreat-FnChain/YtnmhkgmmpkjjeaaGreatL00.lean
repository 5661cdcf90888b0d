import Derived.WalkKit
import Derived.ProofKit
import Derived.Deep.RegionHeld3
import Derived.Below
import Derived.Test.YtnmhkgmmpkjjeaaGreatRows
import Derived.OpenShut
import Derived.Deep.OwnRows
import Derived.Deep.QuietTactic
import Derived.BigQuiet
import Derived.Deep.AppendLies
import Derived.Deep.DrawnRows
import Derived.Deep.DeepCutAuto
namespace Go.Proofs.YtnmhkgmmpkjjeaaGreat
open Go.ChangeShapes Go.WideShapes Go.ChangeAt Go.RowKit
abbrev fz (w:World) (b o:Nat):Bool:=w.frozen? ⟨b,o,none⟩
theorem br {n:Nat} {w:World}:Below n w w:=Below.refl n w
theorem Ao {w:World} {o:Obj}:Below w.heap.size w (w.alloc o):=(Below.refl _ _).alloc (Nat.le_refl _) o
theorem Eg {w w':World} {a:Addr} (h:w'.heap[a.block]?=w.heap[a.block]?):w'.cell? a=w.cell? a:=World.cell?_of_block h
theorem Wx {w w':World} {a:Addr} (h:w'.heap[a.block]?=w.heap[a.block]?):w'.frozen? a=w.frozen? a:=World.frozen?_of_block h
theorem Wi {w wF:World} {B:Nat} {v0 v1 v2 v3 r0 r1 r2 r3:Value} (h:wF=((((w.setCell ⟨B,0,none⟩ v0).setCell ⟨B,1,none⟩ v1).setCell ⟨B,2,none⟩ v2).setCell ⟨B,3,none⟩ v3)) (h0:w.cell? ⟨B,0,none⟩=some r0) (h1:w.cell? ⟨B,1,none⟩=some r1) (h2:w.cell? ⟨B,2,none⟩=some r2) (h3:w.cell? ⟨B,3,none⟩=some r3):wF.cell? ⟨B,0,none⟩=some v0/\wF.cell? ⟨B,1,none⟩=some v1/\wF.cell? ⟨B,2,none⟩=some v2/\wF.cell? ⟨B,3,none⟩=some v3:=by
 subst h;refine⟨?_,?_,?_,?_⟩<;>simp[go_sem, *]
theorem WW {w wF:World} {B:Nat} {v0 v1 v2 v3 v4 v5 v6 r0 r1 r2 r3 r4 r5 r6:Value} (h:wF=(((((((w.setCell ⟨B,0,none⟩ v0).setCell ⟨B,1,none⟩ v1).setCell ⟨B,2,none⟩ v2).setCell ⟨B,3,none⟩ v3).setCell ⟨B,4,none⟩ v4).setCell ⟨B,5,none⟩ v5).setCell ⟨B,6,none⟩ v6)) (h0:w.cell? ⟨B,0,none⟩=some r0) (h1:w.cell? ⟨B,1,none⟩=some r1) (h2:w.cell? ⟨B,2,none⟩=some r2) (h3:w.cell? ⟨B,3,none⟩=some r3) (h4:w.cell? ⟨B,4,none⟩=some r4) (h5:w.cell? ⟨B,5,none⟩=some r5) (h6:w.cell? ⟨B,6,none⟩=some r6):wF.cell? ⟨B,0,none⟩=some v0/\wF.cell? ⟨B,1,none⟩=some v1/\wF.cell? ⟨B,2,none⟩=some v2/\wF.cell? ⟨B,3,none⟩=some v3/\wF.cell? ⟨B,4,none⟩=some v4/\wF.cell? ⟨B,5,none⟩=some v5/\wF.cell? ⟨B,6,none⟩=some v6:=by
 subst h;refine⟨?_,?_,?_,?_,?_,?_,?_⟩<;>simp[go_sem, *]
section
variable {P:Program} {ops:Array Oper} {Q:Exit->Act->World->Prop} {md:Region.Mode} {S:World->Prop}
theorem tk (i:Nat) {oi:Oper} {v:Value} {fuel:Nat} {listed:Array Bool} {a a':Act} {w:World} (h:wpAnyH P md ops Q S fuel (listed.setIfInBounds i true) a' w) (hi:ops[i]?=some oi:=by rfl) (hs:Region.noSelect ops=true:=by kernel_rfl) (hf:Region.free md ops listed i=true:=by kernel_rfl) (hr:(Region.ready md ops listed).contains i=true:=by kernel_rfl) (hQ:∀c a w,Q (.panic c) (a.put oi.dst v) w->Q (.panic c) a w:=by exact fun _ _ _ h=>h) (hw:Region.wanted oi (yielded ops a.tmps)=true:=by rfl) (hy:∀w,S w->(execOp a.eval oi).run P w=.ok (.value v) w:=by (intro w hSw;(try dsimp only at hSw);go_simp;try with_reducible rfl)) (hS:S w:=by assumption) (ha:a.put oi.dst v=a':=by (simp only[Act.put,List.setIfInBounds_toArray,List.set_cons_zero,List.set_cons_succ,List.getElem_toArray,List.getElem_cons_zero,List.getElem_cons_succ];rfl)):wpAnyH P md ops Q S (fuel+1) listed a w :=
 wpAnyH_take hi hs hf hr hQ (Or.inl ⟨hw,hy⟩) hS (by rw[ha];exact h)
theorem sk (i:Nat) {oi:Oper} {fuel:Nat} {listed:Array Bool} {a a':Act} {w:World} (h:wpAnyH P md ops Q S fuel (listed.setIfInBounds i true) a' w) (hi:ops[i]?=some oi:=by rfl) (hs:Region.noSelect ops=true:=by kernel_rfl) (hf:Region.free md ops listed i=true:=by kernel_rfl) (hr:(Region.ready md ops listed).contains i=true:=by kernel_rfl) (hQ:∀c a w,Q (.panic c) (a.put oi.dst undef) w->Q (.panic c) a w:=by exact fun _ _ _ h=>h) (hw:Region.wanted oi (yielded ops a.tmps)=false:=by rfl) (hS:S w:=by assumption) (ha:a.put oi.dst undef=a':=by (simp only[Act.put,List.setIfInBounds_toArray,List.set_cons_zero,List.set_cons_succ,List.getElem_toArray,List.getElem_cons_zero,List.getElem_cons_succ];rfl)):wpAnyH P md ops Q S (fuel+1) listed a w :=
 wpAnyH_take hi hs hf hr hQ (Or.inr ⟨hw,rfl⟩) hS (by rw[ha];exact h)
end
end Go.Proofs.YtnmhkgmmpkjjeaaGreat
namespace Go.Proofs.YtnmhkgmmpkjjeaaGreat
open Go.ChangeShapes Go.WideShapes Go.ChangeAt Go.RowKit
set_option linter.unusedVariables false
structure Dc (α:Type) where
 T:TypeId
 sz:Nat
 enc:α->List Value
 dflt:α
 pos:0<sz
 len:∀a,(enc a).length=sz
section
variable {α:Type} (E:Dc α)
def AE (xs:List α):List Value:=xs.flatMap E.enc
def AI (xs:List α) (i:Nat):α:=xs.getD i E.dflt
theorem Dv (xs:List α):(AE E xs).length=xs.length*E.sz:=by
 induction xs with
 | nil=>simp[AE]
 | cons p r ih =>
  have e:AE E (p :: r)=E.enc p++AE E r:=rfl;rw[e,List.length_append,ih,E.len,List.length_cons,Nat.add_mul];omega
theorem C4 (a b:List α):AE E (a++b)=AE E a++AE E b:=by simp[AE]
theorem Ee (xs:List α):∀i,i<xs.length->∀j,j<E.sz->(AE E xs)[i*E.sz+j]?=(E.enc (AI E xs i))[j]?:=by
 induction xs with
 | nil=>intro i hi;simp at hi
 | cons p r ih =>
  intro i hi j hj;have e:AE E (p :: r)=E.enc p++AE E r:=rfl;rw[e];cases i with
  | zero =>
   rw[Nat.zero_mul,Nat.zero_add,List.getElem?_append_left (by rw[E.len];exact hj)];rfl
  | succ i =>
   rw[List.getElem?_append_right (by rw[E.len,Nat.add_mul];omega),E.len,show (i+1)*E.sz+j-E.sz=i*E.sz+j by rw[Nat.add_mul];omega];exact ih i (by simpa using hi) j hj
theorem Jb {n sz i j:Nat} (hi:i<n) (hj:j<sz):i*sz+j<n*sz:=by
 have h:(i+1)*sz<=n*sz:=Nat.mul_le_mul_right sz hi;rw[Nat.add_mul] at h;omega
def A6 (w:World) (base:Nat) (v:Value) (xs:List α):Prop:=w.ownsRow base E.T E.sz v xs.length (AE E xs)
def C8 (xs:List α) (i j:Nat):Value:=((E.enc (AI E xs i))[j]?).getD (.bool false)
variable {E}
theorem A6.form {w:World} {base:Nat} {v:Value} {xs:List α} (h:A6 E w base v xs):∃a cap,v=.slice a xs.length cap/\(0<xs.length->∃g N f,a=some ⟨g,0,none⟩/\base<=g/\w.rowIs g E.T N f/\xs.length*E.sz<=N/\∀i,i<xs.length->∀j,j<E.sz->f (i*E.sz+j)=C8 E xs i j):=by
 rcases h.2 with⟨rfl,h0⟩|⟨g,cap,cur,rfl,hb,hg,hn,hm,hs,ht⟩
 ·rw[h0];exact⟨none,0,rfl,fun h=>absurd h (by omega)⟩
 ·refine⟨_,cap,rfl,fun _=>⟨g,cur.size,fun i=>cur.getD i (.bool false),rfl,hb,⟨cur,hg,rfl,fun i hi=>by simp[hi]⟩,by rw[hs];exact Nat.mul_le_mul_right _ hn,fun i hi j hj=>?_⟩⟩;have hu:=Ee E xs i hi j hj;rw[<- ht,List.getElem?_take,if_pos (Jb hi hj)] at hu;simp only[Array.getElem?_toList] at hu;simp[Array.getD_eq_getD_getElem?,hu,C8]
theorem A6.of_row {w:World} {base g n cap N:Nat} {f:Nat->Value} {xs:List α} (hx:xs.length=n) (hb:base<=g) (hr:w.rowIs g E.T N f) (hN:N=cap*E.sz) (hc:n<=cap) (hm:cap<=maxLen) (hf:∀i,i<n->∀j,j<E.sz->f (i*E.sz+j)=C8 E xs i j) : A6 E w base (.slice (some ⟨g,0,none⟩) n cap) xs:=by
 obtain⟨cur,hg,hs,hc2⟩:=hr;subst hx;refine⟨Dv E xs,.inr ⟨g,cap,cur,rfl,hb,hg,hc,hm,by rw[hs,hN],?_⟩⟩;apply List.ext_getElem?;intro q;by_cases hq:q<xs.length*E.sz
 ·have hpos:=E.pos;have hqi:q/E.sz<xs.length:=(Nat.div_lt_iff_lt_mul hpos).2 hq;have hqj:q%E.sz<E.sz:=Nat.mod_lt _ hpos;have e:q=q/E.sz*E.sz+q%E.sz:=by rw[Nat.mul_comm];exact(Nat.div_add_mod q E.sz).symm
  have hlt:q<N:=by rw[hN];exact Nat.lt_of_lt_of_le hq (Nat.mul_le_mul_right _ hc)
  have h1:=hc2 q hlt;have h2:=Ee E xs _ hqi _ hqj;have h3:=hf _ hqi _ hqj;rw[<- e] at h2 h3;rw[List.getElem?_take,if_pos hq,Array.getElem?_toList,h1,h2,h3];unfold C8;rw[List.getElem?_eq_getElem (by rw[E.len];exact hqj)];rfl
 ·rw[List.getElem?_eq_none (by rw[List.length_take];omega),List.getElem?_eq_none (by rw[Dv];omega)]
theorem A6.below {w w':World} {base:Nat} {v:Value} {xs:List α} (h:A6 E w base v xs) (hb:Below w.heap.size w w'):A6 E w' base v xs :=
 World.ownsRow.kept (row:=none) h ⟨hb.os,hb.tape,hb.output,hb.size,fun k hk _=>hb.block k hk⟩ (by cases hv:v.ownBlock<;>simp)
theorem A6.kept {w w':World} {base:Nat} {v:Value} {xs:List α} {row:Option Nat} (h:A6 E w base v xs) (hg:w.grownBy w' row) (hne:∀k,v.ownBlock=some k->some k≠row):A6 E w' base v xs :=
 World.ownsRow.kept h hg (by
  cases hv:v.ownBlock with
  | none=>exact .inl rfl
  | some k=>exact .inr (hne k hv))
theorem A6.rebase {w:World} {base base':Nat} {v:Value} {xs:List α} (h:A6 E w base v xs) (hb:base'<=base):A6 E w base' v xs:=by
 refine⟨h.1,?_⟩;rcases h.2 with hh|⟨g,cap,cur,e,hg,r⟩
 ·exact .inl hh
 ·exact .inr ⟨g,cap,cur,e,Nat.le_trans hb hg,r⟩
theorem A6.own {w:World} {base:Nat} {v:Value} {xs:List α} (h:A6 E w base v xs):∀k,v.ownBlock=some k->base<=k/\k<w.heap.size:=World.ownsRow.lt h
variable (E)
variable {E}
end
theorem Bp {w wr:World} {g:Nat} (h:w.grownBy wr (some g)) (i:Nat) (v:Value):w.grownBy (wr.setCell ⟨g,i,none⟩ v) (some g) :=
 ⟨h.os,h.tape,h.output,by simpa using h.size,fun j hj hne=>(Below.heap_setCell _ _ _ _ (by intro e;exact hne (by rw[e]))).trans (h.block j hj hne)⟩
theorem DD {α:Type} (E:Dc α) (xs:List α) (t:Nat) (h:t<xs.length):xs.take (t+1)=xs.take t++[AI E xs t]:=by
 rw[List.take_succ_eq_append_getElem h];simp[AI,h]
theorem A6.empty {α:Type} (E:Dc α) (w:World) (B:Nat) (hb:B<=w.heap.size):A6 E (w.alloc (.cells #[] E.T)) B (.slice (some ⟨w.heap.size,0,none⟩) 0 0) [] :=
 ⟨by simp[AE],.inr ⟨w.heap.size,0,#[],rfl,hb,heap_alloc_new w _,Nat.le_refl _,by unfold maxLen;omega,by simp,by simp[AE]⟩⟩
end Go.Proofs.YtnmhkgmmpkjjeaaGreat
namespace Go.Proofs.YtnmhkgmmpkjjeaaGreat
open Go.ChangeShapes Go.WideShapes Go.ChangeAt Go.RowKit
set_option linter.unusedVariables false
attribute [local go_sem ↓] Go.wp_at_zero Go.wp_at_succ
structure AF where
 page:Int
 count:Int
 out:Int
 perm:Int
 huge:Bool
def A8:Dc AF:=⟨103,5,fun x=>[.int .i64 x.page,.int .i64 x.count,.int .i64 x.out,.int .i64 x.perm,.bool x.huge],⟨0,0,0,0,false⟩,by omega,fun _=>rfl⟩
theorem SM:(Tryz.prog.info? 103).map (fun i=>(i.zero,i.size,i.bytes))=some (some (.agg #[.int .i64 0,.int .i64 0,.int .i64 0,.int .i64 0,.bool false]),5,40):=by kernel_rfl
def RY (x:AF):Prop:=-9223372036854775808<=x.page/\x.page<=9223372036854775807/\-9223372036854775808<=x.count/\x.count<=9223372036854775807/\-9223372036854775808<=x.out/\x.out<=9223372036854775807/\-9223372036854775808<=x.perm/\x.perm<=9223372036854775807
def AU (x:AF):Bool:=decide (1<=x.count/\0<=x.page/\x.page+x.count<=4096/\0<=x.out/\x.out+x.count<=65536/\1<=x.perm/\x.perm<=7)
theorem BF {x:AF}:AU x=true↔(1<=x.count/\0<=x.page/\x.page+x.count<=4096/\0<=x.out/\x.out+x.count<=65536/\1<=x.perm/\x.perm<=7):=by simp[AU]
def C5 (a b:AF):Bool:=decide (b.page=a.page+a.count/\b.out=a.out+a.count/\b.perm=a.perm/\b.huge=a.huge)
def DB (a b:AF):Bool:=decide (a.page+a.count<=b.page)&&!C5 a b
def VS (xs:List AF):Prop:=(∀i,i<xs.length->AU (AI A8 xs i)=true)/\∀i,i+1<xs.length->DB (AI A8 xs i) (AI A8 xs (i+1))=true
def Eh (xs:List AF):Bool:=(List.range xs.length).all (fun i=>AU (AI A8 xs i))&&(List.range (xs.length-1)).all (fun i=>DB (AI A8 xs i) (AI A8 xs (i+1)))
theorem MQ {xs:List AF}:Eh xs=true↔VS xs:=by
 unfold Eh VS;rw[Bool.and_eq_true,List.all_eq_true,List.all_eq_true];exact⟨fun h=>⟨fun i hi=>h.1 i (List.mem_range.2 hi),fun i hi=>h.2 i (List.mem_range.2 (by omega))⟩,fun h=>⟨fun i hi=>h.1 i (List.mem_range.1 hi),fun i hi=>h.2 i (by have:=List.mem_range.1 hi;omega)⟩⟩
theorem Nu {xs:List AF} (h:VS xs):Eh xs=true:=MQ.2 h
theorem Lx {xs:List AF} (h:¬VS xs):Eh xs=false:=by
 cases hb:Eh xs
 ·rfl
 ·exact absurd (MQ.1 hb) h
theorem VS.of_true {xs:List AF} (h:Eh xs=true):VS xs:=MQ.1 h
end Go.Proofs.YtnmhkgmmpkjjeaaGreat
namespace Go.Proofs.YtnmhkgmmpkjjeaaGreat
open Go.ChangeShapes Go.WideShapes Go.ChangeAt Go.RowKit
set_option linter.unusedVariables false
structure Ht where
 k:Int
 o:Int
 p:Int
 s:Int
def Qe:Ht:=⟨0,0,0,0⟩
def Hl (e:AF) (page:Int):Bool:=decide (e.page<=page/\page<e.page+e.count)
def Cy (e:AF) (page:Int):Bool:=e.huge&&decide (e.page<=page-page%16/\page-page%16+16<=e.page+e.count/\(e.out+(page-page%16)-e.page)%16=0)
def H8 (e:AF) (page:Int):Ht:=⟨1,e.out+page-e.page,e.perm,if Cy e page then 16 else 1⟩
def DH (xs:List AF) (page:Int):Ht:=match xs.find? (fun e=>Hl e page) with
 | some e=>H8 e page
 | none=>Qe
theorem NX (page:Int):∀(xs:List AF) (k:Nat),k<xs.length->(∀j,j<k->Hl (AI A8 xs j) page=false)->Hl (AI A8 xs k) page=true->xs.find? (fun e=>Hl e page)=some (AI A8 xs k)
 | [],k,hk,_,_=>absurd hk (by simp)
 | x :: r,0,_,_,h=>by
  have h':Hl x page=true:=h;rw[List.find?_cons_of_pos (by exact h')];rfl
 | x :: r,k+1,hk,hn,h=>by
  have h0:Hl x page=false:=hn 0 (by omega);rw[List.find?_cons_of_neg (by rw[h0];decide)];exact NX page r k (by simpa using hk) (fun j hj=>hn (j+1) (by omega)) h
theorem Mx (page:Int) (xs:List AF) (k:Nat) (hk:k<xs.length) (hn:∀j,j<k->Hl (AI A8 xs j) page=false) (h:Hl (AI A8 xs k) page=true):DH xs page=H8 (AI A8 xs k) page:=by
 unfold DH;rw[NX page xs k hk hn h]
theorem NC (page:Int) (xs:List AF) (hn:∀j,j<xs.length->Hl (AI A8 xs j) page=false):DH xs page=Qe:=by
 have:xs.find? (fun e=>Hl e page)=none:=by
  rw[List.find?_eq_none];intro e he;obtain⟨i,hi,rfl⟩:=List.getElem_of_mem he;have:=hn i hi;unfold AI at this;rw[List.getD_eq_getElem?_getD,List.getElem?_eq_getElem hi] at this;have h2:Hl xs[i] page=false:=this;rw[h2];decide
 unfold DH;rw[this]
theorem VS.order {xs:List AF} (h:VS xs) (i:Nat):∀d,i+d+1<xs.length->(AI A8 xs i).page+(AI A8 xs i).count<=(AI A8 xs (i+d+1)).page
 | 0,hd=>by
  have:=h.2 i hd;unfold DB at this;simp only[Bool.and_eq_true,decide_eq_true_eq] at this;exact this.1
 | d+1,hd=>by
  have h1:=VS.order h i d (by omega);have h2:=h.2 (i+d+1) hd;unfold DB at h2;simp only[Bool.and_eq_true,decide_eq_true_eq] at h2;have h3:=BF.1 (h.1 (i+d+1) (by omega));have h4:=h2.1;have e:i+(d+1)+1=i+d+1+1:=by omega
  rw[e];omega
theorem VS.lt {xs:List AF} (h:VS xs) (i j:Nat) (hij:i<j) (hj:j<xs.length):(AI A8 xs i).page+(AI A8 xs i).count<=(AI A8 xs j).page:=by
 have:=h.order i (j-i-1) (by omega);rwa [show i+(j-i-1)+1=j by omega] at this
def Df (xs:List AF) (page:Int) (i:Nat):Bool:=decide (page<(AI A8 xs i).page+(AI A8 xs i).count)
theorem OL {xs:List AF} (h:VS xs) (page:Int) (a b:Nat) (hab:a<=b) (hb:b<xs.length) (ha:Df xs page a=true):Df xs page b=true:=by
 by_cases e:a=b
 ·rw[<- e];exact ha
 ·have h1:=h.lt a b (by omega) hb;have h2:=BF.1 (h.1 b hb);unfold Df at ha ⊢;simp only[decide_eq_true_eq] at ha ⊢;omega
theorem G7 {xs:List AF} (h:VS xs) (page:Int) (r:Nat) (h1:∀t,t<r->Df xs page t=false) (h2:r=xs.length\/(r<xs.length/\Df xs page r=true/\page<(AI A8 xs r).page)):DH xs page=Qe:=by
 refine NC page xs (fun j hj=>?_);unfold Hl;rw[decide_eq_false_iff_not];by_cases hjr:j<r
 ·have:=h1 j hjr;unfold Df at this;simp only[decide_eq_false_iff_not] at this;omega
 ·rcases h2 with e|⟨hr,he,hp⟩
  ·omega
  ·by_cases e:j=r
   ·rw[e];omega
   ·have h3:=h.lt r j (by omega) hj;have h4:=BF.1 (h.1 r hr);omega
theorem LR {xs:List AF} (page:Int) (r:Nat) (hr:r<xs.length) (h1:∀t,t<r->Df xs page t=false) (he:Df xs page r=true) (hp:(AI A8 xs r).page<=page):DH xs page=H8 (AI A8 xs r) page:=by
 refine Mx page xs r hr (fun j hj=>?_) ?_
 ·have:=h1 j hj;unfold Df at this;simp only[decide_eq_false_iff_not] at this;unfold Hl;rw[decide_eq_false_iff_not];omega
 ·unfold Df at he;unfold Hl;simp only[decide_eq_true_eq] at he ⊢;exact⟨hp,he⟩
def F4 (xs:List AF) (page:Int):Ht:=if Eh xs=true/\0<=page/\page<4096 then DH xs page else Qe
theorem I5 {w:World} {b cap:Nat} {a:Option Addr} {xs:List AF} (h:A6 A8 w b (.slice a xs.length cap) xs) : ∃g,(0<xs.length->a=some ⟨g,0,none⟩/\g<w.heap.size)/\∀k P C O R G,k<xs.length->AI A8 xs k=⟨P,C,O,R,G⟩->∀wX,Below w.heap.size w wX->wX.cell? ⟨g,k*5,none⟩=some (.int .i64 P)/\wX.cell? ⟨g,k*5+1,none⟩=some (.int .i64 C)/\wX.cell? ⟨g,k*5+2,none⟩=some (.int .i64 O)/\wX.cell? ⟨g,k*5+3,none⟩=some (.int .i64 R)/\wX.cell? ⟨g,k*5+4,none⟩=some (.bool G):=by
 obtain⟨a',c',e,hf⟩:=h.form;simp only[Value.slice.injEq] at e;obtain⟨rfl,_,_⟩:=e;by_cases h0:0<xs.length
 ·obtain⟨g,N,f,rfl,_,hr,hN,hc⟩:=hf h0;have hN':xs.length*5<=N:=hN;refine⟨g,fun _=>⟨rfl,hr.lt⟩,fun k P C O R G hk he wX hX=>?_⟩;have hr1:wX.rowIs g 103 N f:=hr.of_block (hX.block g hr.lt);have c:∀j,j<5->wX.cell? ⟨g,k*5+j,none⟩=some (C8 A8 xs k j):=fun j hj=>by
   rw[hr1.cell (by omega)];exact congrArg some (hc k hk j hj)
  have e0:∀j,C8 A8 xs k j=((A8.enc ⟨P,C,O,R,G⟩)[j]?).getD (.bool false):=fun j=>by unfold C8;rw[he]
  exact⟨(c 0 (by omega)).trans (by rw[e0];rfl),(c 1 (by omega)).trans (by rw[e0];rfl),(c 2 (by omega)).trans (by rw[e0];rfl),(c 3 (by omega)).trans (by rw[e0];rfl),(c 4 (by omega)).trans (by rw[e0];rfl)⟩
 ·exact⟨0,fun h=>absurd h h0,fun k P C O R G hk=>absurd hk (by omega)⟩
end Go.Proofs.YtnmhkgmmpkjjeaaGreat
namespace Go.Proofs.YtnmhkgmmpkjjeaaGreat
open Go.ChangeShapes Go.WideShapes Go.ChangeAt Go.RowKit
set_option linter.unusedVariables false
attribute [local go_sem ↓] Go.wp_at_zero Go.wp_at_succ
theorem My (p c o r:Int) (g:Bool) (w:World) (hw:RY ⟨p,c,o,r,g⟩) : Calls Tryz.prog 117 #[.agg #[.int .i64 p,.int .i64 c,.int .i64 o,.int .i64 r,.bool g]] w fun e w'=>e=.returned (.bool (AU ⟨p,c,o,r,g⟩))/\Below w.heap.size w w':=by
 obtain⟨hp1,hp2,hc1,hc2,ho1,ho2,hr1,hr2⟩:=hw;dsimp only at hp1 hp2 hc1 hc2 ho1 ho2 hr1 hr2;by_cases h0:c<1
 ·have d0:decide (c<1)=true:=by simpa using h0
  have hr:AU ⟨p,c,o,r,g⟩=false:=decide_eq_false (by dsimp only;omega);rw[hr];clear hr;go_enter Tryz.func117,Tryz.ntmps117
  go_wp2_with fail
  go_ret;exact⟨rfl,(Below.refl _ _).alloc (Nat.le_refl _) _⟩
 ·have d0:decide (c<1)=false:=by simpa using h0
  by_cases h1:4096<c
  ·(have d1:decide (4096<c)=true:=by simpa using h1);have hr:AU ⟨p,c,o,r,g⟩=false:=decide_eq_false (by dsimp only;omega);rw[hr];clear hr;(go_enter Tryz.func117,Tryz.ntmps117);(go_wp2_with fail);go_ret;exact⟨rfl,(Below.refl _ _).alloc (Nat.le_refl _) _⟩
  ·(have d1:decide (4096<c)=false:=by simpa using h1);by_cases h2:r<1
   ·(have d2:decide (r<1)=true:=by simpa using h2);have hr:AU ⟨p,c,o,r,g⟩=false:=decide_eq_false (by dsimp only;omega);rw[hr];clear hr;(go_enter Tryz.func117,Tryz.ntmps117);(go_wp2_with fail);go_ret;exact⟨rfl,(Below.refl _ _).alloc (Nat.le_refl _) _⟩
   ·(have d2:decide (r<1)=false:=by simpa using h2);by_cases h3:7<r
    ·(have d3:decide (7<r)=true:=by simpa using h3);have hr:AU ⟨p,c,o,r,g⟩=false:=decide_eq_false (by dsimp only;omega);rw[hr];clear hr;(go_enter Tryz.func117,Tryz.ntmps117);(go_wp2_with fail);go_ret;exact⟨rfl,(Below.refl _ _).alloc (Nat.le_refl _) _⟩
    ·(have d3:decide (7<r)=false:=by simpa using h3);by_cases h4:p<0
     ·(have d4:decide (p<0)=true:=by simpa using h4);have hr:AU ⟨p,c,o,r,g⟩=false:=decide_eq_false (by dsimp only;omega);rw[hr];clear hr;(go_enter Tryz.func117,Tryz.ntmps117);(go_wp2_with fail);go_ret;exact⟨rfl,(Below.refl _ _).alloc (Nat.le_refl _) _⟩
     ·(have d4:decide (p<0)=false:=by simpa using h4);by_cases h5:4096<=p
      ·(have d5:decide (4096<=p)=true:=by simpa using h5);have hr:AU ⟨p,c,o,r,g⟩=false:=decide_eq_false (by dsimp only;omega);rw[hr];clear hr;(go_enter Tryz.func117,Tryz.ntmps117);(go_wp2_with fail);go_ret;exact⟨rfl,(Below.refl _ _).alloc (Nat.le_refl _) _⟩
      ·(have d5:decide (4096<=p)=false:=by simpa using h5);by_cases h6:4096<p+c
       ·(have d6:decide (4096<p+c)=true:=by simpa using h6);have hr:AU ⟨p,c,o,r,g⟩=false:=decide_eq_false (by dsimp only;omega);rw[hr];clear hr;(go_enter Tryz.func117,Tryz.ntmps117);(go_wp2_with fail);go_ret;exact⟨rfl,(Below.refl _ _).alloc (Nat.le_refl _) _⟩
       ·(have d6:decide (4096<p+c)=false:=by simpa using h6);by_cases h7:0<=o
        ·(have d7:decide (0<=o)=true:=by simpa using h7);by_cases h8:o<65536
         ·(have d8:decide (o<65536)=true:=by simpa using h8);by_cases h9:o+c<=65536
          ·(have d9:decide (o+c<=65536)=true:=by simpa using h9);have hr:AU ⟨p,c,o,r,g⟩=true:=decide_eq_true (by dsimp only;omega);rw[hr];clear hr;(go_enter Tryz.func117,Tryz.ntmps117);(go_wp2_with fail);go_ret;exact⟨rfl,(Below.refl _ _).alloc (Nat.le_refl _) _⟩
          ·(have d9:decide (o+c<=65536)=false:=by simpa using h9);have hr:AU ⟨p,c,o,r,g⟩=false:=decide_eq_false (by dsimp only;omega);rw[hr];clear hr;(go_enter Tryz.func117,Tryz.ntmps117);(go_wp2_with fail);go_ret;exact⟨rfl,(Below.refl _ _).alloc (Nat.le_refl _) _⟩
         ·(have d8:decide (o<65536)=false:=by simpa using h8);have hr:AU ⟨p,c,o,r,g⟩=false:=decide_eq_false (by dsimp only;omega);rw[hr];clear hr;(go_enter Tryz.func117,Tryz.ntmps117);(go_wp2_with fail);go_ret;exact⟨rfl,(Below.refl _ _).alloc (Nat.le_refl _) _⟩
        ·(have d7:decide (0<=o)=false:=by simpa using h7);have hr:AU ⟨p,c,o,r,g⟩=false:=decide_eq_false (by dsimp only;omega);rw[hr];clear hr;(go_enter Tryz.func117,Tryz.ntmps117);(go_wp2_with fail);go_ret;exact⟨rfl,(Below.refl _ _).alloc (Nat.le_refl _) _⟩
theorem Kv (p c o r:Int) (g:Bool) (w:World) (hw:RY ⟨p,c,o,r,g⟩) : Calls Tryz.prog 106 #[.agg #[.int .i64 p,.int .i64 c,.int .i64 o,.int .i64 r,.bool g]] w fun e w'=>e=.returned (.bool (AU ⟨p,c,o,r,g⟩))/\Below w.heap.size w w':=by
 obtain⟨hp1,hp2,hc1,hc2,ho1,ho2,hr1,hr2⟩:=hw;dsimp only at hp1 hp2 hc1 hc2 ho1 ho2 hr1 hr2;by_cases h0:1<=c
 ·have d0:decide (1<=c)=true:=by simpa using h0
  by_cases h1:0<=p
  ·(have d1:decide (0<=p)=true:=by simpa using h1);by_cases h2:p<=4096-c
   ·(have d2:decide (p<=4096-c)=true:=by simpa using h2);by_cases h3:0<=o
    ·(have d3:decide (0<=o)=true:=by simpa using h3);by_cases h4:o<=65536-c
     ·(have d4:decide (o<=65536-c)=true:=by simpa using h4);by_cases h5:1<=r
      ·(have d5:decide (1<=r)=true:=by simpa using h5);by_cases h6:r<=7
       ·(have d6:decide (r<=7)=true:=by simpa using h6);have hr:AU ⟨p,c,o,r,g⟩=true:=decide_eq_true (by dsimp only;omega);rw[hr];clear hr;(go_enter Tryz.func106,Tryz.ntmps106);(go_wp2_with fail);go_ret;exact⟨rfl,(Below.refl _ _).alloc (Nat.le_refl _) _⟩
       ·(have d6:decide (r<=7)=false:=by simpa using h6);have hr:AU ⟨p,c,o,r,g⟩=false:=decide_eq_false (by dsimp only;omega);rw[hr];clear hr;(go_enter Tryz.func106,Tryz.ntmps106);(go_wp2_with fail);go_ret;exact⟨rfl,(Below.refl _ _).alloc (Nat.le_refl _) _⟩
      ·(have d5:decide (1<=r)=false:=by simpa using h5);have hr:AU ⟨p,c,o,r,g⟩=false:=decide_eq_false (by dsimp only;omega);rw[hr];clear hr;(go_enter Tryz.func106,Tryz.ntmps106);(go_wp2_with fail);go_ret;exact⟨rfl,(Below.refl _ _).alloc (Nat.le_refl _) _⟩
     ·(have d4:decide (o<=65536-c)=false:=by simpa using h4);have hr:AU ⟨p,c,o,r,g⟩=false:=decide_eq_false (by dsimp only;omega);rw[hr];clear hr;(go_enter Tryz.func106,Tryz.ntmps106);(go_wp2_with fail);go_ret;exact⟨rfl,(Below.refl _ _).alloc (Nat.le_refl _) _⟩
    ·(have d3:decide (0<=o)=false:=by simpa using h3);have hr:AU ⟨p,c,o,r,g⟩=false:=decide_eq_false (by dsimp only;omega);rw[hr];clear hr;(go_enter Tryz.func106,Tryz.ntmps106);(go_wp2_with fail);go_ret;exact⟨rfl,(Below.refl _ _).alloc (Nat.le_refl _) _⟩
   ·(have d2:decide (p<=4096-c)=false:=by simpa using h2);have hr:AU ⟨p,c,o,r,g⟩=false:=decide_eq_false (by dsimp only;omega);rw[hr];clear hr;(go_enter Tryz.func106,Tryz.ntmps106);(go_wp2_with fail);go_ret;exact⟨rfl,(Below.refl _ _).alloc (Nat.le_refl _) _⟩
  ·(have d1:decide (0<=p)=false:=by simpa using h1);have hr:AU ⟨p,c,o,r,g⟩=false:=decide_eq_false (by dsimp only;omega);rw[hr];clear hr;(go_enter Tryz.func106,Tryz.ntmps106);(go_wp2_with fail);go_ret;exact⟨rfl,(Below.refl _ _).alloc (Nat.le_refl _) _⟩
 ·have d0:decide (1<=c)=false:=by simpa using h0
  have hr:AU ⟨p,c,o,r,g⟩=false:=decide_eq_false (by dsimp only;omega);rw[hr];clear hr;go_enter Tryz.func106,Tryz.ntmps106
  go_wp2_with fail
  go_ret;exact⟨rfl,(Below.refl _ _).alloc (Nat.le_refl _) _⟩
end Go.Proofs.YtnmhkgmmpkjjeaaGreat
namespace Go.Proofs.YtnmhkgmmpkjjeaaGreat
open Go.ChangeShapes Go.WideShapes Go.ChangeAt Go.RowKit
def Fs (tm:Array Value):List (Nat×Value)->Prop
 | []=>True
 | q :: l=>(∀h:q.1<tm.size,tm[q.1]'h=q.2)/\Fs tm l
theorem IE {P:Program} {f:FuncId} {fn:Func} {c:Code} {args:Array Value} {w:World} {R:Ending->World->Prop} (n:Nat) (hf:P.funcs[f]?=some fn) (hb:fn.body=some c) (hn:fn.ntmps=n) (ha:args.size<=n) (h:∀tm:Array Value,tm.size=n->(∀i (hi:i<args.size) (h:i<tm.size),tm[i]'h=args[i]'hi)->c.wp P (bodyPost P fn R) ⟨tm,[]⟩ w):Calls P f args w R:=by
 refine calls_of_wp hf hb (h _ ?_ ?_)
 ·simp;omega
 ·intro i hi h;exact Array.getElem_append_left hi
theorem Ar {P:Program} {s:Code} {K:Act->World->Prop} {Q':Exit->Act->World->Prop} {a:Act} {w:World} (n:Nat) (l:List (Nat×Value)) (R:World->Prop) (first:∀(J K':Act->World->Prop),(∀tm w',tm.size=n->Fs tm l->R w'->J ⟨tm,[]⟩ w')->(∀a' w',Met J a' w'->K' a' w')->s.wp P (Exit.then K' Q') a w) (rest:∀tm w',tm.size=n->Fs tm l->R w'->K ⟨tm,[]⟩ w'):s.wp P (Exit.then K Q') a w:=by
 refine wp_cut (fun a' w'=>a'.defers=[]/\a'.tmps.size=n/\Fs a'.tmps l/\R w') ?_ ?_
 ·rintro⟨tm,ds⟩ w' ⟨rfl,hz,hr,h2⟩;exact rest tm w' hz hr h2
 ·intro J K' hJ hK;exact first J K' (fun tm w' hz hr h2=>hJ _ _ ⟨rfl,hz,hr,h2⟩) hK
theorem BK {P:Program} {s:Code} {Q:Exit->Act->World->Prop} {tm:Array Value} {w:World} (n:Nat) (l:List (Nat×Value)) (hz:tm.size=n) (hl:Fs tm l)
  (h:∀tm':Array Value,tm'.size=n->Fs tm' l->s.wp P Q ⟨tm',[]⟩ w):s.wp P Q ⟨tm,[]⟩ w:=h tm hz hl
theorem IA {p:Nat->Prop} (h:∃n,p n):∃n,p n/\∀m,p m->n<=m:=by
 obtain⟨n,hn⟩:=h;induction n using Nat.strongRecOn with
 | _ n ih =>
  by_cases hc:∃m,m<n/\p m
  ·obtain⟨m,hm,hp⟩:=hc;exact ih m hm hp
  ·exact⟨n,hn,fun m hm=>by
    rcases Nat.lt_or_ge m n with h|h
    ·exact absurd ⟨m,h,hm⟩ hc
    ·exact h⟩
theorem FL {P:Program} {c:Code} {Q:Exit->Act->World->Prop} {tm:Array Value} {w:World} (n:Nat) (I:Nat->Array Value->World->Prop) (k:Nat) (hz:tm.size=n) (h0:I k tm w) (round:∀k tm w (J K:Act->World->Prop),tm.size=n->I k tm w->(∀k' tm' w',tm'.size=n->I k' tm' w'->k'<k->J ⟨tm',[]⟩ w')->(∀a' w',Met J a' w'->K a' w')->c.wp P (Exit.then K Q) ⟨tm,[]⟩ w):(Code.loop c).wp P Q ⟨tm,[]⟩ w:=by
 classical
 refine wp_loop (fun a w=>a.defers=[]/\a.tmps.size=n/\∃k,I k a.tmps w) (fun a w=>if h:∃k,I k a.tmps w then (IA h).choose else 0) ⟨rfl,hz,k,h0⟩ ?_;rintro⟨tm,ds⟩ w ⟨hd,hz,hk⟩;obtain rfl:ds=[]:=hd;rw[dif_pos hk];refine round (IA hk).choose tm w _ _ hz (IA hk).choose_spec.1 ?_ (fun a' w' h=>h);intro k' tm' w' hz' hi' hlt;have he:∃k,I k tm' w':=⟨k',hi'⟩
 refine⟨⟨rfl,hz',he⟩,?_⟩;rw[dif_pos he];exact Nat.lt_of_le_of_lt ((IA he).choose_spec.2 k' hi') hlt
end Go.Proofs.YtnmhkgmmpkjjeaaGreat
