import Derived.Test.YtiiejckfcnmhoabGreatRows
import Derived.WalkKit
import Derived.ProofKit
import Derived.Deep.RegionHeld3
import Derived.Below
import Derived.OpenShut
import Derived.Deep.OwnRows
import Derived.Deep.QuietTactic
import Derived.BigQuiet
import Derived.Deep.AppendLies
import Derived.Deep.DrawnRows
namespace Go.Proofs.YtiiejckfcnmhoabGreat
open Go.ChangeShapes Go.WideShapes Go.ChangeAt Go.RowKit
abbrev cl (w:World) (b o:Nat):Option Value:=w.cell? ⟨b,o,none⟩
abbrev fz (w:World) (b o:Nat):Bool:=w.frozen? ⟨b,o,none⟩
abbrev Bl (w w':World):Prop:=Below w.heap.size w w'
abbrev F4 (w:World) (b:Nat):Prop:=w.frozen? ⟨b,0,none⟩=false/\w.frozen? ⟨b,1,none⟩=false/\w.frozen? ⟨b,2,none⟩=false/\w.frozen? ⟨b,3,none⟩=false
theorem br {n:Nat} {w:World}:Below n w w:=Below.refl n w
theorem bal {w:World} {o:Obj}:Below w.heap.size w (w.alloc o):=(Below.refl _ _).alloc (Nat.le_refl _) o
theorem cob {w w':World} {a:Addr} (h:w'.heap[a.block]?=w.heap[a.block]?):w'.cell? a=w.cell? a:=World.cell?_of_block h
theorem fob {w w':World} {a:Addr} (h:w'.heap[a.block]?=w.heap[a.block]?):w'.frozen? a=w.frozen? a:=World.frozen?_of_block h
theorem put4c {w wF:World} {B:Nat} {v0 v1 v2 v3 r0 r1 r2 r3:Value} (h:wF=((((w.setCell ⟨B,0,none⟩ v0).setCell ⟨B,1,none⟩ v1).setCell ⟨B,2,none⟩ v2).setCell ⟨B,3,none⟩ v3)) (h0:w.cell? ⟨B,0,none⟩=some r0) (h1:w.cell? ⟨B,1,none⟩=some r1) (h2:w.cell? ⟨B,2,none⟩=some r2) (h3:w.cell? ⟨B,3,none⟩=some r3):wF.cell? ⟨B,0,none⟩=some v0/\wF.cell? ⟨B,1,none⟩=some v1/\wF.cell? ⟨B,2,none⟩=some v2/\wF.cell? ⟨B,3,none⟩=some v3:=by
 subst h
 refine ⟨?_,?_,?_,?_⟩ <;> simp [go_sem, *]
theorem put7c {w wF:World} {B:Nat} {v0 v1 v2 v3 v4 v5 v6 r0 r1 r2 r3 r4 r5 r6:Value} (h:wF=(((((((w.setCell ⟨B,0,none⟩ v0).setCell ⟨B,1,none⟩ v1).setCell ⟨B,2,none⟩ v2).setCell ⟨B,3,none⟩ v3).setCell ⟨B,4,none⟩ v4).setCell ⟨B,5,none⟩ v5).setCell ⟨B,6,none⟩ v6)) (h0:w.cell? ⟨B,0,none⟩=some r0) (h1:w.cell? ⟨B,1,none⟩=some r1) (h2:w.cell? ⟨B,2,none⟩=some r2) (h3:w.cell? ⟨B,3,none⟩=some r3) (h4:w.cell? ⟨B,4,none⟩=some r4) (h5:w.cell? ⟨B,5,none⟩=some r5) (h6:w.cell? ⟨B,6,none⟩=some r6):wF.cell? ⟨B,0,none⟩=some v0/\wF.cell? ⟨B,1,none⟩=some v1/\wF.cell? ⟨B,2,none⟩=some v2/\wF.cell? ⟨B,3,none⟩=some v3/\wF.cell? ⟨B,4,none⟩=some v4/\wF.cell? ⟨B,5,none⟩=some v5/\wF.cell? ⟨B,6,none⟩=some v6:=by
 subst h
 refine ⟨?_,?_,?_,?_,?_,?_,?_⟩ <;> simp [go_sem, *]
theorem put8a {w wF:World} {A B:Nat} {v0 v1 v2 v3 u0 u1 u2 u3 r0 r1 r2 r3:Value} (h:wF=((((((((w.setCell ⟨A,0,none⟩ v0).setCell ⟨A,1,none⟩ v1).setCell ⟨A,2,none⟩ v2).setCell ⟨A,3,none⟩ v3).setCell ⟨B,0,none⟩ u0).setCell ⟨B,1,none⟩ u1).setCell ⟨B,2,none⟩ u2).setCell ⟨B,3,none⟩ u3)) (h0:w.cell? ⟨A,0,none⟩=some r0) (h1:w.cell? ⟨A,1,none⟩=some r1) (h2:w.cell? ⟨A,2,none⟩=some r2) (h3:w.cell? ⟨A,3,none⟩=some r3) (hne:A ≠ B:=by first | omega | simp):wF.cell? ⟨A,0,none⟩=some v0/\wF.cell? ⟨A,1,none⟩=some v1/\wF.cell? ⟨A,2,none⟩=some v2/\wF.cell? ⟨A,3,none⟩=some v3:=by
 subst h
 refine ⟨?_,?_,?_,?_⟩ <;> simp [go_sem, *]
theorem put8b {w wF:World} {A B:Nat} {v0 v1 v2 v3 u0 u1 u2 u3 r0 r1 r2 r3:Value} (h:wF=((((((((w.setCell ⟨A,0,none⟩ v0).setCell ⟨A,1,none⟩ v1).setCell ⟨A,2,none⟩ v2).setCell ⟨A,3,none⟩ v3).setCell ⟨B,0,none⟩ u0).setCell ⟨B,1,none⟩ u1).setCell ⟨B,2,none⟩ u2).setCell ⟨B,3,none⟩ u3)) (h0:w.cell? ⟨B,0,none⟩=some r0) (h1:w.cell? ⟨B,1,none⟩=some r1) (h2:w.cell? ⟨B,2,none⟩=some r2) (h3:w.cell? ⟨B,3,none⟩=some r3) (hne:A ≠ B:=by first | omega | simp):wF.cell? ⟨B,0,none⟩=some u0/\wF.cell? ⟨B,1,none⟩=some u1/\wF.cell? ⟨B,2,none⟩=some u2/\wF.cell? ⟨B,3,none⟩=some u3:=by
 subst h
 refine ⟨?_,?_,?_,?_⟩ <;> simp [go_sem, *]
section
variable {P:Program} {ops:Array Oper} {Q:Exit->Act->World->Prop} {md:Region.Mode} {S:World->Prop}
theorem tk (i:Nat) {oi:Oper} {v:Value} {fuel:Nat} {listed:Array Bool} {a a':Act} {w:World} (h:wpAnyH P md ops Q S fuel (listed.setIfInBounds i true) a' w)
  (hi:ops[i]?=some oi:=by rfl) (hs:Region.noSelect ops=true:=by kernel_rfl) (hf:Region.free md ops listed i=true:=by kernel_rfl) (hr:(Region.ready md ops listed).contains i=true:=by kernel_rfl)
  (hQ:∀ c a w,Q (.panic c) (a.put oi.dst v) w->Q (.panic c) a w:=by exact fun _ _ _ h=>h) (hw:Region.wanted oi (yielded ops a.tmps)=true:=by rfl)
  (hy:∀ w,S w->(execOp a.eval oi).run P w=.ok (.value v) w:=by (intro w hSw; (try dsimp only at hSw); go_simp; try with_reducible rfl)) (hS:S w:=by assumption)
  (ha:a.put oi.dst v=a':=by (simp only [Act.put,List.setIfInBounds_toArray,List.set_cons_zero,List.set_cons_succ,List.getElem_toArray,List.getElem_cons_zero,List.getElem_cons_succ]; rfl)):wpAnyH P md ops Q S (fuel+1) listed a w :=
 wpAnyH_take hi hs hf hr hQ (Or.inl ⟨hw,hy⟩) hS (by rw [ha]; exact h)
theorem sk (i:Nat) {oi:Oper} {fuel:Nat} {listed:Array Bool} {a a':Act} {w:World} (h:wpAnyH P md ops Q S fuel (listed.setIfInBounds i true) a' w)
  (hi:ops[i]?=some oi:=by rfl) (hs:Region.noSelect ops=true:=by kernel_rfl) (hf:Region.free md ops listed i=true:=by kernel_rfl) (hr:(Region.ready md ops listed).contains i=true:=by kernel_rfl)
  (hQ:∀ c a w,Q (.panic c) (a.put oi.dst undef) w->Q (.panic c) a w:=by exact fun _ _ _ h=>h) (hw:Region.wanted oi (yielded ops a.tmps)=false:=by rfl) (hS:S w:=by assumption)
  (ha:a.put oi.dst undef=a':=by (simp only [Act.put,List.setIfInBounds_toArray,List.set_cons_zero,List.set_cons_succ,List.getElem_toArray,List.getElem_cons_zero,List.getElem_cons_succ]; rfl)):wpAnyH P md ops Q S (fuel+1) listed a w :=
 wpAnyH_take hi hs hf hr hQ (Or.inr ⟨hw,rfl⟩) hS (by rw [ha]; exact h)
end
set_option linter.unusedVariables false
structure Elt (α:Type) where
 T:TypeId
 sz:Nat
 enc:α->List Value
 dflt:α
 pos:0 < sz
 len:∀ a,(enc a).length=sz
section
variable {α:Type} (E:Elt α)
def ecells (xs:List α):List Value:=xs.flatMap E.enc
def eAt (xs:List α) (i:Nat):α:=xs.getD i E.dflt
theorem ecells_length (xs:List α):(ecells E xs).length=xs.length * E.sz:=by
 induction xs with
 | nil=>simp [ecells]
 | cons p r ih =>
  have e:ecells E (p :: r)=E.enc p ++ ecells E r:=rfl
  rw [e,List.length_append,ih,E.len,List.length_cons,Nat.add_mul]; omega
theorem ecells_append (a b:List α):ecells E (a ++ b)=ecells E a ++ ecells E b:=by simp [ecells]
theorem ecells_at (xs:List α):∀ i,i < xs.length->∀ j,j < E.sz->(ecells E xs)[i * E.sz+j]?=(E.enc (eAt E xs i))[j]?:=by
 induction xs with
 | nil=>intro i hi; simp at hi
 | cons p r ih =>
  intro i hi j hj
  have e:ecells E (p :: r)=E.enc p ++ ecells E r:=rfl
  rw [e]
  cases i with
  | zero =>
   rw [Nat.zero_mul,Nat.zero_add,List.getElem?_append_left (by rw [E.len]; exact hj)]
   rfl
  | succ i =>
   rw [List.getElem?_append_right (by rw [E.len,Nat.add_mul]; omega),E.len,show (i+1) * E.sz+j - E.sz=i * E.sz+j by rw [Nat.add_mul]; omega]
   exact ih i (by simpa using hi) j hj
theorem cell_lt {n sz i j:Nat} (hi:i < n) (hj:j < sz):i * sz+j < n * sz:=by
 have h:(i+1) * sz<=n * sz:=Nat.mul_le_mul_right sz hi
 rw [Nat.add_mul] at h
 omega
def ERow (w:World) (base:Nat) (v:Value) (xs:List α):Prop:=w.ownsRow base E.T E.sz v xs.length (ecells E xs)
def EHas (w:World) (v:Value) (n:Nat) (c:Nat->Nat->Value):Prop :=
 ∃ a cap,v=.slice a n cap/\(0 < n->∃ g N f,a=some ⟨g,0,none⟩/\w.rowIs g E.T N f/\n * E.sz<=N/\∀ i,i < n->∀ j,j < E.sz->f (i * E.sz+j)=c i j)
def eCell (xs:List α) (i j:Nat):Value:=((E.enc (eAt E xs i))[j]?).getD (.bool false)
variable {E}
theorem ERow.form {w:World} {base:Nat} {v:Value} {xs:List α} (h:ERow E w base v xs):∃ a cap,v=.slice a xs.length cap/\(0 < xs.length->∃ g N f,a=some ⟨g,0,none⟩/\base<=g/\w.rowIs g E.T N f/\xs.length * E.sz<=N/\∀ i,i < xs.length->∀ j,j < E.sz->f (i * E.sz+j)=eCell E xs i j):=by
 rcases h.2 with ⟨rfl,h0⟩ | ⟨g,cap,cur,rfl,hb,hg,hn,hm,hs,ht⟩
 ·rw [h0]; exact ⟨none,0,rfl,fun h=>absurd h (by omega)⟩
 ·refine ⟨_,cap,rfl,fun _=>⟨g,cur.size,fun i=>cur.getD i (.bool false),rfl,hb,⟨cur,hg,rfl,fun i hi=>by simp [hi]⟩,by rw [hs]; exact Nat.mul_le_mul_right _ hn,fun i hi j hj=>?_⟩⟩
  have hu:=ecells_at E xs i hi j hj
  rw [<- ht,List.getElem?_take,if_pos (cell_lt hi hj)] at hu
  simp only [Array.getElem?_toList] at hu
  simp [Array.getD_eq_getD_getElem?,hu,eCell]
theorem ERow.of_row {w:World} {base g n cap N:Nat} {f:Nat->Value} {xs:List α} (hx:xs.length=n) (hb:base<=g) (hr:w.rowIs g E.T N f) (hN:N=cap * E.sz) (hc:n<=cap) (hm:cap<=maxLen) (hf:∀ i,i < n->∀ j,j < E.sz->f (i * E.sz+j)=eCell E xs i j) :
  ERow E w base (.slice (some ⟨g,0,none⟩) n cap) xs:=by
 obtain ⟨cur,hg,hs,hc2⟩:=hr
 subst hx
 refine ⟨ecells_length E xs,.inr ⟨g,cap,cur,rfl,hb,hg,hc,hm,by rw [hs,hN],?_⟩⟩
 apply List.ext_getElem?
 intro q
 by_cases hq:q < xs.length * E.sz
 ·have hpos:=E.pos
  have hqi:q / E.sz < xs.length:=(Nat.div_lt_iff_lt_mul hpos).2 hq
  have hqj:q % E.sz < E.sz:=Nat.mod_lt _ hpos
  have e:q=q / E.sz * E.sz+q % E.sz:=by rw [Nat.mul_comm]; exact (Nat.div_add_mod q E.sz).symm
  have hlt:q < N:=by rw [hN]; exact Nat.lt_of_lt_of_le hq (Nat.mul_le_mul_right _ hc)
  have h1:=hc2 q hlt
  have h2:=ecells_at E xs _ hqi _ hqj
  have h3:=hf _ hqi _ hqj
  rw [<- e] at h2 h3
  rw [List.getElem?_take,if_pos hq,Array.getElem?_toList,h1,h2,h3]
  unfold eCell
  rw [List.getElem?_eq_getElem (by rw [E.len]; exact hqj)]
  rfl
 ·rw [List.getElem?_eq_none (by rw [List.length_take]; omega),List.getElem?_eq_none (by rw [ecells_length]; omega)]
theorem ERow.below {w w':World} {base:Nat} {v:Value} {xs:List α} (h:ERow E w base v xs) (hb:Below w.heap.size w w'):ERow E w' base v xs :=
 World.ownsRow.kept (row:=none) h ⟨hb.os,hb.tape,hb.output,hb.size,fun k hk _=>hb.block k hk⟩ (by cases hv:v.ownBlock <;> simp)
theorem ERow.kept {w w':World} {base:Nat} {v:Value} {xs:List α} {row:Option Nat} (h:ERow E w base v xs) (hg:w.grownBy w' row) (hne:∀ k,v.ownBlock=some k->some k ≠ row):ERow E w' base v xs :=
 World.ownsRow.kept h hg (by
  cases hv:v.ownBlock with
  | none=>exact .inl rfl
  | some k=>exact .inr (hne k hv))
theorem ERow.rebase {w:World} {base base':Nat} {v:Value} {xs:List α} (h:ERow E w base v xs) (hb:base'<=base):ERow E w base' v xs:=by
 refine ⟨h.1,?_⟩
 rcases h.2 with hh | ⟨g,cap,cur,e,hg,r⟩
 ·exact .inl hh
 ·exact .inr ⟨g,cap,cur,e,Nat.le_trans hb hg,r⟩
theorem ERow.own {w:World} {base:Nat} {v:Value} {xs:List α} (h:ERow E w base v xs):∀ k,v.ownBlock=some k->base<=k/\k < w.heap.size:=World.ownsRow.lt h
theorem EHas.below {w w':World} {v:Value} {n:Nat} {c:Nat->Nat->Value} (h:EHas E w v n c) (hb:Below w.heap.size w w'):EHas E w' v n c:=by
 obtain ⟨a,cap,e,h1⟩:=h
 refine ⟨a,cap,e,fun h0=>?_⟩
 obtain ⟨g,N,f,p,q,r,s⟩:=h1 h0
 exact ⟨g,N,f,p,q.of_block (hb.block g q.lt),r,s⟩
theorem EHas.kept {w w':World} {v:Value} {n:Nat} {c:Nat->Nat->Value} {row:Option Nat} (h:EHas E w v n c) (hg:w.grownBy w' row) (hne:∀ k,v.ownBlock=some k->some k ≠ row):EHas E w' v n c:=by
 obtain ⟨a,cap,e,h1⟩:=h
 refine ⟨a,cap,e,fun h0=>?_⟩
 obtain ⟨g,N,f,p,q,r,s⟩:=h1 h0
 subst e p
 exact ⟨g,N,f,rfl,q.of_block (hg.block g q.lt (hne g rfl)),r,s⟩
variable (E)
def ESrc (w:World) (v:Value) (xs:List α):Prop :=
 ∃ (a:Option Addr) (cap:Nat),v=.slice a xs.length cap/\(0 < xs.length->∃ b o,a=some ⟨b,o,none⟩/\b < w.heap.size/\∀ i,i < xs.length->∀ j,j < E.sz->w.cell? ⟨b,o+i * E.sz+j,none⟩=some (eCell E xs i j))
variable {E}
theorem ESrc.at {w w':World} {v:Value} {xs:List α} (h:ESrc E w v xs) (hb:Below w.heap.size w w'):ESrc E w' v xs:=by
 obtain ⟨a,cap,rfl,ha⟩:=h
 refine ⟨a,cap,rfl,fun h0=>?_⟩
 obtain ⟨b,o,rfl,hbl,hc⟩:=ha h0
 exact ⟨b,o,rfl,Nat.lt_of_lt_of_le hbl hb.size,fun i hi j hj=>(hb.cell hbl).trans (hc i hi j hj)⟩
end
theorem eGrown_set {w wr:World} {g:Nat} (h:w.grownBy wr (some g)) (i:Nat) (v:Value):w.grownBy (wr.setCell ⟨g,i,none⟩ v) (some g) :=
 ⟨h.os,h.tape,h.output,by simpa using h.size,fun j hj hne=>(Below.heap_setCell _ _ _ _ (by intro e; exact hne (by rw [e]))).trans (h.block j hj hne)⟩
theorem row_of_made {w:World} {base g n sz:Nat} {T:TypeId} {xs:List Value} (h:w.ownsRow base T sz (.slice (some ⟨g,0,none⟩) n n) n xs):∃ f,w.rowIs g T (n * sz) f:=by
 rcases h.2 with ⟨e,_⟩ | ⟨g',cap,cur,e,_,hg,_,_,hs,_⟩
 ·cases e
 ·simp only [Value.slice.injEq,Option.some.injEq,Addr.mk.injEq,and_true,true_and] at e
  obtain ⟨rfl,rfl⟩:=e
  exact ⟨fun i=>cur.getD i (.bool false),cur,hg,hs,fun i hi=>by rw [<- hs] at hi; simp [hi]⟩
attribute [local go_sem ↓] Go.wp_at_zero Go.wp_at_succ
structure WriteE where
 addr:Int
 word:Int
def eWrite:Elt WriteE:=⟨110,2,fun x=>[.int .i64 x.addr,.int .u64 x.word],⟨0,0⟩,by omega,fun _=>rfl⟩
theorem infoWrite:(Tryz.prog.info? 110).map (fun i=>(i.zero,i.size,i.bytes))=some (some (.agg #[.int .i64 0,.int .u64 0]),2,16):=by kernel_rfl
theorem szWrite_any (a:Option Addr) (n cap:Nat) (left:Int) (h1:n<=9223372036854775807) (h0:0<=left) (h2:left<=1048576) (w:World) :
  Calls Tryz.prog 31 #[.slice a n cap,.int .i64 left] w fun e w'=>e=.returned (.int .i64 (if (n:Int)<=left then left - n else -1))/\w'=w:=by
 by_cases h:(n:Int)<=left
 ·rw [if_pos h]
  go_enter Tryz.func31,Tryz.ntmps31
  go_wp2
  go_ret
  exact ⟨rfl,rfl⟩
 ·rw [if_neg h]
  go_enter Tryz.func31,Tryz.ntmps31
  go_wp2
  go_ret
  exact ⟨rfl,rfl⟩
theorem toWrite_any (A:Int) (B:Int) (w:World) :
  Calls Tryz.prog 94 #[.agg #[.int .i64 A,.int .u64 B]] w fun e w'=>e=.returned (.agg #[.int .i64 A,.int .u64 B])/\Below w.heap.size w w':=by
 go_enter Tryz.func94,Tryz.ntmps94
 go_wp2
 refine bodyPost_ret (v:=.agg #[.int .i64 A,.int .u64 B]) (by simp [results,Tryz.results94,go_sem]) rfl ⟨rfl,?_⟩
 repeat (first | exact Below.refl _ _ | (refine Below.alloc ?_ (by simp <;> omega) _) | (refine Below.setCell ?_ (by simp <;> omega) _))
theorem eqWrite_same (A:Int) (B:Int) (w:World) :
  Calls Tryz.prog 108 #[.agg #[.int .i64 A,.int .u64 B],.agg #[.int .i64 A,.int .u64 B]] w fun e w'=>e=.returned (.bool true)/\Below w.heap.size w w':=by
 go_enter Tryz.func108,Tryz.ntmps108
 go_wp2
 go_ret
 exact ⟨rfl,bal.alloc (by simp) _⟩
theorem eqWriteS_same (v u:Value) (bv bu:Nat) (xs:List WriteE) (w:World) (hn:xs.length<=1048576) (hv:ERow eWrite w bv v xs) (hu:ERow eWrite w bu u xs) :
  Calls Tryz.prog 55 #[v,u] w fun e w'=>e=.returned (.bool true)/\Below w.heap.size w w':=by
 obtain ⟨a,c,rfl,ha⟩:=hv.form
 obtain ⟨b,d,rfl,hb⟩:=hu.form
 clear hv hu
 go_enter Tryz.func55,Tryz.ntmps55
 go_wp2
 go_loopw [5] (fun i wr=>∃ k:Nat,k<=xs.length/\i=.int .i64 k/\Below w.heap.size w wr) (fun i _=>xs.length - (intOf i).toNat)
 case atStart=>exact ⟨0,Nat.zero_le _,rfl,Below.refl _ _⟩
 case round =>
  obtain ⟨k,hk,rfl,hbl⟩:=hrel
  by_cases hlt:k < xs.length
  ·obtain ⟨g,N,f,rfl,_,hr,hN,hf⟩:=ha (by omega)
   obtain ⟨h,M,f',rfl,_,hr',hM,hf'⟩:=hb (by omega)
   have hN':xs.length * 2<=N:=hN
   have hM':xs.length * 2<=M:=hM
   have hr1:wr.rowIs g 110 N f:=hr.of_block (hbl.block g hr.lt)
   have hr2:wr.rowIs h 110 M f':=hr'.of_block (hbl.block h hr'.lt)
   have q0:=hr1.cell (i:=k * 2) (by omega)
   have q1:=hr1.cell (i:=k * 2+1) (by omega)
   have r0:=hr2.cell (i:=k * 2) (by omega)
   have r1:=hr2.cell (i:=k * 2+1) (by omega)
   rw [show f (k * 2)=_ from hf k hlt 0 (by decide)] at q0
   rw [show f (k * 2+1)=_ from hf k hlt 1 (by decide)] at q1
   rw [show f' (k * 2)=_ from hf' k hlt 0 (by decide)] at r0
   rw [show f' (k * 2+1)=_ from hf' k hlt 1 (by decide)] at r1
   have n1:=hr1.lt
   have n2:=hr2.lt
   have HB:Hid (Below w.heap.size w wr):=hbl
   clear hf hf' ha hb hr hr' hr1 hr2 hbl hN hM
   have c0:wr.cell? ⟨g,k * 2,none⟩=some (.int .i64 (eAt eWrite xs k).addr):=q0
   have d0:wr.cell? ⟨h,k * 2,none⟩=some (.int .i64 (eAt eWrite xs k).addr):=r0
   have c1:wr.cell? ⟨g,k * 2+1,none⟩=some (.int .u64 (eAt eWrite xs k).word):=q1
   have d1:wr.cell? ⟨h,k * 2+1,none⟩=some (.int .u64 (eAt eWrite xs k).word):=r1
   clear q0 r0 q1 r1
   generalize (eAt eWrite xs k).addr=A at *
   generalize (eAt eWrite xs k).word=B at *
   have L1:(0:Int)<=(k:Int):=by omega
   have L2:(k:Int) < (xs.length:Int):=by omega
   have he:=eqWrite_same A B
   have HK:Hid (∀ w',Below wr.heap.size wr w'->w'.cell? ⟨g,k * 2,none⟩=some (.int .i64 A)/\w'.cell? ⟨g,k * 2+1,none⟩=some (.int .u64 B)/\w'.cell? ⟨h,k * 2,none⟩=some (.int .i64 A)/\w'.cell? ⟨h,k * 2+1,none⟩=some (.int .u64 B)) :=
    fun w' hX=>⟨(hX.cell n1).trans c0,(hX.cell n1).trans c1,(hX.cell n2).trans d0,(hX.cell n2).trans d1⟩
   go_wp2
   go_region_held3 (fun w'=>w'.cell? ⟨g,k * 2,none⟩=some (.int .i64 A)/\w'.cell? ⟨g,k * 2+1,none⟩=some (.int .u64 B)/\w'.cell? ⟨h,k * 2,none⟩=some (.int .i64 A)/\w'.cell? ⟨h,k * 2+1,none⟩=some (.int .u64 B))
    ((refine HK.out _ ?_; repeat (first | exact Below.refl _ _ | with_reducible refine Below.drew ?_ | refine Below.trans ?_ (hb1.mono (by first | omega | (simp <;> omega))))))
    (first | (go_at_call 108; refine (he _).mono ?_; rintro e w1 ⟨rfl,hb1⟩))
   go_wp2
   go_roundw
   case rel=>exact ⟨k+1,by omega,by go_num,HB.out.trans (br.drew.trans (hb1.mono HB.out.size))⟩
   case measure=>simp [intOf]; omega
  ·go_wp2
   go_ret
   exact ⟨rfl,hbl⟩
theorem toWriteS_any (v:Value) (xs:List WriteE) (w:World) (hv:ESrc eWrite w v xs) (hn:xs.length<=1048576) :
  Calls Tryz.prog 44 #[v] w fun e w'=>e=.returned (.slice (some ⟨w.heap.size,0,none⟩) xs.length xs.length)/\ERow eWrite w' w.heap.size (.slice (some ⟨w.heap.size,0,none⟩) xs.length xs.length) xs/\Below w.heap.size w w':=by
 obtain ⟨a,cap,rfl,ha⟩:=hv
 obtain ⟨i0,hi,hz0,hz1,hz2⟩:=info_parts infoWrite
 go_enter Tryz.func44,Tryz.ntmps44
 go_wp2_with (refine wpList_make_full _ rfl (.tmp 6) (.tmp 6) 32 rfl w.heap.size 110 i0 _ 2 Tryz.underlying32 hi hz0 hz1 .i64 .i64 _ _ xs.length rfl rfl rfl rfl (by rw [hz2]; omega) (by unfold maxLen; omega) (Nat.le_refl _) ?_; intro wm hom hgm)
 have hbm:Below w.heap.size w wm:=⟨hgm.os,hgm.tape,hgm.output,hgm.size,fun k hk=>hgm.block k hk (by simp)⟩
 obtain ⟨f0,hr0⟩:=row_of_made hom
 clear hom hgm
 go_loopw [4] (fun i wr=>∃ k:Nat,k<=xs.length/\i=.int .i64 k/\(∃ f,wr.rowIs w.heap.size 110 (xs.length * 2) f/\∀ i,i < k->∀ j,j < 2->f (i * 2+j)=eCell eWrite xs i j)/\Below w.heap.size w wr) (fun i _=>xs.length - (intOf i).toNat)
 case atStart=>exact ⟨0,Nat.zero_le _,rfl,⟨f0,hr0,fun i hi=>absurd hi (by omega)⟩,hbm⟩
 case round =>
  obtain ⟨k,hk,rfl,⟨f,hrow,hf⟩,hb⟩:=hrel
  by_cases hlt:k < xs.length
  ·obtain ⟨b,o,rfl,hbl,hc⟩:=ha (by omega)
   have c0:wr.cell? ⟨b,o+k * 2,none⟩=some (.int .i64 (eAt eWrite xs k).addr):=(hb.cell hbl).trans (hc k hlt 0 (by decide))
   have c1:wr.cell? ⟨b,o+k * 2+1,none⟩=some (.int .u64 (eAt eWrite xs k).word):=(hb.cell hbl).trans (hc k hlt 1 (by decide))
   have E0:eCell eWrite xs k 0=.int .i64 (eAt eWrite xs k).addr:=rfl
   have E1:eCell eWrite xs k 1=.int .u64 (eAt eWrite xs k).word:=rfl
   generalize (eAt eWrite xs k).addr=A at *
   generalize (eAt eWrite xs k).word=B at *
   have L1:(0:Int)<=(k:Int):=by omega
   have L2:(k:Int) < (xs.length:Int):=by omega
   have HF:Hid _:=hf
   have HROW:Hid (wr.rowIs w.heap.size _ _ f):=hrow
   have HB:Hid (Below _ _ _):=hb
   have hrl:=hrow.lt
   have HE0:Hid _:=E0
   have HE1:Hid _:=E1
   clear hc ha hf hrow hb E0 E1 hbm hr0
   go_wp2_with fail
   refine (toWrite_any A B wr).mono ?_
   rintro e w1 ⟨rfl,hb1⟩
   have hrow1:w1.rowIs w.heap.size 110 (xs.length * 2) f:=HROW.out.of_block (hb1.block _ hrl)
   have f0:=hrow1.frozen (k * 2)
   have o0:=hrow1.cell (i:=k * 2) (by omega)
   have f1:=hrow1.frozen (k * 2+1)
   have o1:=hrow1.cell (i:=k * 2+1) (by omega)
   generalize f (k * 2)=u100 at o0
   generalize f (k * 2+1)=u101 at o1
   have HR1:Hid (w1.rowIs w.heap.size _ _ f):=hrow1
   have HB1:Hid (Below _ _ _):=hb1
   clear hrow1 hb1 c0 c1
   go_wp2_with fail
   go_roundw
   case rel =>
    refine ⟨k+1,by omega,by go_num,⟨_,(HR1.out.set (k * 2) _).set (k * 2+1) _,?_⟩,?_⟩
    ·intro i hi j hj
     by_cases e:i=k
     ·subst e
      rcases (show j=0\/j=1 by omega) with rfl | rfl
      ·rw [HE0.out]; simp
      ·rw [HE1.out]; simp
     ·have hik:i < k:=by omega
      rw [<- HF.out i hik j hj]
      rw [if_neg (by omega)]; rw [if_neg (by omega)]
    ·exact (((HB.out.trans (HB1.out.mono (by omega))).setCell (Nat.le_refl _) _).setCell (Nat.le_refl _) _)
   case measure=>simp [intOf]; omega
  ·have e:k=xs.length:=by omega
   subst e
   clear ha
   go_wp2_with fail
   go_ret
   exact ⟨rfl,ERow.of_row rfl (Nat.le_refl _) hrow rfl (Nat.le_refl _) (by unfold maxLen; omega) hf,hb⟩
def markWrite (s:Int) (i j:Nat):Value :=
 match j with
 | 0=>.int .i64 (s+i * 2)
 | 1=>.int .u64 (s+i * 2+1)
 | _=>.bool false
theorem markWriteS_any (v:Value) (bv:Nat) (xs:List WriteE) (s:Int) (w:World) (hs0:0<=s) (hs1:s<=100000000) (hn:xs.length<=1048576) (hv:ERow eWrite w bv v xs) :
  Calls Tryz.prog 59 #[v,.int .i64 s] w fun e w'=>e=.returned (.int .i64 (s+xs.length * 2))/\EHas eWrite w' v xs.length (markWrite s)/\w.grownBy w' v.ownBlock:=by
 obtain ⟨a,c,rfl,ha⟩:=hv.form
 by_cases h0:xs.length=0
 ·rw [h0]
  clear ha hv
  go_enter Tryz.func59,Tryz.ntmps59
  go_wp2
  go_loopw [1,5] (fun m i wr=>i=.int .i64 0/\m=.int .i64 s/\wr=w) (fun _ i _=>0)
  case atStart=>exact ⟨rfl,rfl,rfl⟩
  case round =>
   obtain ⟨rfl,rfl,rfl⟩:=hrel
   go_wp2
   go_ret
   exact ⟨by simp,⟨a,c,rfl,fun h=>absurd h (by omega)⟩,World.grownBy.refl _ _⟩
 ·obtain ⟨g,N,f,rfl,_,hr,hN,hf⟩:=ha (by omega)
  have hN':xs.length * 2<=N:=hN
  clear ha hf hv hN
  go_enter Tryz.func59,Tryz.ntmps59
  go_wp2
  go_loopw [1,5] (fun m i wr=>∃ k:Nat,k<=xs.length/\i=.int .i64 k/\m=.int .i64 (s+k * 2)/\(∃ f,wr.rowIs g 110 N f/\∀ i,i < k->∀ j,j < 2->f (i * 2+j)=markWrite s i j)/\w.grownBy wr (some g)) (fun _ i _=>xs.length - (intOf i).toNat)
  case atStart=>exact ⟨0,Nat.zero_le _,rfl,by simp,⟨_,hr,fun i hi=>absurd hi (by omega)⟩,World.grownBy.refl _ _⟩
  case round =>
   obtain ⟨k,hk,rfl,rfl,⟨f,hrow,hf⟩,hb⟩:=hrel
   by_cases hlt:k < xs.length
   ·have HF:Hid _:=hf
    have HROW:Hid (wr.rowIs g _ N f):=hrow
    have HB:Hid (w.grownBy wr _):=hb
    have f0:=hrow.frozen (k * 2)
    have o0:=hrow.cell (i:=k * 2) (by omega)
    have f1:=hrow.frozen (k * 2+1)
    have o1:=hrow.cell (i:=k * 2+1) (by omega)
    generalize f (k * 2)=u100 at o0
    generalize f (k * 2+1)=u101 at o1
    have L1:(0:Int)<=(k:Int):=by omega
    have L2:(k:Int) < (xs.length:Int):=by omega
    clear hf hrow hb hr
    go_wp2
    go_roundw
    case rel =>
     refine ⟨k+1,by omega,by go_num,by go_num,⟨_,(HROW.out.set (k * 2) _).set (k * 2+1) _,?_⟩,eGrown_set (eGrown_set (HB.out) _ _) _ _⟩
     intro i hi j hj
     by_cases e:i=k
     ·subst e
      rcases (show j=0\/j=1 by omega) with rfl | rfl
      ·simp [markWrite]
      ·simp [markWrite]
     ·have hik:i < k:=by omega
      rw [<- HF.out i hik j hj]
      rw [if_neg (by omega)]; rw [if_neg (by omega)]
    case measure=>simp [intOf]; omega
   ·have e:k=xs.length:=by omega
    subst e
    go_wp2
    go_ret
    exact ⟨rfl,⟨_,c,rfl,fun _=>⟨g,N,f,rfl,hrow,hN',hf⟩⟩,hb⟩
theorem heldWriteS_any (v:Value) (n:Nat) (s:Int) (w:World) (hs0:0<=s) (hs1:s<=100000000) (hn:n<=1048576) (hv:EHas eWrite w v n (markWrite s)) :
  Calls Tryz.prog 63 #[v,.int .i64 s] w fun e w'=>e=.returned (.int .i64 (s+n * 2))/\Below w.heap.size w w':=by
 obtain ⟨a,c,rfl,ha⟩:=hv
 go_enter Tryz.func63,Tryz.ntmps63
 go_wp2
 go_loopw [1,5] (fun m i wr=>∃ k:Nat,k<=n/\i=.int .i64 k/\m=.int .i64 (s+k * 2)/\Below w.heap.size w wr) (fun _ i _=>n - (intOf i).toNat)
 case atStart=>exact ⟨0,Nat.zero_le _,rfl,by simp,Below.refl _ _⟩
 case round =>
  obtain ⟨k,hk,rfl,rfl,hb⟩:=hrel
  by_cases hlt:k < n
  ·obtain ⟨g,N,f,rfl,hr,hN,hf⟩:=ha (by omega)
   have hN':n * 2<=N:=hN
   have hr1:wr.rowIs g 110 N f:=hr.of_block (hb.block g hr.lt)
   have q0:=hr1.cell (i:=k * 2) (by omega)
   have q1:=hr1.cell (i:=k * 2+1) (by omega)
   rw [show f (k * 2)=_ from hf k hlt 0 (by decide)] at q0
   rw [show f (k * 2+1)=_ from hf k hlt 1 (by decide)] at q1
   have c0:wr.cell? ⟨g,k * 2,none⟩=some (.int .i64 (s+k * 2)):=q0
   have c1:wr.cell? ⟨g,k * 2+1,none⟩=some (.int .u64 (s+k * 2+1)):=q1
   clear q0 q1
   have L1:(0:Int)<=(k:Int):=by omega
   have L2:(k:Int) < (n:Int):=by omega
   clear hf ha hr hr1 hN
   go_wp2
   go_roundw
   case rel=>exact ⟨k+1,by omega,by go_num,by go_num,hb⟩
   case measure=>simp [intOf]; omega
  ·have e:k=n:=by omega
   subst e
   go_wp2
   go_ret
   exact ⟨rfl,hb⟩
end Go.Proofs.YtiiejckfcnmhoabGreat
