import Derived.WalkKit
import Derived.ProofKit
import Derived.Deep.RegionHeld3
import Derived.Below
import Derived.Test.YtnmhkgmmpkjjeacGreatRows
import Derived.OpenShut
import Derived.Deep.OwnRows
import Derived.Deep.QuietTactic
import Derived.BigQuiet
import Derived.Deep.AppendLies
import Derived.Deep.DrawnRows
import Derived.Laws.Concat
import Derived.Laws.DeepStrings4
namespace Go.Proofs.YtnmhkgmmpkjjeacGreat
open Go.ChangeShapes Go.WideShapes Go.ChangeAt Go.RowKit
abbrev cl (w:World) (b o:Nat):Option Value:=w.cell? ⟨b,o,none⟩
abbrev fz (w:World) (b o:Nat):Bool:=w.frozen? ⟨b,o,none⟩
abbrev Bl (w w':World):Prop:=Below w.heap.size w w'
abbrev F4 (w:World) (b:Nat):Prop:=w.frozen? ⟨b,0,none⟩=false/\w.frozen? ⟨b,1,none⟩=false/\w.frozen? ⟨b,2,none⟩=false/\w.frozen? ⟨b,3,none⟩=false
theorem bal {w:World} {o:Obj}:Below w.heap.size w (w.alloc o):=(Below.refl _ _).alloc (Nat.le_refl _) o
theorem cob {w w':World} {a:Addr} (h:w'.heap[a.block]?=w.heap[a.block]?):w'.cell? a=w.cell? a:=World.cell?_of_block h
theorem fob {w w':World} {a:Addr} (h:w'.heap[a.block]?=w.heap[a.block]?):w'.frozen? a=w.frozen? a:=World.frozen?_of_block h
section
variable {P:Program} {ops:Array Oper} {Q:Exit->Act->World->Prop} {md:Region.Mode} {S:World->Prop}
theorem tk (i:Nat) {oi:Oper} {v:Value} {fuel:Nat} {listed:Array Bool} {a a':Act} {w:World} (h:wpAnyH P md ops Q S fuel (listed.setIfInBounds i true) a' w)
  (hi:ops[i]?=some oi:=by rfl) (hs:Region.noSelect ops=true:=by kernel_rfl) (hf:Region.free md ops listed i=true:=by kernel_rfl) (hr:(Region.ready md ops listed).contains i=true:=by kernel_rfl)
  (hQ:∀ c a w,Q (.panic c) (a.put oi.dst v) w->Q (.panic c) a w:=by exact fun _ _ _ h=>h) (hw:Region.wanted oi (yielded ops a.tmps)=true:=by rfl)
  (hy:∀ w,S w->(execOp a.eval oi).run P w=.ok (.value v) w:=by (intro w hSw; (try dsimp only at hSw); go_simp; try with_reducible rfl)) (hS:S w:=by assumption)
  (ha:a.put oi.dst v=a':=by (simp only [Act.put,List.setIfInBounds_toArray,List.set_cons_zero,List.set_cons_succ,List.getElem_toArray,List.getElem_cons_zero,List.getElem_cons_succ]; rfl)):wpAnyH P md ops Q S (fuel+1) listed a w :=
 wpAnyH_take hi hs hf hr hQ (Or.inl ⟨hw,hy⟩) hS (by rw [ha]; exact h)
theorem sk (i:Nat) {oi:Oper} {fuel:Nat} {listed:Array Bool} {a a':Act} {w:World} (h:wpAnyH P md ops Q S fuel (listed.setIfInBounds i true) a' w)
  (hi:ops[i]?=some oi:=by rfl) (hs:Region.noSelect ops=true:=by kernel_rfl) (hf:Region.free md ops listed i=true:=by kernel_rfl) (hr:(Region.ready md ops listed).contains i=true:=by kernel_rfl)
  (hQ:∀ c a w,Q (.panic c) (a.put oi.dst undef) w->Q (.panic c) a w:=by exact fun _ _ _ h=>h) (hw:Region.wanted oi (yielded ops a.tmps)=false:=by rfl) (hS:S w:=by assumption)
  (ha:a.put oi.dst undef=a':=by (simp only [Act.put,List.setIfInBounds_toArray,List.set_cons_zero,List.set_cons_succ,List.getElem_toArray,List.getElem_cons_zero,List.getElem_cons_succ]; rfl)):wpAnyH P md ops Q S (fuel+1) listed a w :=
 wpAnyH_take hi hs hf hr hQ (Or.inr ⟨hw,rfl⟩) hS (by rw [ha]; exact h)
end
end Go.Proofs.YtnmhkgmmpkjjeacGreat
namespace Go.Proofs.YtnmhkgmmpkjjeacGreat
open Go.ChangeShapes Go.WideShapes Go.ChangeAt Go.RowKit
set_option linter.unusedVariables false
structure Elt (α:Type) where
 T:TypeId
 sz:Nat
 enc:α->List Value
 dflt:α
 pos:0 < sz
 len:∀ a,(enc a).length=sz
section
variable {α:Type} (E:Elt α)
def ecells (xs:List α):List Value:=xs.flatMap E.enc
def eAt (xs:List α) (i:Nat):α:=xs.getD i E.dflt
theorem ecells_length (xs:List α):(ecells E xs).length=xs.length * E.sz:=by
 induction xs with
 | nil=>simp [ecells]
 | cons p r ih =>
  have e:ecells E (p :: r)=E.enc p ++ ecells E r:=rfl
  rw [e,List.length_append,ih,E.len,List.length_cons,Nat.add_mul]; omega
theorem ecells_append (a b:List α):ecells E (a ++ b)=ecells E a ++ ecells E b:=by simp [ecells]
theorem ecells_at (xs:List α):∀ i,i < xs.length->∀ j,j < E.sz->(ecells E xs)[i * E.sz+j]?=(E.enc (eAt E xs i))[j]?:=by
 induction xs with
 | nil=>intro i hi; simp at hi
 | cons p r ih =>
  intro i hi j hj
  have e:ecells E (p :: r)=E.enc p ++ ecells E r:=rfl
  rw [e]
  cases i with
  | zero =>
   rw [Nat.zero_mul,Nat.zero_add,List.getElem?_append_left (by rw [E.len]; exact hj)]
   rfl
  | succ i =>
   rw [List.getElem?_append_right (by rw [E.len,Nat.add_mul]; omega),E.len,show (i+1) * E.sz+j - E.sz=i * E.sz+j by rw [Nat.add_mul]; omega]
   exact ih i (by simpa using hi) j hj
theorem cell_lt {n sz i j:Nat} (hi:i < n) (hj:j < sz):i * sz+j < n * sz:=by
 have h:(i+1) * sz<=n * sz:=Nat.mul_le_mul_right sz hi
 rw [Nat.add_mul] at h
 omega
def ERow (w:World) (base:Nat) (v:Value) (xs:List α):Prop:=w.ownsRow base E.T E.sz v xs.length (ecells E xs)
def EHas (w:World) (v:Value) (n:Nat) (c:Nat->Nat->Value):Prop :=
 ∃ a cap,v=.slice a n cap/\(0 < n->∃ g N f,a=some ⟨g,0,none⟩/\w.rowIs g E.T N f/\n * E.sz<=N/\∀ i,i < n->∀ j,j < E.sz->f (i * E.sz+j)=c i j)
def eCell (xs:List α) (i j:Nat):Value:=((E.enc (eAt E xs i))[j]?).getD (.bool false)
variable {E}
theorem ERow.form {w:World} {base:Nat} {v:Value} {xs:List α} (h:ERow E w base v xs):∃ a cap,v=.slice a xs.length cap/\(0 < xs.length->∃ g N f,a=some ⟨g,0,none⟩/\base<=g/\w.rowIs g E.T N f/\xs.length * E.sz<=N/\∀ i,i < xs.length->∀ j,j < E.sz->f (i * E.sz+j)=eCell E xs i j):=by
 rcases h.2 with ⟨rfl,h0⟩ | ⟨g,cap,cur,rfl,hb,hg,hn,hm,hs,ht⟩
 ·rw [h0]; exact ⟨none,0,rfl,fun h=>absurd h (by omega)⟩
 ·refine ⟨_,cap,rfl,fun _=>⟨g,cur.size,fun i=>cur.getD i (.bool false),rfl,hb,⟨cur,hg,rfl,fun i hi=>by simp [hi]⟩,by rw [hs]; exact Nat.mul_le_mul_right _ hn,fun i hi j hj=>?_⟩⟩
  have hu:=ecells_at E xs i hi j hj
  rw [<- ht,List.getElem?_take,if_pos (cell_lt hi hj)] at hu
  simp only [Array.getElem?_toList] at hu
  simp [Array.getD_eq_getD_getElem?,hu,eCell]
theorem ERow.of_row {w:World} {base g n cap N:Nat} {f:Nat->Value} {xs:List α} (hx:xs.length=n) (hb:base<=g) (hr:w.rowIs g E.T N f) (hN:N=cap * E.sz) (hc:n<=cap) (hm:cap<=maxLen) (hf:∀ i,i < n->∀ j,j < E.sz->f (i * E.sz+j)=eCell E xs i j) :
  ERow E w base (.slice (some ⟨g,0,none⟩) n cap) xs:=by
 obtain ⟨cur,hg,hs,hc2⟩:=hr
 subst hx
 refine ⟨ecells_length E xs,.inr ⟨g,cap,cur,rfl,hb,hg,hc,hm,by rw [hs,hN],?_⟩⟩
 apply List.ext_getElem?
 intro q
 by_cases hq:q < xs.length * E.sz
 ·have hpos:=E.pos
  have hqi:q / E.sz < xs.length:=(Nat.div_lt_iff_lt_mul hpos).2 hq
  have hqj:q % E.sz < E.sz:=Nat.mod_lt _ hpos
  have e:q=q / E.sz * E.sz+q % E.sz:=by rw [Nat.mul_comm]; exact (Nat.div_add_mod q E.sz).symm
  have hlt:q < N:=by rw [hN]; exact Nat.lt_of_lt_of_le hq (Nat.mul_le_mul_right _ hc)
  have h1:=hc2 q hlt
  have h2:=ecells_at E xs _ hqi _ hqj
  have h3:=hf _ hqi _ hqj
  rw [<- e] at h2 h3
  rw [List.getElem?_take,if_pos hq,Array.getElem?_toList,h1,h2,h3]
  unfold eCell
  rw [List.getElem?_eq_getElem (by rw [E.len]; exact hqj)]
  rfl
 ·rw [List.getElem?_eq_none (by rw [List.length_take]; omega),List.getElem?_eq_none (by rw [ecells_length]; omega)]
theorem ERow.below {w w':World} {base:Nat} {v:Value} {xs:List α} (h:ERow E w base v xs) (hb:Below w.heap.size w w'):ERow E w' base v xs :=
 World.ownsRow.kept (row:=none) h ⟨hb.os,hb.tape,hb.output,hb.size,fun k hk _=>hb.block k hk⟩ (by cases hv:v.ownBlock <;> simp)
theorem ERow.kept {w w':World} {base:Nat} {v:Value} {xs:List α} {row:Option Nat} (h:ERow E w base v xs) (hg:w.grownBy w' row) (hne:∀ k,v.ownBlock=some k->some k ≠ row):ERow E w' base v xs :=
 World.ownsRow.kept h hg (by
  cases hv:v.ownBlock with
  | none=>exact .inl rfl
  | some k=>exact .inr (hne k hv))
theorem ERow.rebase {w:World} {base base':Nat} {v:Value} {xs:List α} (h:ERow E w base v xs) (hb:base'<=base):ERow E w base' v xs:=by
 refine ⟨h.1,?_⟩
 rcases h.2 with hh | ⟨g,cap,cur,e,hg,r⟩
 ·exact .inl hh
 ·exact .inr ⟨g,cap,cur,e,Nat.le_trans hb hg,r⟩
theorem ERow.own {w:World} {base:Nat} {v:Value} {xs:List α} (h:ERow E w base v xs):∀ k,v.ownBlock=some k->base<=k/\k < w.heap.size:=World.ownsRow.lt h
theorem ERow.has {w:World} {base:Nat} {v:Value} {xs:List α} (h:ERow E w base v xs):EHas E w v xs.length (eCell E xs):=by
 obtain ⟨a,cap,e,h1⟩:=h.form
 refine ⟨a,cap,e,fun h0=>?_⟩
 obtain ⟨g,N,f,p,_,q,r,s⟩:=h1 h0
 exact ⟨g,N,f,p,q,r,s⟩
theorem EHas.below {w w':World} {v:Value} {n:Nat} {c:Nat->Nat->Value} (h:EHas E w v n c) (hb:Below w.heap.size w w'):EHas E w' v n c:=by
 obtain ⟨a,cap,e,h1⟩:=h
 refine ⟨a,cap,e,fun h0=>?_⟩
 obtain ⟨g,N,f,p,q,r,s⟩:=h1 h0
 exact ⟨g,N,f,p,q.of_block (hb.block g q.lt),r,s⟩
theorem EHas.kept {w w':World} {v:Value} {n:Nat} {c:Nat->Nat->Value} {row:Option Nat} (h:EHas E w v n c) (hg:w.grownBy w' row) (hne:∀ k,v.ownBlock=some k->some k ≠ row):EHas E w' v n c:=by
 obtain ⟨a,cap,e,h1⟩:=h
 refine ⟨a,cap,e,fun h0=>?_⟩
 obtain ⟨g,N,f,p,q,r,s⟩:=h1 h0
 subst e p
 exact ⟨g,N,f,rfl,q.of_block (hg.block g q.lt (hne g rfl)),r,s⟩
variable (E)
def ESrc (w:World) (v:Value) (xs:List α):Prop :=
 ∃ (a:Option Addr) (cap:Nat),v=.slice a xs.length cap/\(0 < xs.length->∃ b o,a=some ⟨b,o,none⟩/\b < w.heap.size/\∀ i,i < xs.length->∀ j,j < E.sz->w.cell? ⟨b,o+i * E.sz+j,none⟩=some (eCell E xs i j))
variable {E}
theorem ESrc.at {w w':World} {v:Value} {xs:List α} (h:ESrc E w v xs) (hb:Below w.heap.size w w'):ESrc E w' v xs:=by
 obtain ⟨a,cap,rfl,ha⟩:=h
 refine ⟨a,cap,rfl,fun h0=>?_⟩
 obtain ⟨b,o,rfl,hbl,hc⟩:=ha h0
 exact ⟨b,o,rfl,Nat.lt_of_lt_of_le hbl hb.size,fun i hi j hj=>(hb.cell hbl).trans (hc i hi j hj)⟩
end
theorem eGrown_set {w wr:World} {g:Nat} (h:w.grownBy wr (some g)) (i:Nat) (v:Value):w.grownBy (wr.setCell ⟨g,i,none⟩ v) (some g) :=
 ⟨h.os,h.tape,h.output,by simpa using h.size,fun j hj hne=>(Below.heap_setCell _ _ _ _ (by intro e; exact hne (by rw [e]))).trans (h.block j hj hne)⟩
theorem take_snocE {α:Type} (E:Elt α) (xs:List α) (t:Nat) (h:t < xs.length):xs.take (t+1)=xs.take t ++ [eAt E xs t]:=by
 rw [List.take_succ_eq_append_getElem h]; simp [eAt,h]
theorem ERow.snoc {α:Type} {E:Elt α} {w:World} {B:Nat} {v:Value} {xs:List α} {t m:Nat} (ht:t < xs.length) (hm:m=t+1) (h:w.ownsRow B E.T E.sz v m (ecells E (xs.take t) ++ E.enc (eAt E xs t))):ERow E w B v (xs.take (t+1)):=by
 unfold ERow
 have e1:(xs.take (t+1)).length=t+1:=by rw [List.length_take]; omega
 have e2:ecells E (xs.take (t+1))=ecells E (xs.take t) ++ E.enc (eAt E xs t):=by
  rw [take_snocE E xs t ht,ecells_append]; simp [ecells]
 rw [e1,e2,<- hm]
 exact h
theorem ERow.empty {α:Type} (E:Elt α) (w:World) (B:Nat) (hb:B<=w.heap.size):ERow E (w.alloc (.cells #[] E.T)) B (.slice (some ⟨w.heap.size,0,none⟩) 0 0) [] :=
 ⟨by simp [ecells],.inr ⟨w.heap.size,0,#[],rfl,hb,heap_alloc_new w _,Nat.le_refl _,by unfold maxLen; omega,by simp,by simp [ecells]⟩⟩
end Go.Proofs.YtnmhkgmmpkjjeacGreat
namespace Go.Proofs.YtnmhkgmmpkjjeacGreat
open Go.ChangeShapes Go.WideShapes Go.ChangeAt Go.RowKit
set_option linter.unusedVariables false
set_option maxRecDepth 100000
theorem hidP {p:Prop} (h:p):Hid p:=h
theorem erow_push {α:Type} {E:Elt α} {w:World} {B n:Nat} {v:Value} {xs:List α} {x:α} (hn:xs.length=n) (h:w.ownsRow B E.T E.sz v (n+1) (ecells E xs ++ E.enc x)):ERow E w B v (xs ++ [x]):=by
 unfold ERow
 rw [ecells_append,List.length_append,List.length_singleton,hn]
 have e:ecells E [x]=E.enc x:=by simp [ecells]
 rw [e]
 exact h
structure LS {α:Type} (E:Elt α) (w:World) (wr:World) (vv:Value) (l:List α):Prop where
 row:∃ g c:Nat,vv=.slice (some ⟨g,0,none⟩) l.length c/\ERow E wr w.heap.size (.slice (some ⟨g,0,none⟩) l.length c) l
 bel:Below w.heap.size w wr
theorem LS.below {α:Type} {E:Elt α} {w wr w1:World} {vv:Value} {l:List α} (h:LS E w wr vv l) (hb:Below wr.heap.size wr w1):LS E w w1 vv l:=by
 obtain ⟨⟨g,c,e,hr⟩,hbel⟩:=h
 exact ⟨⟨g,c,e,hr.below hb⟩,hbel.trans (hb.mono hbel.size)⟩
theorem LS.push {α:Type} {E:Elt α} {w w1 wn:World} {g c g1 c1:Nat} {l:List α} {x:α} {o:Obj} (hbel:Below w.heap.size w w1) (hr:ERow E w1 w.heap.size (.slice (some ⟨g,0,none⟩) l.length c) l) (hown:wn.ownsRow w.heap.size E.T E.sz (.slice (some ⟨g1,0,none⟩) (l.length+1) c1) (l.length+1) (ecells E l ++ E.enc x)) (hgrow:(w1.alloc o).grownBy wn (Value.ownBlock (.slice (some ⟨g,0,none⟩) l.length c))) :
  LS E w wn (.slice (some ⟨g1,0,none⟩) (l.length+1) c1) (l ++ [x]):=by
 refine ⟨⟨g1,c1,by simp,?_⟩,?_⟩
 ·have:=erow_push rfl hown
  rw [List.length_append,List.length_singleton]
  exact this
 ·exact (hbel.alloc hbel.size _).grown hgrow (by have:=hbel.size; simp; omega) (fun q hq=>(hr.own q hq).1)
theorem LS.new {α:Type} (E:Elt α) (w:World):LS E w (w.alloc (.cells #[] E.T)) (.slice (some ⟨w.heap.size,0,none⟩) 0 0) []:=⟨⟨w.heap.size,0,rfl,ERow.empty E w w.heap.size (Nat.le_refl _)⟩,bal⟩
end Go.Proofs.YtnmhkgmmpkjjeacGreat
namespace Go.Proofs.YtnmhkgmmpkjjeacGreat
set_option linter.unusedVariables false
abbrev Txt:=List UInt8
def bs (l:Txt):ByteArray:=⟨l.toArray⟩
theorem bs_size (l:Txt):(bs l).size=l.length:=by show l.toArray.size=_; simp
theorem bs_get (l:Txt) (i:Nat) (h:i < (bs l).size):(bs l)[i]'h=l.getD i 0:=by
 have hl:i < l.length:=by rw [<- bs_size]; exact h
 simp only [List.getD,List.getElem?_eq_getElem hl,Option.getD_some]
 rfl
theorem bs_app (a b:Txt):bs a ++ bs b=bs (a ++ b):=by unfold bs; rw [ByteArray.mk_append_mk]
theorem bs_mk (a:Array UInt8):ByteArray.mk a=bs a.toList:=rfl
def cutL (l:Txt) (i j:Nat):Txt:=(l.take j).drop i
theorem bs_cut (l:Txt) (i j:Nat):(bs l).extract i j=bs (cutL l i j):=by
 unfold bs cutL
 rw [ByteArray.extract_mk]
 congr 1
 simp [List.drop_take]
theorem bs_list (l:Txt):(bs l).toList=l:=by
 rw [ByteArray.toList_eq]; rfl
theorem bs_of (s:ByteArray):∃ l,s=bs l:=⟨s.data.toList,rfl⟩
theorem bs_inj {a b:Txt} (h:bs a=bs b):a=b:=by rw [<- bs_list a,h,bs_list]
def isLow (c:UInt8):Bool:=decide (97<=c.toNat) && decide (c.toNat<=122)
def isDig (c:UInt8):Bool:=decide (48<=c.toNat) && decide (c.toNat<=57)
def isWd (c:UInt8):Bool:=isLow c || isDig c || decide (c.toNat=95)
def okB (c:UInt8):Bool:=isWd c || decide (c.toNat=32) || decide (c.toNat=10) || decide (c.toNat=59)
def insN (b:Bool) (c:UInt8):Bool:=(b || decide (c.toNat=35)) && !decide (c.toNat=10)
def blankL:Bool->Txt->Txt
 | _,[]=>[]
 | b,c :: r=>(if insN b c then 32 else c) :: blankL (insN b c) r
def badL:Nat->Txt->Int
 | _,[]=>-1
 | k,c :: r=>if okB c then badL (k+1) r else k
def flush (w:Txt):List Txt:=if w=[] then [] else [w]
def tokL:Txt->Txt->List Txt
 | w,[]=>flush w
 | w,c :: r=>if isWd c then tokL (w ++ [c]) r else flush w ++ ((if decide (c.toNat=59) then [[59]] else []) ++ tokL [] r)
theorem drop_at {l:Txt} {k:Nat} (h:k < l.length):l.drop k=l.getD k 0 :: l.drop (k+1):=by
 rw [List.drop_eq_getElem_cons h]
 simp [List.getD,List.getElem?_eq_getElem h]
theorem cut_one {l:Txt} {k:Nat} (h:k < l.length):cutL l k (k+1)=[l.getD k 0]:=by
 unfold cutL
 rw [List.drop_take,show k+1 - k=1 by omega,drop_at h]
 rfl
def cAt (l:Txt) (k:Nat):UInt8:=l.getD k 0
theorem drop_cAt {l:Txt} {k:Nat} (h:k < l.length):l.drop k=cAt l k :: l.drop (k+1):=drop_at h
theorem cut_cAt {l:Txt} {k:Nat} (h:k < l.length):cutL l k (k+1)=[cAt l k]:=cut_one h
theorem bs_cAt (l:Txt) (i:Nat) (h:i < (bs l).size):(bs l)[i]'h=cAt l i:=bs_get l i h
end Go.Proofs.YtnmhkgmmpkjjeacGreat
namespace Go.Proofs.YtnmhkgmmpkjjeacGreat
open Go.ChangeShapes Go.WideShapes Go.ChangeAt Go.RowKit
set_option linter.unusedVariables false
set_option maxRecDepth 100000
def eTok:Elt Txt:=⟨140,1,fun x=>[.string (bs x)],[],by omega,fun _=>rfl⟩
theorem infoTok:(Tryz.prog.info? 140).map (fun i=>(i.zero,i.size,i.bytes))=some (some (.agg #[.string (bs [])]),1,16):=by kernel_rfl
theorem eTok_cells {w:World} {b g c:Nat} {xs:List Txt} (h:ERow eTok w b (.slice (some ⟨g,0,none⟩) xs.length c) xs) (i:Nat) (hi:i < xs.length):g < w.heap.size/\w.cell? ⟨g,i,none⟩=some (.string (bs (eAt eTok xs i))):=by
 obtain ⟨a,c',e,h1⟩:=h.form
 obtain ⟨g',N,f,e2,_,hr,hN,hf⟩:=h1 (by omega)
 have hN':xs.length * 1<=N:=hN
 simp only [Value.slice.injEq] at e
 obtain ⟨e,_,_⟩:=e
 rw [e2] at e
 simp only [Option.some.injEq,Addr.mk.injEq,and_true] at e
 subst e
 refine ⟨hr.lt,?_⟩
 have h0:=hf i hi 0 (by decide)
 have h1:i * eTok.sz+0=i:=by show i * 1+0=i; omega
 rw [h1] at h0
 rw [hr.cell (i:=i) (by omega),h0]
 rfl
end Go.Proofs.YtnmhkgmmpkjjeacGreat
namespace Go.Proofs.YtnmhkgmmpkjjeacGreat
open Go.ChangeShapes Go.WideShapes Go.ChangeAt Go.RowKit
set_option linter.unusedVariables false
set_option maxRecDepth 100000
attribute [local go_sem ↓] Go.wp_at_zero Go.wp_at_succ
attribute [local go_sem] bs_size bs_cAt bs_app bs_mk bs_cut bs_list
theorem l4WordByte_any (c:UInt8) (w:World):Calls Tryz.prog 110 #[.int .u8 c.toNat] w fun e w'=>e=.returned (.bool (isWd c))/\w'=w:=by
 unfold isWd isLow isDig
 obtain ⟨n,hn⟩:∃ n:Nat,c.toNat=n:=⟨_,rfl⟩
 rw [hn]
 clear hn
 go_enter Tryz.func110,Tryz.ntmps110
 go_wp2
 all_goals
  go_ret
  refine ⟨congrArg (fun b=>Ending.returned (Value.bool b)) ?_,rfl⟩
  rw [Bool.eq_iff_iff]
  simp
  omega
theorem l4Blank_any (l:Txt) (w:World) (hle:l.length<=20000):Calls Tryz.prog 77 #[.string (bs l)] w fun e w'=>e=.returned (.string (bs (blankL false l)))/\w'=w:=by
 go_enter Tryz.func77,Tryz.ntmps77
 go_wp2_with fail
 go_loopw [3,4,5] (fun ov bv iv wr=>∃ (k:Nat) (O:Txt) (B:Bool),k<=l.length/\iv=.int .i64 k/\bv=.bool B/\ov=.string (bs O)/\Hid (O ++ blankL B (l.drop k)=blankL false l)/\Hid (O.length=k)/\wr=w) (fun _ _ iv _=>l.length - (intOf iv).toNat)
 case atStart=>exact ⟨0,[],false,Nat.zero_le _,rfl,rfl,rfl,rfl,rfl,rfl⟩
 case round =>
  obtain ⟨k,O,B,hk,rfl,rfl,rfl,HO,HK,rfl⟩:=hrel
  by_cases hlt:k < l.length
  ·have HD:Hid _:=drop_cAt hlt
   have hcut:=cut_cAt hlt
   obtain ⟨c,hc⟩:∃ c,cAt l k=c:=⟨_,rfl⟩
   rw [hc] at HD hcut
   have hO:O.length < 9223372036854775807:=by have:=HK.out; omega
   have L1:(0:Int)<=(k:Int):=by omega
   have L2:(k:Int) < (l.length:Int):=by omega
   have L3:(0:Int)<=(k:Int)+1:=by omega
   have L4:(k:Int)+1<=(l.length:Int):=by omega
   by_cases h35:c.toNat=35
   ·have e1:((c.toNat:Int) == 35)=true:=by simp [h35]
    have e2:((c.toNat:Int) == 10)=false:=by simp [h35]
    have HN:Hid (insN B c=true):=hidP <| by unfold insN; simp [h35]
    clear h35
    go_wp2_with fail
    go_roundw
    case rel=>exact ⟨k+1,O ++ [32],true,by omega,by go_num,rfl,rfl,hidP <| by rw [<- HO.out,HD.out]; simp [blankL,HN.out],hidP <| by have:=HK.out; simp; omega,by first | rfl | trivial⟩
    case measure=>simp [intOf]; omega
   ·have e1:((c.toNat:Int) == 35)=false:=by simp; omega
    by_cases h10:c.toNat=10
    ·have e2:((c.toNat:Int) == 10)=true:=by simp [h10]
     have HN:Hid (insN B c=false):=hidP <| by unfold insN; simp [h10]
     clear h35 h10
     go_wp2_with fail
     go_roundw
     case rel=>exact ⟨k+1,O ++ [c],false,by omega,by go_num,rfl,rfl,hidP <| by rw [<- HO.out,HD.out]; simp [blankL,HN.out],hidP <| by have:=HK.out; simp; omega,by first | rfl | trivial⟩
     case measure=>simp [intOf]; omega
    ·have e2:((c.toNat:Int) == 10)=false:=by simp; omega
     have HN:Hid (insN B c=B):=hidP <| by unfold insN; simp [h35,h10]
     clear h35 h10
     cases B
     ·go_wp2_with fail
      go_roundw
      case rel=>exact ⟨k+1,O ++ [c],false,by omega,by go_num,rfl,rfl,hidP <| by rw [<- HO.out,HD.out]; simp [blankL,HN.out],hidP <| by have:=HK.out; simp; omega,by first | rfl | trivial⟩
      case measure=>simp [intOf]; omega
     ·go_wp2_with fail
      go_roundw
      case rel=>exact ⟨k+1,O ++ [32],true,by omega,by go_num,rfl,rfl,hidP <| by rw [<- HO.out,HD.out]; simp [blankL,HN.out],hidP <| by have:=HK.out; simp; omega,by first | rfl | trivial⟩
      case measure=>simp [intOf]; omega
  ·have HE:Hid (blankL false l=O):=hidP <| by
    rw [<- HO.out,List.drop_eq_nil_of_le (by omega)]; simp [blankL]
   go_wp2_with fail
   go_ret
   exact ⟨by rw [HE.out]; rfl,rfl⟩
theorem l4Bad_any (l:Txt) (w:World) (hle:l.length<=20000):Calls Tryz.prog 78 #[.string (bs l)] w fun e w'=>e=.returned (.int .i64 (badL 0 l))/\w'=w:=by
 go_enter Tryz.func78,Tryz.ntmps78
 go_wp2_with fail
 go_loopw [3] (fun iv wr=>∃ (k:Nat),k<=l.length/\iv=.int .i64 k/\Hid (badL k (l.drop k)=badL 0 l)/\wr=w) (fun iv _=>l.length - (intOf iv).toNat)
 case atStart=>exact ⟨0,Nat.zero_le _,rfl,rfl,rfl⟩
 case round =>
  obtain ⟨k,hk,rfl,HO,rfl⟩:=hrel
  by_cases hlt:k < l.length
  ·have HD:Hid _:=drop_cAt hlt
   obtain ⟨c,hc⟩:∃ c,cAt l k=c:=⟨_,rfl⟩
   rw [hc] at HD
   have L1:(0:Int)<=(k:Int):=by omega
   have L2:(k:Int) < (l.length:Int):=by omega
   cases hw:isWd c
   ·have HB1:Hid (okB c=false->badL 0 l=k):=hidP <| fun h=>by rw [<- HO.out,HD.out]; simp [badL,h]
    have HB2:Hid (okB c=true->badL (k+1) (l.drop (k+1))=badL 0 l):=hidP <| fun h=>by rw [<- HO.out,HD.out]; simp [badL,h]
    have HW:Hid (isWd c=false):=hw
    by_cases h1:c.toNat=32
    ·have HR:Hid _:=HB2.out (by unfold okB; simp [h1])
     have e1:((c.toNat:Int) != 32)=false:=by simp [h1]
     clear h1
     go_wp2_with (go_at_call 110; refine (l4WordByte_any c _).mono ?_; rintro e w' ⟨rfl,rfl⟩)
     go_roundw
     case rel=>exact ⟨k+1,by omega,by go_num,HR,by first | rfl | trivial⟩
     case measure=>simp [intOf]; omega
    ·have e1:((c.toNat:Int) != 32)=true:=by simp; omega
     by_cases h2:c.toNat=10
     ·have HR:Hid _:=HB2.out (by unfold okB; simp [h2])
      have e2:((c.toNat:Int) != 10)=false:=by simp [h2]
      clear h1 h2
      go_wp2_with (go_at_call 110; refine (l4WordByte_any c _).mono ?_; rintro e w' ⟨rfl,rfl⟩)
      go_roundw
      case rel=>exact ⟨k+1,by omega,by go_num,HR,by first | rfl | trivial⟩
      case measure=>simp [intOf]; omega
     ·have e2:((c.toNat:Int) != 10)=true:=by simp; omega
      by_cases h3:c.toNat=59
      ·have HR:Hid _:=HB2.out (by unfold okB; simp [h3])
       have e3:((c.toNat:Int) != 59)=false:=by simp [h3]
       clear h1 h2 h3
       go_wp2_with (go_at_call 110; refine (l4WordByte_any c _).mono ?_; rintro e w' ⟨rfl,rfl⟩)
       go_roundw
       case rel=>exact ⟨k+1,by omega,by go_num,HR,by first | rfl | trivial⟩
       case measure=>simp [intOf]; omega
      ·have e3:((c.toNat:Int) != 59)=true:=by simp; omega
       have HR:Hid _:=HB1.out (by unfold okB; simp [h1,h2,h3,HW.out])
       clear h1 h2 h3
       go_wp2_with (go_at_call 110; refine (l4WordByte_any c _).mono ?_; rintro e w' ⟨rfl,rfl⟩)
       go_ret
       exact ⟨by rw [HR.out]; rfl,rfl⟩
   ·have HR:Hid (badL (k+1) (l.drop (k+1))=badL 0 l):=hidP <| by rw [<- HO.out,HD.out]; simp [badL,okB,hw]
    go_wp2_with (go_at_call 110; refine (l4WordByte_any c _).mono ?_; rintro e w' ⟨rfl,rfl⟩)
    go_roundw
    case rel=>exact ⟨k+1,by omega,by go_num,HR,by first | rfl | trivial⟩
    case measure=>simp [intOf]; omega
  ·have HE:Hid (badL 0 l=-1):=hidP <| by
    rw [<- HO.out,List.drop_eq_nil_of_le (by omega)]; simp [badL]
   go_wp2_with fail
   go_ret
   exact ⟨by rw [HE.out]; rfl,rfl⟩
set_option maxHeartbeats 4000000 in
theorem l4Tokens_any (l:Txt) (w:World) (hle:l.length<=20000):Calls Tryz.prog 79 #[.string (bs l)] w fun e w'=>∃ v,e=.returned v/\LS eTok w w' v (tokL [] l):=by
 obtain ⟨i0,hi,hz0,hz1,hz2⟩:=info_parts infoTok
 have HS:Hid (LS eTok w (w.alloc (.cells #[] 140)) (.slice (some ⟨w.heap.size,0,none⟩) 0 0) []):=LS.new eTok w
 go_enter Tryz.func79,Tryz.ntmps79
 go_wp2_with fail
 go_loopw [3,4,5] (fun vv sv iv wr=>∃ (k:Nat) (T:List Txt) (W:Txt),k<=l.length+1/\iv=.int .i64 k/\sv=.string (bs W)/\LS eTok w wr vv T/\Hid (k<=l.length->T ++ tokL W (l.drop k)=tokL [] l)/\Hid (k=l.length+1->T=tokL [] l)/\Hid (T.length+W.length<=k)) (fun _ _ iv _=>l.length+1 - (intOf iv).toNat)
 case atStart=>exact ⟨0,[],[],Nat.zero_le _,rfl,rfl,HS.out,hidP fun _=>rfl,hidP fun h=>by simp at h,hidP (by simp)⟩
 case round =>
  obtain ⟨k,T,W,hk,rfl,rfl,hst,HT,HZ,HK⟩:=hrel
  by_cases hlt:k < l.length
  ·have HD:Hid _:=drop_cAt hlt
   have hcut:=cut_cAt hlt
   obtain ⟨c,hc⟩:∃ c,cAt l k=c:=⟨_,rfl⟩
   rw [hc] at HD hcut
   have HE:Hid (T ++ tokL W (c :: l.drop (k+1))=tokL [] l):=hidP <| by rw [<- HD.out]; exact HT.out (by omega)
   have hW:W.length < 9223372036854775807:=by have:=HK.out; omega
   have L1:(0:Int)<=(k:Int):=by omega
   have L2:(k:Int) < (l.length:Int):=by omega
   have L3:(0:Int)<=(k:Int)+1:=by omega
   have L4:(k:Int)+1<=(l.length:Int):=by omega
   have L5:(k:Int)<=(l.length:Int):=by omega
   cases hw:isWd c
   ·have HE2:Hid ((T ++ (flush W ++ (if decide (c.toNat=59) then [[59]] else []))) ++ tokL [] (l.drop (k+1))=tokL [] l):=hidP <| by
     rw [<- HE.out,tokL,hw]; simp
    by_cases h59:c.toNat=59
    ·have e59:((c.toNat:Int) == 59)=true:=by simp [h59]
     have HE3:Hid ((T ++ (flush W ++ [[59]])) ++ tokL [] (l.drop (k+1))=tokL [] l):=hidP <| by
      rw [<- HE2.out,decide_eq_true h59]; rfl
     clear h59
     by_cases hWn:W=[]
     ·subst hWn
      obtain ⟨⟨gv1,cv1,rfl,hrow⟩,hbel⟩:=hst
      have hsz1:=hbel.size
      have HROW1:Hid _:=hrow
      have HB1:Hid (Below _ w _):=hbel
      have hln1:T.length<=30000:=by have:=HK.out; omega
      clear hrow hbel
      go_wp2_with (first | (go_at_call 110; refine (l4WordByte_any c _).mono ?_; rintro e w' ⟨rfl,rfl⟩) | (at_builtin; refine wpList_append_lies _ rfl (.tmp 48) (.tmp 50) 137 rfl w.heap.size 140 i0 _ 1 16 Tryz.underlying137 hi hz0 hz1 hz2 rfl (by omega) _ _ _ rfl (World.ownsRow.alloc HROW1.out _) ⟨_,0,none⟩ 1 1 [.string (bs [59])] rfl rfl ?c1 ?c2 (by omega) ?c3 ?c4 ?c5 _ rfl ?_))
      case c1=>exact World.news_of_block (heap_alloc_new _ (.cells #[.string (bs [59])] 140))
      case c2=>intro u hu; simp at hu; rcases hu with rfl; rfl
      case c3=>unfold maxLen; omega
      case c4=>omega
      case c5=>simp; omega
      intro g1 cap1 wn1 hown hgrow hat hlt3
      have hst1:=LS.push (E:=eTok) (x:=[59]) HB1.out HROW1.out hown hgrow
      clear hown hgrow hat hlt3
      go_wp2_with fail
      go_roundw
      case rel=>exact ⟨k+1,T ++ [[59]],[],by omega,by go_num,rfl,hst1,hidP fun _=>HE3.out,hidP fun h=>absurd h (by omega),hidP (by have:=HK.out; simp at this ⊢; omega)⟩
      case measure=>first | (simp [intOf]; done) | (simp [intOf]; omega)
     ·have h0:0 < W.length:=List.length_pos_iff.2 hWn
      have HF:Hid (flush W=[W]):=hidP <| by unfold flush; rw [if_neg hWn]
      clear hWn
      obtain ⟨⟨gv1,cv1,rfl,hrow⟩,hbel⟩:=hst
      have hsz1:=hbel.size
      have HROW1:Hid _:=hrow
      have HB1:Hid (Below _ w _):=hbel
      have hln1:T.length<=30000:=by have:=HK.out; omega
      clear hrow hbel
      go_wp2_with (first | (go_at_call 110; refine (l4WordByte_any c _).mono ?_; rintro e w' ⟨rfl,rfl⟩) | (at_builtin; refine wpList_append_lies _ rfl (.tmp 33) (.tmp 36) 137 rfl w.heap.size 140 i0 _ 1 16 Tryz.underlying137 hi hz0 hz1 hz2 rfl (by omega) _ _ _ rfl (World.ownsRow.alloc HROW1.out _) ⟨_,0,none⟩ 1 1 [.string (bs W)] rfl rfl ?c1 ?c2 (by omega) ?c3 ?c4 ?c5 _ rfl ?_))
      case c1=>exact World.news_of_block (heap_alloc_new _ (.cells #[.string (bs W)] 140))
      case c2=>intro u hu; simp at hu; rcases hu with rfl; rfl
      case c3=>unfold maxLen; omega
      case c4=>omega
      case c5=>simp; omega
      intro g1 cap1 wn1 hown hgrow hat hlt3
      have hst1:=LS.push (E:=eTok) (x:=W) HB1.out HROW1.out hown hgrow
      clear hown hgrow hat hlt3
      obtain ⟨T2,hT2⟩:∃ T2,T ++ [W]=T2:=⟨_,rfl⟩
      have hT2l:T.length+1=T2.length:=by rw [<- hT2]; simp
      rw [hT2,hT2l] at hst1
      rw [hT2l]
      have HT2:Hid _:=hT2
      have HT2l:Hid _:=hT2l
      clear hT2 hT2l
      obtain ⟨⟨gv2,cv2,eg2,hrow⟩,hbel⟩:=hst1
      have hsz2:=hbel.size
      have HROW2:Hid _:=hrow
      have HB2:Hid (Below _ w _):=hbel
      have hln2:T2.length<=30000:=by have:=HK.out; have:=HT2l.out; omega
      clear hrow hbel
      simp only [Value.slice.injEq,Option.some.injEq,Addr.mk.injEq,and_true,true_and] at eg2
      obtain ⟨rfl,rfl⟩:=eg2
      go_wp2_with (at_builtin; refine wpList_append_lies _ rfl (.tmp 48) (.tmp 50) 137 rfl w.heap.size 140 i0 _ 1 16 Tryz.underlying137 hi hz0 hz1 hz2 rfl (by omega) _ _ _ rfl (World.ownsRow.alloc HROW2.out _) ⟨_,0,none⟩ 1 1 [.string (bs [59])] rfl rfl ?c1 ?c2 (by omega) ?c3 ?c4 ?c5 _ rfl ?_)
      case c1=>exact World.news_of_block (heap_alloc_new _ (.cells #[.string (bs [59])] 140))
      case c2=>intro u hu; simp at hu; rcases hu with rfl; rfl
      case c3=>unfold maxLen; omega
      case c4=>omega
      case c5=>simp; omega
      intro g2 cap2 wn2 hown hgrow hat hlt3
      have hst2:=LS.push (E:=eTok) (x:=[59]) HB2.out HROW2.out hown hgrow
      clear hown hgrow hat hlt3
      go_wp2_with fail
      go_roundw
      case rel=>exact ⟨k+1,T2 ++ [[59]],[],by omega,by go_num,rfl,hst2,hidP fun _=>by rw [<- HE3.out,HF.out,<- HT2.out]; simp,hidP fun h=>absurd h (by omega),hidP (by have:=HK.out; have:=HT2l.out; simp at this ⊢; omega)⟩
      case measure=>first | (simp [intOf]; done) | (simp [intOf]; omega)
    ·have e59:((c.toNat:Int) == 59)=false:=by simp; omega
     have HE3:Hid ((T ++ flush W) ++ tokL [] (l.drop (k+1))=tokL [] l):=hidP <| by
      rw [<- HE2.out,decide_eq_false h59]; simp
     clear h59
     by_cases hWn:W=[]
     ·subst hWn
      go_wp2_with (go_at_call 110; refine (l4WordByte_any c _).mono ?_; rintro e w' ⟨rfl,rfl⟩)
      go_roundw
      case rel=>exact ⟨k+1,T,[],by omega,by go_num,rfl,hst,hidP fun _=>by rw [<- HE3.out]; simp [flush],hidP fun h=>absurd h (by omega),hidP (by have:=HK.out; simp at this ⊢; omega)⟩
      case measure=>first | (simp [intOf]; done) | (simp [intOf]; omega)
     ·have h0:0 < W.length:=List.length_pos_iff.2 hWn
      have HF:Hid (flush W=[W]):=hidP <| by unfold flush; rw [if_neg hWn]
      clear hWn
      obtain ⟨⟨gv1,cv1,rfl,hrow⟩,hbel⟩:=hst
      have hsz1:=hbel.size
      have HROW1:Hid _:=hrow
      have HB1:Hid (Below _ w _):=hbel
      have hln1:T.length<=30000:=by have:=HK.out; omega
      clear hrow hbel
      go_wp2_with (first | (go_at_call 110; refine (l4WordByte_any c _).mono ?_; rintro e w' ⟨rfl,rfl⟩) | (at_builtin; refine wpList_append_lies _ rfl (.tmp 33) (.tmp 36) 137 rfl w.heap.size 140 i0 _ 1 16 Tryz.underlying137 hi hz0 hz1 hz2 rfl (by omega) _ _ _ rfl (World.ownsRow.alloc HROW1.out _) ⟨_,0,none⟩ 1 1 [.string (bs W)] rfl rfl ?c1 ?c2 (by omega) ?c3 ?c4 ?c5 _ rfl ?_))
      case c1=>exact World.news_of_block (heap_alloc_new _ (.cells #[.string (bs W)] 140))
      case c2=>intro u hu; simp at hu; rcases hu with rfl; rfl
      case c3=>unfold maxLen; omega
      case c4=>omega
      case c5=>simp; omega
      intro g1 cap1 wn1 hown hgrow hat hlt3
      have hst1:=LS.push (E:=eTok) (x:=W) HB1.out HROW1.out hown hgrow
      clear hown hgrow hat hlt3
      go_wp2_with fail
      go_roundw
      case rel=>exact ⟨k+1,T ++ [W],[],by omega,by go_num,rfl,hst1,hidP fun _=>by rw [<- HE3.out,HF.out],hidP fun h=>absurd h (by omega),hidP (by have:=HK.out; simp at this ⊢; omega)⟩
      case measure=>first | (simp [intOf]; done) | (simp [intOf]; omega)
   ·have HE2:Hid (T ++ tokL (W ++ [c]) (l.drop (k+1))=tokL [] l):=hidP <| by
     rw [<- HE.out,tokL,hw]; simp
    go_wp2_with (go_at_call 110; refine (l4WordByte_any c _).mono ?_; rintro e w' ⟨rfl,rfl⟩)
    go_roundw
    case rel=>exact ⟨k+1,T,W ++ [c],by omega,by go_num,rfl,hst,hidP fun _=>HE2.out,hidP fun h=>absurd h (by omega),hidP (by have:=HK.out; simp; omega)⟩
    case measure=>first | (simp [intOf]; done) | (simp [intOf]; omega)
  ·by_cases hz:k=l.length
   ·have HE:Hid (T ++ flush W=tokL [] l):=hidP <| by
     have:=HT.out (by omega)
     rw [hz,List.drop_length,tokL] at this
     exact this
    subst hz
    have L1:(0:Int)<=(l.length:Int):=by omega
    by_cases hWn:W=[]
    ·subst hWn
     go_wp2_with fail
     go_roundw
     case rel=>exact ⟨l.length+1,T,[],by omega,by go_num,rfl,hst,hidP fun h=>absurd h (by omega),hidP fun _=>by rw [<- HE.out]; simp [flush],hidP (by have:=HK.out; simp at this ⊢; omega)⟩
     case measure=>first | (simp [intOf]; done) | (simp [intOf]; omega)
    ·have h0:0 < W.length:=List.length_pos_iff.2 hWn
     have HF:Hid (flush W=[W]):=hidP <| by unfold flush; rw [if_neg hWn]
     clear hWn
     obtain ⟨⟨gv1,cv1,rfl,hrow⟩,hbel⟩:=hst
     have hsz1:=hbel.size
     have HROW1:Hid _:=hrow
     have HB1:Hid (Below _ w _):=hbel
     have hln1:T.length<=30000:=by have:=HK.out; omega
     clear hrow hbel
     go_wp2_with (at_builtin; refine wpList_append_lies _ rfl (.tmp 33) (.tmp 36) 137 rfl w.heap.size 140 i0 _ 1 16 Tryz.underlying137 hi hz0 hz1 hz2 rfl (by omega) _ _ _ rfl (World.ownsRow.alloc HROW1.out _) ⟨_,0,none⟩ 1 1 [.string (bs W)] rfl rfl ?c1 ?c2 (by omega) ?c3 ?c4 ?c5 _ rfl ?_)
     case c1=>exact World.news_of_block (heap_alloc_new _ (.cells #[.string (bs W)] 140))
     case c2=>intro u hu; simp at hu; rcases hu with rfl; rfl
     case c3=>unfold maxLen; omega
     case c4=>omega
     case c5=>simp; omega
     intro g1 cap1 wn1 hown hgrow hat hlt3
     have hst1:=LS.push (E:=eTok) (x:=W) HB1.out HROW1.out hown hgrow
     clear hown hgrow hat hlt3
     go_wp2_with fail
     go_roundw
     case rel=>exact ⟨l.length+1,T ++ [W],[],by omega,by go_num,rfl,hst1,hidP fun h=>absurd h (by omega),hidP fun _=>by rw [<- HE.out,HF.out],hidP (by have:=HK.out; simp at this ⊢; omega)⟩
     case measure=>first | (simp [intOf]; done) | (simp [intOf]; omega)
   ·have hz2:k=l.length+1:=by omega
    have HE:Hid (T=tokL [] l):=hidP (HZ.out hz2)
    subst hz2
    go_wp2_with fail
    go_ret
    refine ⟨_,rfl,?_⟩
    rw [<- HE.out]
    exact hst
end Go.Proofs.YtnmhkgmmpkjjeacGreat
