import Derived.WalkKit
import Derived.ProofKit
import Derived.Deep.RegionHeld3
import Derived.Below
import Derived.Test.YtnmhkgmmpkjjeaaGreatRows
import Derived.OpenShut
import Derived.Deep.OwnRows
import Derived.Deep.QuietTactic
import Derived.BigQuiet
import Derived.Deep.AppendLies
import Derived.Deep.DrawnRows
import Derived.Deep.DeepCutAuto
namespace Go.Proofs.YtnmhkgmmpkjjeaaGreat
open Go.ChangeShapes Go.WideShapes Go.ChangeAt Go.RowKit
abbrev cl (w:World) (b o:Nat):Option Value:=w.cell? ⟨b,o,none⟩
abbrev fz (w:World) (b o:Nat):Bool:=w.frozen? ⟨b,o,none⟩
abbrev Bl (w w':World):Prop:=Below w.heap.size w w'
abbrev F4 (w:World) (b:Nat):Prop:=w.frozen? ⟨b,0,none⟩=false/\w.frozen? ⟨b,1,none⟩=false/\w.frozen? ⟨b,2,none⟩=false/\w.frozen? ⟨b,3,none⟩=false
theorem br {n:Nat} {w:World}:Below n w w:=Below.refl n w
theorem bal {w:World} {o:Obj}:Below w.heap.size w (w.alloc o):=(Below.refl _ _).alloc (Nat.le_refl _) o
theorem cob {w w':World} {a:Addr} (h:w'.heap[a.block]?=w.heap[a.block]?):w'.cell? a=w.cell? a:=World.cell?_of_block h
theorem fob {w w':World} {a:Addr} (h:w'.heap[a.block]?=w.heap[a.block]?):w'.frozen? a=w.frozen? a:=World.frozen?_of_block h
section
variable {P:Program} {ops:Array Oper} {Q:Exit->Act->World->Prop} {md:Region.Mode} {S:World->Prop}
theorem tk (i:Nat) {oi:Oper} {v:Value} {fuel:Nat} {listed:Array Bool} {a a':Act} {w:World} (h:wpAnyH P md ops Q S fuel (listed.setIfInBounds i true) a' w)
  (hi:ops[i]?=some oi:=by rfl) (hs:Region.noSelect ops=true:=by kernel_rfl) (hf:Region.free md ops listed i=true:=by kernel_rfl) (hr:(Region.ready md ops listed).contains i=true:=by kernel_rfl)
  (hQ:∀ c a w,Q (.panic c) (a.put oi.dst v) w->Q (.panic c) a w:=by exact fun _ _ _ h=>h) (hw:Region.wanted oi (yielded ops a.tmps)=true:=by rfl)
  (hy:∀ w,S w->(execOp a.eval oi).run P w=.ok (.value v) w:=by (intro w hSw; (try dsimp only at hSw); go_simp; try with_reducible rfl)) (hS:S w:=by assumption)
  (ha:a.put oi.dst v=a':=by (simp only [Act.put,List.setIfInBounds_toArray,List.set_cons_zero,List.set_cons_succ,List.getElem_toArray,List.getElem_cons_zero,List.getElem_cons_succ]; rfl)):wpAnyH P md ops Q S (fuel+1) listed a w :=
 wpAnyH_take hi hs hf hr hQ (Or.inl ⟨hw,hy⟩) hS (by rw [ha]; exact h)
theorem sk (i:Nat) {oi:Oper} {fuel:Nat} {listed:Array Bool} {a a':Act} {w:World} (h:wpAnyH P md ops Q S fuel (listed.setIfInBounds i true) a' w)
  (hi:ops[i]?=some oi:=by rfl) (hs:Region.noSelect ops=true:=by kernel_rfl) (hf:Region.free md ops listed i=true:=by kernel_rfl) (hr:(Region.ready md ops listed).contains i=true:=by kernel_rfl)
  (hQ:∀ c a w,Q (.panic c) (a.put oi.dst undef) w->Q (.panic c) a w:=by exact fun _ _ _ h=>h) (hw:Region.wanted oi (yielded ops a.tmps)=false:=by rfl) (hS:S w:=by assumption)
  (ha:a.put oi.dst undef=a':=by (simp only [Act.put,List.setIfInBounds_toArray,List.set_cons_zero,List.set_cons_succ,List.getElem_toArray,List.getElem_cons_zero,List.getElem_cons_succ]; rfl)):wpAnyH P md ops Q S (fuel+1) listed a w :=
 wpAnyH_take hi hs hf hr hQ (Or.inr ⟨hw,rfl⟩) hS (by rw [ha]; exact h)
end
end Go.Proofs.YtnmhkgmmpkjjeaaGreat
namespace Go.Proofs.YtnmhkgmmpkjjeaaGreat
open Go.ChangeShapes Go.WideShapes Go.ChangeAt Go.RowKit
set_option linter.unusedVariables false
structure Elt (α:Type) where
 T:TypeId
 sz:Nat
 enc:α->List Value
 dflt:α
 pos:0 < sz
 len:∀ a,(enc a).length=sz
section
variable {α:Type} (E:Elt α)
def ecells (xs:List α):List Value:=xs.flatMap E.enc
def eAt (xs:List α) (i:Nat):α:=xs.getD i E.dflt
theorem ecells_length (xs:List α):(ecells E xs).length=xs.length * E.sz:=by
 induction xs with
 | nil=>simp [ecells]
 | cons p r ih =>
  have e:ecells E (p :: r)=E.enc p ++ ecells E r:=rfl
  rw [e,List.length_append,ih,E.len,List.length_cons,Nat.add_mul]; omega
theorem ecells_append (a b:List α):ecells E (a ++ b)=ecells E a ++ ecells E b:=by simp [ecells]
theorem ecells_at (xs:List α):∀ i,i < xs.length->∀ j,j < E.sz->(ecells E xs)[i * E.sz+j]?=(E.enc (eAt E xs i))[j]?:=by
 induction xs with
 | nil=>intro i hi; simp at hi
 | cons p r ih =>
  intro i hi j hj
  have e:ecells E (p :: r)=E.enc p ++ ecells E r:=rfl
  rw [e]
  cases i with
  | zero =>
   rw [Nat.zero_mul,Nat.zero_add,List.getElem?_append_left (by rw [E.len]; exact hj)]
   rfl
  | succ i =>
   rw [List.getElem?_append_right (by rw [E.len,Nat.add_mul]; omega),E.len,show (i+1) * E.sz+j - E.sz=i * E.sz+j by rw [Nat.add_mul]; omega]
   exact ih i (by simpa using hi) j hj
theorem cell_lt {n sz i j:Nat} (hi:i < n) (hj:j < sz):i * sz+j < n * sz:=by
 have h:(i+1) * sz<=n * sz:=Nat.mul_le_mul_right sz hi
 rw [Nat.add_mul] at h
 omega
def ERow (w:World) (base:Nat) (v:Value) (xs:List α):Prop:=w.ownsRow base E.T E.sz v xs.length (ecells E xs)
def EHas (w:World) (v:Value) (n:Nat) (c:Nat->Nat->Value):Prop :=
 ∃ a cap,v=.slice a n cap/\(0 < n->∃ g N f,a=some ⟨g,0,none⟩/\w.rowIs g E.T N f/\n * E.sz<=N/\∀ i,i < n->∀ j,j < E.sz->f (i * E.sz+j)=c i j)
def eCell (xs:List α) (i j:Nat):Value:=((E.enc (eAt E xs i))[j]?).getD (.bool false)
variable {E}
theorem ERow.form {w:World} {base:Nat} {v:Value} {xs:List α} (h:ERow E w base v xs):∃ a cap,v=.slice a xs.length cap/\(0 < xs.length->∃ g N f,a=some ⟨g,0,none⟩/\base<=g/\w.rowIs g E.T N f/\xs.length * E.sz<=N/\∀ i,i < xs.length->∀ j,j < E.sz->f (i * E.sz+j)=eCell E xs i j):=by
 rcases h.2 with ⟨rfl,h0⟩ | ⟨g,cap,cur,rfl,hb,hg,hn,hm,hs,ht⟩
 ·rw [h0]; exact ⟨none,0,rfl,fun h=>absurd h (by omega)⟩
 ·refine ⟨_,cap,rfl,fun _=>⟨g,cur.size,fun i=>cur.getD i (.bool false),rfl,hb,⟨cur,hg,rfl,fun i hi=>by simp [hi]⟩,by rw [hs]; exact Nat.mul_le_mul_right _ hn,fun i hi j hj=>?_⟩⟩
  have hu:=ecells_at E xs i hi j hj
  rw [<- ht,List.getElem?_take,if_pos (cell_lt hi hj)] at hu
  simp only [Array.getElem?_toList] at hu
  simp [Array.getD_eq_getD_getElem?,hu,eCell]
theorem ERow.of_row {w:World} {base g n cap N:Nat} {f:Nat->Value} {xs:List α} (hx:xs.length=n) (hb:base<=g) (hr:w.rowIs g E.T N f) (hN:N=cap * E.sz) (hc:n<=cap) (hm:cap<=maxLen) (hf:∀ i,i < n->∀ j,j < E.sz->f (i * E.sz+j)=eCell E xs i j) :
  ERow E w base (.slice (some ⟨g,0,none⟩) n cap) xs:=by
 obtain ⟨cur,hg,hs,hc2⟩:=hr
 subst hx
 refine ⟨ecells_length E xs,.inr ⟨g,cap,cur,rfl,hb,hg,hc,hm,by rw [hs,hN],?_⟩⟩
 apply List.ext_getElem?
 intro q
 by_cases hq:q < xs.length * E.sz
 ·have hpos:=E.pos
  have hqi:q / E.sz < xs.length:=(Nat.div_lt_iff_lt_mul hpos).2 hq
  have hqj:q % E.sz < E.sz:=Nat.mod_lt _ hpos
  have e:q=q / E.sz * E.sz+q % E.sz:=by rw [Nat.mul_comm]; exact (Nat.div_add_mod q E.sz).symm
  have hlt:q < N:=by rw [hN]; exact Nat.lt_of_lt_of_le hq (Nat.mul_le_mul_right _ hc)
  have h1:=hc2 q hlt
  have h2:=ecells_at E xs _ hqi _ hqj
  have h3:=hf _ hqi _ hqj
  rw [<- e] at h2 h3
  rw [List.getElem?_take,if_pos hq,Array.getElem?_toList,h1,h2,h3]
  unfold eCell
  rw [List.getElem?_eq_getElem (by rw [E.len]; exact hqj)]
  rfl
 ·rw [List.getElem?_eq_none (by rw [List.length_take]; omega),List.getElem?_eq_none (by rw [ecells_length]; omega)]
theorem ERow.below {w w':World} {base:Nat} {v:Value} {xs:List α} (h:ERow E w base v xs) (hb:Below w.heap.size w w'):ERow E w' base v xs :=
 World.ownsRow.kept (row:=none) h ⟨hb.os,hb.tape,hb.output,hb.size,fun k hk _=>hb.block k hk⟩ (by cases hv:v.ownBlock <;> simp)
theorem ERow.kept {w w':World} {base:Nat} {v:Value} {xs:List α} {row:Option Nat} (h:ERow E w base v xs) (hg:w.grownBy w' row) (hne:∀ k,v.ownBlock=some k->some k ≠ row):ERow E w' base v xs :=
 World.ownsRow.kept h hg (by
  cases hv:v.ownBlock with
  | none=>exact .inl rfl
  | some k=>exact .inr (hne k hv))
theorem ERow.rebase {w:World} {base base':Nat} {v:Value} {xs:List α} (h:ERow E w base v xs) (hb:base'<=base):ERow E w base' v xs:=by
 refine ⟨h.1,?_⟩
 rcases h.2 with hh | ⟨g,cap,cur,e,hg,r⟩
 ·exact .inl hh
 ·exact .inr ⟨g,cap,cur,e,Nat.le_trans hb hg,r⟩
theorem ERow.own {w:World} {base:Nat} {v:Value} {xs:List α} (h:ERow E w base v xs):∀ k,v.ownBlock=some k->base<=k/\k < w.heap.size:=World.ownsRow.lt h
variable (E)
def ESrc (w:World) (v:Value) (xs:List α):Prop :=
 ∃ (a:Option Addr) (cap:Nat),v=.slice a xs.length cap/\(0 < xs.length->∃ b o,a=some ⟨b,o,none⟩/\b < w.heap.size/\∀ i,i < xs.length->∀ j,j < E.sz->w.cell? ⟨b,o+i * E.sz+j,none⟩=some (eCell E xs i j))
variable {E}
end
theorem eGrown_set {w wr:World} {g:Nat} (h:w.grownBy wr (some g)) (i:Nat) (v:Value):w.grownBy (wr.setCell ⟨g,i,none⟩ v) (some g) :=
 ⟨h.os,h.tape,h.output,by simpa using h.size,fun j hj hne=>(Below.heap_setCell _ _ _ _ (by intro e; exact hne (by rw [e]))).trans (h.block j hj hne)⟩
theorem take_snocE {α:Type} (E:Elt α) (xs:List α) (t:Nat) (h:t < xs.length):xs.take (t+1)=xs.take t ++ [eAt E xs t]:=by
 rw [List.take_succ_eq_append_getElem h]; simp [eAt,h]
theorem ERow.empty {α:Type} (E:Elt α) (w:World) (B:Nat) (hb:B<=w.heap.size):ERow E (w.alloc (.cells #[] E.T)) B (.slice (some ⟨w.heap.size,0,none⟩) 0 0) [] :=
 ⟨by simp [ecells],.inr ⟨w.heap.size,0,#[],rfl,hb,heap_alloc_new w _,Nat.le_refl _,by unfold maxLen; omega,by simp,by simp [ecells]⟩⟩
end Go.Proofs.YtnmhkgmmpkjjeaaGreat
namespace Go.Proofs.YtnmhkgmmpkjjeaaGreat
open Go.ChangeShapes Go.WideShapes Go.ChangeAt Go.RowKit
def Fs (tm:Array Value):List (Nat × Value)->Prop
 | []=>True
 | q :: l=>(∀ h:q.1 < tm.size,tm[q.1]'h=q.2)/\Fs tm l
theorem calls_o {P:Program} {f:FuncId} {fn:Func} {c:Code} {args:Array Value} {w:World} {R:Ending->World->Prop} (n:Nat) (hf:P.funcs[f]?=some fn) (hb:fn.body=some c) (hn:fn.ntmps=n) (ha:args.size<=n)
  (h:∀ tm:Array Value,tm.size=n->(∀ i (hi:i < args.size) (h:i < tm.size),tm[i]'h=args[i]'hi)->c.wp P (bodyPost P fn R) ⟨tm,[]⟩ w):Calls P f args w R:=by
 refine calls_of_wp hf hb (h _ ?_ ?_)
 ·simp; omega
 ·intro i hi h
  exact Array.getElem_append_left hi
theorem wp_mid {P:Program} {s:Code} {K:Act->World->Prop} {Q':Exit->Act->World->Prop} {a:Act} {w:World} (n:Nat) (l:List (Nat × Value)) (R:World->Prop)
  (first:∀ (J K':Act->World->Prop),(∀ tm w',tm.size=n->Fs tm l->R w'->J ⟨tm,[]⟩ w')->(∀ a' w',Met J a' w'->K' a' w')->s.wp P (Exit.then K' Q') a w)
  (rest:∀ tm w',tm.size=n->Fs tm l->R w'->K ⟨tm,[]⟩ w'):s.wp P (Exit.then K Q') a w:=by
 refine wp_cut (fun a' w'=>a'.defers=[]/\a'.tmps.size=n/\Fs a'.tmps l/\R w') ?_ ?_
 ·rintro ⟨tm,ds⟩ w' ⟨rfl,hz,hr,h2⟩
  exact rest tm w' hz hr h2
 ·intro J K' hJ hK
  exact first J K' (fun tm w' hz hr h2=>hJ _ _ ⟨rfl,hz,hr,h2⟩) hK
theorem wp_narrow {P:Program} {s:Code} {Q:Exit->Act->World->Prop} {tm:Array Value} {w:World} (n:Nat) (l:List (Nat × Value)) (hz:tm.size=n) (hl:Fs tm l)
  (h:∀ tm':Array Value,tm'.size=n->Fs tm' l->s.wp P Q ⟨tm',[]⟩ w):s.wp P Q ⟨tm,[]⟩ w:=h tm hz hl
theorem least_of {p:Nat->Prop} (h:∃ n,p n):∃ n,p n/\∀ m,p m->n<=m:=by
 obtain ⟨n,hn⟩:=h
 induction n using Nat.strongRecOn with
 | _ n ih =>
  by_cases hc:∃ m,m < n/\p m
  ·obtain ⟨m,hm,hp⟩:=hc
   exact ih m hm hp
  ·exact ⟨n,hn,fun m hm=>by
    rcases Nat.lt_or_ge m n with h | h
    ·exact absurd ⟨m,h,hm⟩ hc
    ·exact h⟩
theorem wp_loop_o {P:Program} {c:Code} {Q:Exit->Act->World->Prop} {tm:Array Value} {w:World} (n:Nat) (I:Nat->Array Value->World->Prop) (k:Nat) (hz:tm.size=n) (h0:I k tm w)
  (round:∀ k tm w (J K:Act->World->Prop),tm.size=n->I k tm w->(∀ k' tm' w',tm'.size=n->I k' tm' w'->k' < k->J ⟨tm',[]⟩ w')->(∀ a' w',Met J a' w'->K a' w')->c.wp P (Exit.then K Q) ⟨tm,[]⟩ w):(Code.loop c).wp P Q ⟨tm,[]⟩ w:=by
 classical
 refine wp_loop (fun a w=>a.defers=[]/\a.tmps.size=n/\∃ k,I k a.tmps w) (fun a w=>if h:∃ k,I k a.tmps w then (least_of h).choose else 0) ⟨rfl,hz,k,h0⟩ ?_
 rintro ⟨tm,ds⟩ w ⟨hd,hz,hk⟩
 obtain rfl:ds=[]:=hd
 rw [dif_pos hk]
 refine round (least_of hk).choose tm w _ _ hz (least_of hk).choose_spec.1 ?_ (fun a' w' h=>h)
 intro k' tm' w' hz' hi' hlt
 have he:∃ k,I k tm' w':=⟨k',hi'⟩
 refine ⟨⟨rfl,hz',he⟩,?_⟩
 rw [dif_pos he]
 exact Nat.lt_of_le_of_lt ((least_of he).choose_spec.2 k' hi') hlt
end Go.Proofs.YtnmhkgmmpkjjeaaGreat
namespace Go.Proofs.YtnmhkgmmpkjjeaaGreat
open Go.ChangeShapes Go.WideShapes Go.ChangeAt Go.RowKit
set_option linter.unusedVariables false
attribute [local go_sem ↓] Go.wp_at_zero Go.wp_at_succ
structure SpanE where
 page:Int
 count:Int
 out:Int
 perm:Int
 huge:Bool
def eSpan:Elt SpanE:=⟨103,5,fun x=>[.int .i64 x.page,.int .i64 x.count,.int .i64 x.out,.int .i64 x.perm,.bool x.huge],⟨0,0,0,0,false⟩,by omega,fun _=>rfl⟩
theorem infoSpan:(Tryz.prog.info? 103).map (fun i=>(i.zero,i.size,i.bytes))=some (some (.agg #[.int .i64 0,.int .i64 0,.int .i64 0,.int .i64 0,.bool false]),5,40):=by kernel_rfl
def wfS (x:SpanE):Prop:=-9223372036854775808<=x.page/\x.page<=9223372036854775807/\-9223372036854775808<=x.count/\x.count<=9223372036854775807/\-9223372036854775808<=x.out/\x.out<=9223372036854775807/\-9223372036854775808<=x.perm/\x.perm<=9223372036854775807
def spanOk (x:SpanE):Bool:=decide (1<=x.count/\0<=x.page/\x.page+x.count<=4096/\0<=x.out/\x.out+x.count<=65536/\1<=x.perm/\x.perm<=7)
theorem spanOk_iff {x:SpanE}:spanOk x=true ↔ (1<=x.count/\0<=x.page/\x.page+x.count<=4096/\0<=x.out/\x.out+x.count<=65536/\1<=x.perm/\x.perm<=7):=by simp [spanOk]
def joinsB (a b:SpanE):Bool:=decide (b.page=a.page+a.count/\b.out=a.out+a.count/\b.perm=a.perm/\b.huge=a.huge)
def pairOk (a b:SpanE):Bool:=decide (a.page+a.count<=b.page) && !joinsB a b
def VS (xs:List SpanE):Prop:=(∀ i,i < xs.length->spanOk (eAt eSpan xs i)=true)/\∀ i,i+1 < xs.length->pairOk (eAt eSpan xs i) (eAt eSpan xs (i+1))=true
def vsB (xs:List SpanE):Bool:=(List.range xs.length).all (fun i=>spanOk (eAt eSpan xs i)) && (List.range (xs.length - 1)).all (fun i=>pairOk (eAt eSpan xs i) (eAt eSpan xs (i+1)))
theorem vsB_iff {xs:List SpanE}:vsB xs=true ↔ VS xs:=by
 unfold vsB VS
 rw [Bool.and_eq_true,List.all_eq_true,List.all_eq_true]
 exact ⟨fun h=>⟨fun i hi=>h.1 i (List.mem_range.2 hi),fun i hi=>h.2 i (List.mem_range.2 (by omega))⟩,fun h=>⟨fun i hi=>h.1 i (List.mem_range.1 hi),fun i hi=>h.2 i (by have:=List.mem_range.1 hi; omega)⟩⟩
theorem vsB_true {xs:List SpanE} (h:VS xs):vsB xs=true:=vsB_iff.2 h
theorem vsB_false {xs:List SpanE} (h:¬ VS xs):vsB xs=false:=by
 cases hb:vsB xs
 ·rfl
 ·exact absurd (vsB_iff.1 hb) h
theorem VS.of_true {xs:List SpanE} (h:vsB xs=true):VS xs:=vsB_iff.1 h
end Go.Proofs.YtnmhkgmmpkjjeaaGreat
namespace Go.Proofs.YtnmhkgmmpkjjeaaGreat
open Go.ChangeShapes Go.WideShapes Go.ChangeAt Go.RowKit
set_option linter.unusedVariables false
theorem spCells {w:World} {b cap:Nat} {a:Option Addr} {xs:List SpanE} (h:ERow eSpan w b (.slice a xs.length cap) xs) :
  ∃ g,(0 < xs.length->a=some ⟨g,0,none⟩/\g < w.heap.size)/\∀ k P C O R G,k < xs.length->eAt eSpan xs k=⟨P,C,O,R,G⟩->∀ wX,Below w.heap.size w wX->wX.cell? ⟨g,k * 5,none⟩=some (.int .i64 P)/\wX.cell? ⟨g,k * 5+1,none⟩=some (.int .i64 C)/\wX.cell? ⟨g,k * 5+2,none⟩=some (.int .i64 O)/\wX.cell? ⟨g,k * 5+3,none⟩=some (.int .i64 R)/\wX.cell? ⟨g,k * 5+4,none⟩=some (.bool G):=by
 obtain ⟨a',c',e,hf⟩:=h.form
 simp only [Value.slice.injEq] at e
 obtain ⟨rfl,_,_⟩:=e
 by_cases h0:0 < xs.length
 ·obtain ⟨g,N,f,rfl,_,hr,hN,hc⟩:=hf h0
  have hN':xs.length * 5<=N:=hN
  refine ⟨g,fun _=>⟨rfl,hr.lt⟩,fun k P C O R G hk he wX hX=>?_⟩
  have hr1:wX.rowIs g 103 N f:=hr.of_block (hX.block g hr.lt)
  have c:∀ j,j < 5->wX.cell? ⟨g,k * 5+j,none⟩=some (eCell eSpan xs k j):=fun j hj=>by
   rw [hr1.cell (by omega)]
   exact congrArg some (hc k hk j hj)
  have e0:∀ j,eCell eSpan xs k j=((eSpan.enc ⟨P,C,O,R,G⟩)[j]?).getD (.bool false):=fun j=>by unfold eCell; rw [he]
  exact ⟨(c 0 (by omega)).trans (by rw [e0]; rfl),(c 1 (by omega)).trans (by rw [e0]; rfl),(c 2 (by omega)).trans (by rw [e0]; rfl),(c 3 (by omega)).trans (by rw [e0]; rfl),(c 4 (by omega)).trans (by rw [e0]; rfl)⟩
 ·exact ⟨0,fun h=>absurd h h0,fun k P C O R G hk=>absurd hk (by omega)⟩
def eInt:Elt Int:=⟨3,1,fun x=>[.int .i64 x],0,by omega,fun _=>rfl⟩
theorem infoInt:(Tryz.prog.info? 3).map (fun i=>(i.zero,i.size,i.bytes))=some (some (.int .i64 0),1,8):=by kernel_rfl
theorem eInt_cells {w:World} {b g c:Nat} {xs:List Int} (h:ERow eInt w b (.slice (some ⟨g,0,none⟩) xs.length c) xs) (i:Nat) (hi:i < xs.length):g < w.heap.size/\w.cell? ⟨g,i,none⟩=some (.int .i64 (eAt eInt xs i)):=by
 obtain ⟨a,c',e,h1⟩:=h.form
 obtain ⟨g',N,f,e2,_,hr,hN,hf⟩:=h1 (by omega)
 have hN':xs.length * 1<=N:=hN
 simp only [Value.slice.injEq] at e
 obtain ⟨e,_,_⟩:=e
 rw [e2] at e
 simp only [Option.some.injEq,Addr.mk.injEq,and_true] at e
 subst e
 have h5:=hf i hi 0 (by decide)
 have e5:i * eInt.sz+0=i:=by show i * 1+0=i; omega
 rw [e5] at h5
 exact ⟨hr.lt,by rw [hr.cell (i:=i) (by omega)]; exact congrArg some h5⟩
end Go.Proofs.YtnmhkgmmpkjjeaaGreat
namespace Go.Proofs.YtnmhkgmmpkjjeaaGreat
structure Ht where
 k:Int
 o:Int
 p:Int
 s:Int
def zHt:Ht:=⟨0,0,0,0⟩
def inS (e:SpanE) (page:Int):Bool:=decide (e.page<=page/\page < e.page+e.count)
def bigB (e:SpanE) (page:Int):Bool:=e.huge && decide (e.page<=page - page % 16/\page - page % 16+16<=e.page+e.count/\(e.out+(page - page % 16) - e.page) % 16=0)
def hitS (e:SpanE) (page:Int):Ht:=⟨1,e.out+page - e.page,e.perm,if bigB e page then 16 else 1⟩
def atL (xs:List SpanE) (page:Int):Ht:=match xs.find? (fun e=>inS e page) with
 | some e=>hitS e page
 | none=>zHt
theorem find_hit (page:Int):∀ (xs:List SpanE) (k:Nat),k < xs.length->(∀ j,j < k->inS (eAt eSpan xs j) page=false)->inS (eAt eSpan xs k) page=true->xs.find? (fun e=>inS e page)=some (eAt eSpan xs k)
 | [],k,hk,_,_=>absurd hk (by simp)
 | x :: r,0,_,_,h=>by
  have h':inS x page=true:=h
  rw [List.find?_cons_of_pos (by exact h')]
  rfl
 | x :: r,k+1,hk,hn,h=>by
  have h0:inS x page=false:=hn 0 (by omega)
  rw [List.find?_cons_of_neg (by rw [h0]; decide)]
  exact find_hit page r k (by simpa using hk) (fun j hj=>hn (j+1) (by omega)) h
theorem at_hit (page:Int) (xs:List SpanE) (k:Nat) (hk:k < xs.length) (hn:∀ j,j < k->inS (eAt eSpan xs j) page=false) (h:inS (eAt eSpan xs k) page=true):atL xs page=hitS (eAt eSpan xs k) page:=by
 unfold atL
 rw [find_hit page xs k hk hn h]
theorem at_none (page:Int) (xs:List SpanE) (hn:∀ j,j < xs.length->inS (eAt eSpan xs j) page=false):atL xs page=zHt:=by
 have:xs.find? (fun e=>inS e page)=none:=by
  rw [List.find?_eq_none]
  intro e he
  obtain ⟨i,hi,rfl⟩:=List.getElem_of_mem he
  have:=hn i hi
  unfold eAt at this
  rw [List.getD_eq_getElem?_getD,List.getElem?_eq_getElem hi] at this
  have h2:inS xs[i] page=false:=this
  rw [h2]; decide
 unfold atL
 rw [this]
theorem VS.order {xs:List SpanE} (h:VS xs) (i:Nat):∀ d,i+d+1 < xs.length->(eAt eSpan xs i).page+(eAt eSpan xs i).count<=(eAt eSpan xs (i+d+1)).page
 | 0,hd=>by
  have:=h.2 i hd
  unfold pairOk at this
  simp only [Bool.and_eq_true,decide_eq_true_eq] at this
  exact this.1
 | d+1,hd=>by
  have h1:=VS.order h i d (by omega)
  have h2:=h.2 (i+d+1) hd
  unfold pairOk at h2
  simp only [Bool.and_eq_true,decide_eq_true_eq] at h2
  have h3:=spanOk_iff.1 (h.1 (i+d+1) (by omega))
  have h4:=h2.1
  have e:i+(d+1)+1=i+d+1+1:=by omega
  rw [e]
  omega
theorem VS.lt {xs:List SpanE} (h:VS xs) (i j:Nat) (hij:i < j) (hj:j < xs.length):(eAt eSpan xs i).page+(eAt eSpan xs i).count<=(eAt eSpan xs j).page:=by
 have:=h.order i (j - i - 1) (by omega)
 rwa [show i+(j - i - 1)+1=j by omega] at this
def endAft (xs:List SpanE) (page:Int) (i:Nat):Bool:=decide (page < (eAt eSpan xs i).page+(eAt eSpan xs i).count)
theorem endAft_mono {xs:List SpanE} (h:VS xs) (page:Int) (a b:Nat) (hab:a<=b) (hb:b < xs.length) (ha:endAft xs page a=true):endAft xs page b=true:=by
 by_cases e:a=b
 ·rw [<- e]; exact ha
 ·have h1:=h.lt a b (by omega) hb
  have h2:=spanOk_iff.1 (h.1 b hb)
  unfold endAft at ha ⊢
  simp only [decide_eq_true_eq] at ha ⊢
  omega
theorem at_search_none {xs:List SpanE} (h:VS xs) (page:Int) (r:Nat) (h1:∀ t,t < r->endAft xs page t=false) (h2:r=xs.length\/(r < xs.length/\endAft xs page r=true/\page < (eAt eSpan xs r).page)):atL xs page=zHt:=by
 refine at_none page xs (fun j hj=>?_)
 unfold inS
 rw [decide_eq_false_iff_not]
 by_cases hjr:j < r
 ·have:=h1 j hjr
  unfold endAft at this
  simp only [decide_eq_false_iff_not] at this
  omega
 ·rcases h2 with e | ⟨hr,he,hp⟩
  ·omega
  ·by_cases e:j=r
   ·rw [e]; omega
   ·have h3:=h.lt r j (by omega) hj
    have h4:=spanOk_iff.1 (h.1 r hr)
    omega
theorem at_search_hit {xs:List SpanE} (page:Int) (r:Nat) (hr:r < xs.length) (h1:∀ t,t < r->endAft xs page t=false) (he:endAft xs page r=true) (hp:(eAt eSpan xs r).page<=page):atL xs page=hitS (eAt eSpan xs r) page:=by
 refine at_hit page xs r hr (fun j hj=>?_) ?_
 ·have:=h1 j hj
  unfold endAft at this
  simp only [decide_eq_false_iff_not] at this
  unfold inS
  rw [decide_eq_false_iff_not]
  omega
 ·unfold endAft at he
  unfold inS
  simp only [decide_eq_true_eq] at he ⊢
  exact ⟨hp,he⟩
def atA (xs:List SpanE) (page:Int):Ht:=if vsB xs=true/\0<=page/\page < 4096 then atL xs page else zHt
end Go.Proofs.YtnmhkgmmpkjjeaaGreat
namespace Go.Proofs.YtnmhkgmmpkjjeaaGreat
open Go.ChangeShapes Go.WideShapes Go.ChangeAt Go.RowKit
set_option linter.unusedVariables false
attribute [local go_sem ↓] Go.wp_at_zero Go.wp_at_succ
theorem l4SpanOk_any (p c o r:Int) (g:Bool) (w:World) (hw:wfS ⟨p,c,o,r,g⟩) :
  Calls Tryz.prog 117 #[.agg #[.int .i64 p,.int .i64 c,.int .i64 o,.int .i64 r,.bool g]] w fun e w'=>e=.returned (.bool (spanOk ⟨p,c,o,r,g⟩))/\Below w.heap.size w w':=by
 obtain ⟨hp1,hp2,hc1,hc2,ho1,ho2,hr1,hr2⟩:=hw
 dsimp only at hp1 hp2 hc1 hc2 ho1 ho2 hr1 hr2
 by_cases h0:c < 1
 ·have d0:decide (c < 1)=true:=by simpa using h0
  have hr:spanOk ⟨p,c,o,r,g⟩=false:=decide_eq_false (by dsimp only; omega)
  rw [hr]
  clear hr
  go_enter Tryz.func117,Tryz.ntmps117
  go_wp2_with fail
  go_ret
  exact ⟨rfl,(Below.refl _ _).alloc (Nat.le_refl _) _⟩
 ·have d0:decide (c < 1)=false:=by simpa using h0
  by_cases h1:4096 < c
  ·have d1:decide (4096 < c)=true:=by simpa using h1
   have hr:spanOk ⟨p,c,o,r,g⟩=false:=decide_eq_false (by dsimp only; omega)
   rw [hr]
   clear hr
   go_enter Tryz.func117,Tryz.ntmps117
   go_wp2_with fail
   go_ret
   exact ⟨rfl,(Below.refl _ _).alloc (Nat.le_refl _) _⟩
  ·have d1:decide (4096 < c)=false:=by simpa using h1
   by_cases h2:r < 1
   ·have d2:decide (r < 1)=true:=by simpa using h2
    have hr:spanOk ⟨p,c,o,r,g⟩=false:=decide_eq_false (by dsimp only; omega)
    rw [hr]
    clear hr
    go_enter Tryz.func117,Tryz.ntmps117
    go_wp2_with fail
    go_ret
    exact ⟨rfl,(Below.refl _ _).alloc (Nat.le_refl _) _⟩
   ·have d2:decide (r < 1)=false:=by simpa using h2
    by_cases h3:7 < r
    ·have d3:decide (7 < r)=true:=by simpa using h3
     have hr:spanOk ⟨p,c,o,r,g⟩=false:=decide_eq_false (by dsimp only; omega)
     rw [hr]
     clear hr
     go_enter Tryz.func117,Tryz.ntmps117
     go_wp2_with fail
     go_ret
     exact ⟨rfl,(Below.refl _ _).alloc (Nat.le_refl _) _⟩
    ·have d3:decide (7 < r)=false:=by simpa using h3
     by_cases h4:p < 0
     ·have d4:decide (p < 0)=true:=by simpa using h4
      have hr:spanOk ⟨p,c,o,r,g⟩=false:=decide_eq_false (by dsimp only; omega)
      rw [hr]
      clear hr
      go_enter Tryz.func117,Tryz.ntmps117
      go_wp2_with fail
      go_ret
      exact ⟨rfl,(Below.refl _ _).alloc (Nat.le_refl _) _⟩
     ·have d4:decide (p < 0)=false:=by simpa using h4
      by_cases h5:4096<=p
      ·have d5:decide (4096<=p)=true:=by simpa using h5
       have hr:spanOk ⟨p,c,o,r,g⟩=false:=decide_eq_false (by dsimp only; omega)
       rw [hr]
       clear hr
       go_enter Tryz.func117,Tryz.ntmps117
       go_wp2_with fail
       go_ret
       exact ⟨rfl,(Below.refl _ _).alloc (Nat.le_refl _) _⟩
      ·have d5:decide (4096<=p)=false:=by simpa using h5
       by_cases h6:4096 < p+c
       ·have d6:decide (4096 < p+c)=true:=by simpa using h6
        have hr:spanOk ⟨p,c,o,r,g⟩=false:=decide_eq_false (by dsimp only; omega)
        rw [hr]
        clear hr
        go_enter Tryz.func117,Tryz.ntmps117
        go_wp2_with fail
        go_ret
        exact ⟨rfl,(Below.refl _ _).alloc (Nat.le_refl _) _⟩
       ·have d6:decide (4096 < p+c)=false:=by simpa using h6
        by_cases h7:0<=o
        ·have d7:decide (0<=o)=true:=by simpa using h7
         by_cases h8:o < 65536
         ·have d8:decide (o < 65536)=true:=by simpa using h8
          by_cases h9:o+c<=65536
          ·have d9:decide (o+c<=65536)=true:=by simpa using h9
           have hr:spanOk ⟨p,c,o,r,g⟩=true:=decide_eq_true (by dsimp only; omega)
           rw [hr]
           clear hr
           go_enter Tryz.func117,Tryz.ntmps117
           go_wp2_with fail
           go_ret
           exact ⟨rfl,(Below.refl _ _).alloc (Nat.le_refl _) _⟩
          ·have d9:decide (o+c<=65536)=false:=by simpa using h9
           have hr:spanOk ⟨p,c,o,r,g⟩=false:=decide_eq_false (by dsimp only; omega)
           rw [hr]
           clear hr
           go_enter Tryz.func117,Tryz.ntmps117
           go_wp2_with fail
           go_ret
           exact ⟨rfl,(Below.refl _ _).alloc (Nat.le_refl _) _⟩
         ·have d8:decide (o < 65536)=false:=by simpa using h8
          have hr:spanOk ⟨p,c,o,r,g⟩=false:=decide_eq_false (by dsimp only; omega)
          rw [hr]
          clear hr
          go_enter Tryz.func117,Tryz.ntmps117
          go_wp2_with fail
          go_ret
          exact ⟨rfl,(Below.refl _ _).alloc (Nat.le_refl _) _⟩
        ·have d7:decide (0<=o)=false:=by simpa using h7
         have hr:spanOk ⟨p,c,o,r,g⟩=false:=decide_eq_false (by dsimp only; omega)
         rw [hr]
         clear hr
         go_enter Tryz.func117,Tryz.ntmps117
         go_wp2_with fail
         go_ret
         exact ⟨rfl,(Below.refl _ _).alloc (Nat.le_refl _) _⟩
theorem validSpan_any (p c o r:Int) (g:Bool) (w:World) (hw:wfS ⟨p,c,o,r,g⟩) :
  Calls Tryz.prog 106 #[.agg #[.int .i64 p,.int .i64 c,.int .i64 o,.int .i64 r,.bool g]] w fun e w'=>e=.returned (.bool (spanOk ⟨p,c,o,r,g⟩))/\Below w.heap.size w w':=by
 obtain ⟨hp1,hp2,hc1,hc2,ho1,ho2,hr1,hr2⟩:=hw
 dsimp only at hp1 hp2 hc1 hc2 ho1 ho2 hr1 hr2
 by_cases h0:1<=c
 ·have d0:decide (1<=c)=true:=by simpa using h0
  by_cases h1:0<=p
  ·have d1:decide (0<=p)=true:=by simpa using h1
   by_cases h2:p<=4096 - c
   ·have d2:decide (p<=4096 - c)=true:=by simpa using h2
    by_cases h3:0<=o
    ·have d3:decide (0<=o)=true:=by simpa using h3
     by_cases h4:o<=65536 - c
     ·have d4:decide (o<=65536 - c)=true:=by simpa using h4
      by_cases h5:1<=r
      ·have d5:decide (1<=r)=true:=by simpa using h5
       by_cases h6:r<=7
       ·have d6:decide (r<=7)=true:=by simpa using h6
        have hr:spanOk ⟨p,c,o,r,g⟩=true:=decide_eq_true (by dsimp only; omega)
        rw [hr]
        clear hr
        go_enter Tryz.func106,Tryz.ntmps106
        go_wp2_with fail
        go_ret
        exact ⟨rfl,(Below.refl _ _).alloc (Nat.le_refl _) _⟩
       ·have d6:decide (r<=7)=false:=by simpa using h6
        have hr:spanOk ⟨p,c,o,r,g⟩=false:=decide_eq_false (by dsimp only; omega)
        rw [hr]
        clear hr
        go_enter Tryz.func106,Tryz.ntmps106
        go_wp2_with fail
        go_ret
        exact ⟨rfl,(Below.refl _ _).alloc (Nat.le_refl _) _⟩
      ·have d5:decide (1<=r)=false:=by simpa using h5
       have hr:spanOk ⟨p,c,o,r,g⟩=false:=decide_eq_false (by dsimp only; omega)
       rw [hr]
       clear hr
       go_enter Tryz.func106,Tryz.ntmps106
       go_wp2_with fail
       go_ret
       exact ⟨rfl,(Below.refl _ _).alloc (Nat.le_refl _) _⟩
     ·have d4:decide (o<=65536 - c)=false:=by simpa using h4
      have hr:spanOk ⟨p,c,o,r,g⟩=false:=decide_eq_false (by dsimp only; omega)
      rw [hr]
      clear hr
      go_enter Tryz.func106,Tryz.ntmps106
      go_wp2_with fail
      go_ret
      exact ⟨rfl,(Below.refl _ _).alloc (Nat.le_refl _) _⟩
    ·have d3:decide (0<=o)=false:=by simpa using h3
     have hr:spanOk ⟨p,c,o,r,g⟩=false:=decide_eq_false (by dsimp only; omega)
     rw [hr]
     clear hr
     go_enter Tryz.func106,Tryz.ntmps106
     go_wp2_with fail
     go_ret
     exact ⟨rfl,(Below.refl _ _).alloc (Nat.le_refl _) _⟩
   ·have d2:decide (p<=4096 - c)=false:=by simpa using h2
    have hr:spanOk ⟨p,c,o,r,g⟩=false:=decide_eq_false (by dsimp only; omega)
    rw [hr]
    clear hr
    go_enter Tryz.func106,Tryz.ntmps106
    go_wp2_with fail
    go_ret
    exact ⟨rfl,(Below.refl _ _).alloc (Nat.le_refl _) _⟩
  ·have d1:decide (0<=p)=false:=by simpa using h1
   have hr:spanOk ⟨p,c,o,r,g⟩=false:=decide_eq_false (by dsimp only; omega)
   rw [hr]
   clear hr
   go_enter Tryz.func106,Tryz.ntmps106
   go_wp2_with fail
   go_ret
   exact ⟨rfl,(Below.refl _ _).alloc (Nat.le_refl _) _⟩
 ·have d0:decide (1<=c)=false:=by simpa using h0
  have hr:spanOk ⟨p,c,o,r,g⟩=false:=decide_eq_false (by dsimp only; omega)
  rw [hr]
  clear hr
  go_enter Tryz.func106,Tryz.ntmps106
  go_wp2_with fail
  go_ret
  exact ⟨rfl,(Below.refl _ _).alloc (Nat.le_refl _) _⟩
end Go.Proofs.YtnmhkgmmpkjjeaaGreat
namespace Go.Proofs.YtnmhkgmmpkjjeaaGreat
open Go.ChangeShapes Go.WideShapes Go.ChangeAt Go.RowKit
set_option linter.unusedVariables false
structure OpE where
 kind:Int
 a:Int
 b:Int
 word:Int
def eOp:Elt OpE:=⟨77,4,fun x=>[.int .i64 x.kind,.int .i64 x.a,.int .i64 x.b,.int .u64 x.word],⟨0,0,0,0⟩,by omega,fun _=>rfl⟩
theorem infoOp:(Tryz.prog.info? 77).map (fun i=>(i.zero,i.size,i.bytes))=some (some (.agg #[.int .i64 0,.int .i64 0,.int .i64 0,.int .u64 0]),4,32):=by kernel_rfl
end Go.Proofs.YtnmhkgmmpkjjeaaGreat
namespace Go.Proofs.YtnmhkgmmpkjjeaaGreat
open Go.ChangeShapes Go.WideShapes Go.ChangeAt Go.RowKit
set_option linter.unusedVariables false
attribute [local go_sem ↓] Go.wp_at_zero Go.wp_at_succ
def markOp (s:Int) (i j:Nat):Value :=
 match j with
 | 0=>.int .i64 (s+i * 4)
 | 1=>.int .i64 (s+i * 4+1)
 | 2=>.int .i64 (s+i * 4+1+1)
 | 3=>.int .u64 (s+i * 4+1+1+1)
 | _=>.bool false
end Go.Proofs.YtnmhkgmmpkjjeaaGreat
