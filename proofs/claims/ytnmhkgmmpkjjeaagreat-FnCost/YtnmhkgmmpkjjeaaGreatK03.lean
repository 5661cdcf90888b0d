import Derived.Deep.OwnRows
import Derived.Deep.QuietTactic
import Derived.BigQuiet
import Derived.Deep.AppendLies
import Derived.Laws.Concat
import Derived.Laws.DeepStrings4
import Derived.Test.YtnmhkgmmpkjjeaaGreatK02
import Derived.Deep.DeepCutAuto
namespace Go.Proofs.YtnmhkgmmpkjjeaaGreat
open Go.ChangeShapes Go.WideShapes Go.ChangeAt Go.RowKit
set_option linter.unusedVariables false
theorem Fb:(Tryz.prog.info? 75).map (fun i=>(i.zero,i.size,i.bytes))=some (some (.int .u64 0),1,8):=by kernel_rfl
def CQ (w:World) (g:Nat) (zs:List Int):Prop:=w.rowIs g 75 zs.length (fun i=>.int .u64 (zs.getD i 0))
theorem CQ.cell {w:World} {g:Nat} {zs:List Int} (h:CQ w g zs) {i:Nat} (hi:i<zs.length):w.cell? ⟨g,i,none⟩=some (.int .u64 (zs.getD i 0)):=World.rowIs.cell h hi
theorem CQ.below {w w':World} {g B:Nat} {zs:List Int} (h:CQ w g zs) (hb:Below B w w') (hg:g<B):CQ w' g zs:=World.rowIs.of_block h (hb.block g hg)
theorem CQ.lt {w:World} {g:Nat} {zs:List Int} (h:CQ w g zs):g<w.heap.size:=World.rowIs.lt h
theorem DZ {B:Nat} {a w:World} (h:Below B a w) (n:Nat):Below B a (w.drewN n):=⟨h.os,h.tape,h.output,h.size,h.block⟩
abbrev cl (w:World) (b o:Nat):Option Value:=w.cell? ⟨b,o,none⟩
abbrev fz (w:World) (b o:Nat):Bool:=w.frozen? ⟨b,o,none⟩
abbrev F4 (w:World) (b:Nat):Prop:=w.frozen? ⟨b,0,none⟩=false/\w.frozen? ⟨b,1,none⟩=false/\w.frozen? ⟨b,2,none⟩=false/\w.frozen? ⟨b,3,none⟩=false
theorem br {n:Nat} {w:World}:Below n w w:=Below.refl n w
theorem Ax {w:World} {o:Obj}:Below w.heap.size w (w.alloc o):=(Below.refl _ _).alloc (Nat.le_refl _) o
theorem EY {w w':World} {a:Addr} (h:w'.heap[a.block]?=w.heap[a.block]?):w'.cell? a=w.cell? a:=World.cell?_of_block h
theorem Yo {w w':World} {a:Addr} (h:w'.heap[a.block]?=w.heap[a.block]?):w'.frozen? a=w.frozen? a:=World.frozen?_of_block h
section
variable {P:Program} {ops:Array Oper} {Q:Exit->Act->World->Prop} {md:Region.Mode} {S:World->Prop}
theorem tk (i:Nat) {oi:Oper} {v:Value} {fuel:Nat} {listed:Array Bool} {a a':Act} {w:World} (h:wpAnyH P md ops Q S fuel (listed.setIfInBounds i true) a' w) (hi:ops[i]?=some oi:=by rfl) (hs:Region.noSelect ops=true:=by kernel_rfl) (hf:Region.free md ops listed i=true:=by kernel_rfl) (hr:(Region.ready md ops listed).contains i=true:=by kernel_rfl) (hQ:∀c a w,Q (.panic c) (a.put oi.dst v) w->Q (.panic c) a w:=by exact fun _ _ _ h=>h) (hw:Region.wanted oi (yielded ops a.tmps)=true:=by rfl) (hy:∀w,S w->(execOp a.eval oi).run P w=.ok (.value v) w:=by (intro w hSw;(try dsimp only at hSw);go_simp;try with_reducible rfl)) (hS:S w:=by assumption) (ha:a.put oi.dst v=a':=by (simp only[Act.put,List.setIfInBounds_toArray,List.set_cons_zero,List.set_cons_succ,List.getElem_toArray,List.getElem_cons_zero,List.getElem_cons_succ];rfl)):wpAnyH P md ops Q S (fuel+1) listed a w :=
 wpAnyH_take hi hs hf hr hQ (Or.inl ⟨hw,hy⟩) hS (by rw[ha];exact h)
theorem sk (i:Nat) {oi:Oper} {fuel:Nat} {listed:Array Bool} {a a':Act} {w:World} (h:wpAnyH P md ops Q S fuel (listed.setIfInBounds i true) a' w) (hi:ops[i]?=some oi:=by rfl) (hs:Region.noSelect ops=true:=by kernel_rfl) (hf:Region.free md ops listed i=true:=by kernel_rfl) (hr:(Region.ready md ops listed).contains i=true:=by kernel_rfl) (hQ:∀c a w,Q (.panic c) (a.put oi.dst undef) w->Q (.panic c) a w:=by exact fun _ _ _ h=>h) (hw:Region.wanted oi (yielded ops a.tmps)=false:=by rfl) (hS:S w:=by assumption) (ha:a.put oi.dst undef=a':=by (simp only[Act.put,List.setIfInBounds_toArray,List.set_cons_zero,List.set_cons_succ,List.getElem_toArray,List.getElem_cons_zero,List.getElem_cons_succ];rfl)):wpAnyH P md ops Q S (fuel+1) listed a w :=
 wpAnyH_take hi hs hf hr hQ (Or.inr ⟨hw,rfl⟩) hS (by rw[ha];exact h)
end
end Go.Proofs.YtnmhkgmmpkjjeaaGreat
namespace Go.Proofs.YtnmhkgmmpkjjeaaGreat
open Go.ChangeShapes Go.WideShapes Go.ChangeAt Go.RowKit
set_option linter.unusedVariables false
structure E8 (α:Type) where
 T:TypeId
 sz:Nat
 enc:α->List Value
 dflt:α
 pos:0<sz
 len:∀a,(enc a).length=sz
section
variable {α:Type} (E:E8 α)
def AK (xs:List α):List Value:=xs.flatMap E.enc
def AI (xs:List α) (i:Nat):α:=xs.getD i E.dflt
theorem He (xs:List α):(AK E xs).length=xs.length*E.sz:=by
 induction xs with
 | nil=>simp[AK]
 | cons p r ih =>
  have e:AK E (p :: r)=E.enc p++AK E r:=rfl;rw[e,List.length_append,ih,E.len,List.length_cons,Nat.add_mul];omega
theorem CM (a b:List α):AK E (a++b)=AK E a++AK E b:=by simp[AK]
theorem FT (xs:List α):∀i,i<xs.length->∀j,j<E.sz->(AK E xs)[i*E.sz+j]?=(E.enc (AI E xs i))[j]?:=by
 induction xs with
 | nil=>intro i hi;simp at hi
 | cons p r ih =>
  intro i hi j hj;have e:AK E (p :: r)=E.enc p++AK E r:=rfl;rw[e];cases i with
  | zero =>
   rw[Nat.zero_mul,Nat.zero_add,List.getElem?_append_left (by rw[E.len];exact hj)];rfl
  | succ i =>
   rw[List.getElem?_append_right (by rw[E.len,Nat.add_mul];omega),E.len,show (i+1)*E.sz+j-E.sz=i*E.sz+j by rw[Nat.add_mul];omega];exact ih i (by simpa using hi) j hj
theorem NU {n sz i j:Nat} (hi:i<n) (hj:j<sz):i*sz+j<n*sz:=by
 have h:(i+1)*sz<=n*sz:=Nat.mul_le_mul_right sz hi;rw[Nat.add_mul] at h;omega
def A6 (w:World) (base:Nat) (v:Value) (xs:List α):Prop:=w.ownsRow base E.T E.sz v xs.length (AK E xs)
def CO (xs:List α) (i j:Nat):Value:=((E.enc (AI E xs i))[j]?).getD (.bool false)
variable {E}
theorem A6.form {w:World} {base:Nat} {v:Value} {xs:List α} (h:A6 E w base v xs):∃a cap,v=.slice a xs.length cap/\(0<xs.length->∃g N f,a=some ⟨g,0,none⟩/\base<=g/\w.rowIs g E.T N f/\xs.length*E.sz<=N/\∀i,i<xs.length->∀j,j<E.sz->f (i*E.sz+j)=CO E xs i j):=by
 rcases h.2 with⟨rfl,h0⟩|⟨g,cap,cur,rfl,hb,hg,hn,hm,hs,ht⟩
 ·rw[h0];exact⟨none,0,rfl,fun h=>absurd h (by omega)⟩
 ·refine⟨_,cap,rfl,fun _=>⟨g,cur.size,fun i=>cur.getD i (.bool false),rfl,hb,⟨cur,hg,rfl,fun i hi=>by simp[hi]⟩,by rw[hs];exact Nat.mul_le_mul_right _ hn,fun i hi j hj=>?_⟩⟩;have hu:=FT E xs i hi j hj;rw[<- ht,List.getElem?_take,if_pos (NU hi hj)] at hu;simp only[Array.getElem?_toList] at hu;simp[Array.getD_eq_getD_getElem?,hu,CO]
theorem A6.of_row {w:World} {base g n cap N:Nat} {f:Nat->Value} {xs:List α} (hx:xs.length=n) (hb:base<=g) (hr:w.rowIs g E.T N f) (hN:N=cap*E.sz) (hc:n<=cap) (hm:cap<=maxLen) (hf:∀i,i<n->∀j,j<E.sz->f (i*E.sz+j)=CO E xs i j) : A6 E w base (.slice (some ⟨g,0,none⟩) n cap) xs:=by
 obtain⟨cur,hg,hs,hc2⟩:=hr;subst hx;refine⟨He E xs,.inr ⟨g,cap,cur,rfl,hb,hg,hc,hm,by rw[hs,hN],?_⟩⟩;apply List.ext_getElem?;intro q;by_cases hq:q<xs.length*E.sz
 ·have hpos:=E.pos;have hqi:q/E.sz<xs.length:=(Nat.div_lt_iff_lt_mul hpos).2 hq;have hqj:q%E.sz<E.sz:=Nat.mod_lt _ hpos;have e:q=q/E.sz*E.sz+q%E.sz:=by rw[Nat.mul_comm];exact(Nat.div_add_mod q E.sz).symm
  have hlt:q<N:=by rw[hN];exact Nat.lt_of_lt_of_le hq (Nat.mul_le_mul_right _ hc)
  have h1:=hc2 q hlt;have h2:=FT E xs _ hqi _ hqj;have h3:=hf _ hqi _ hqj;rw[<- e] at h2 h3;rw[List.getElem?_take,if_pos hq,Array.getElem?_toList,h1,h2,h3];unfold CO;rw[List.getElem?_eq_getElem (by rw[E.len];exact hqj)];rfl
 ·rw[List.getElem?_eq_none (by rw[List.length_take];omega),List.getElem?_eq_none (by rw[He];omega)]
theorem A6.below {w w':World} {base:Nat} {v:Value} {xs:List α} (h:A6 E w base v xs) (hb:Below w.heap.size w w'):A6 E w' base v xs :=
 World.ownsRow.kept (row:=none) h ⟨hb.os,hb.tape,hb.output,hb.size,fun k hk _=>hb.block k hk⟩ (by cases hv:v.ownBlock<;>simp)
theorem A6.kept {w w':World} {base:Nat} {v:Value} {xs:List α} {row:Option Nat} (h:A6 E w base v xs) (hg:w.grownBy w' row) (hne:∀k,v.ownBlock=some k->some k≠row):A6 E w' base v xs :=
 World.ownsRow.kept h hg (by
  cases hv:v.ownBlock with
  | none=>exact .inl rfl
  | some k=>exact .inr (hne k hv))
theorem A6.rebase {w:World} {base base':Nat} {v:Value} {xs:List α} (h:A6 E w base v xs) (hb:base'<=base):A6 E w base' v xs:=by
 refine⟨h.1,?_⟩;rcases h.2 with hh|⟨g,cap,cur,e,hg,r⟩
 ·exact .inl hh
 ·exact .inr ⟨g,cap,cur,e,Nat.le_trans hb hg,r⟩
theorem A6.own {w:World} {base:Nat} {v:Value} {xs:List α} (h:A6 E w base v xs):∀k,v.ownBlock=some k->base<=k/\k<w.heap.size:=World.ownsRow.lt h
variable (E)
variable {E}
end
theorem Au {w wr:World} {g:Nat} (h:w.grownBy wr (some g)) (i:Nat) (v:Value):w.grownBy (wr.setCell ⟨g,i,none⟩ v) (some g) :=
 ⟨h.os,h.tape,h.output,by simpa using h.size,fun j hj hne=>(Below.heap_setCell _ _ _ _ (by intro e;exact hne (by rw[e]))).trans (h.block j hj hne)⟩
theorem CV {α:Type} (E:E8 α) (xs:List α) (t:Nat) (h:t<xs.length):xs.take (t+1)=xs.take t++[AI E xs t]:=by
 rw[List.take_succ_eq_append_getElem h];simp[AI,h]
theorem A6.empty {α:Type} (E:E8 α) (w:World) (B:Nat) (hb:B<=w.heap.size):A6 E (w.alloc (.cells #[] E.T)) B (.slice (some ⟨w.heap.size,0,none⟩) 0 0) [] :=
 ⟨by simp[AK],.inr ⟨w.heap.size,0,#[],rfl,hb,heap_alloc_new w _,Nat.le_refl _,by unfold maxLen;omega,by simp,by simp[AK]⟩⟩
end Go.Proofs.YtnmhkgmmpkjjeaaGreat
namespace Go.Proofs.YtnmhkgmmpkjjeaaGreat
open Go.ChangeShapes Go.WideShapes Go.ChangeAt Go.RowKit
set_option linter.unusedVariables false
set_option maxRecDepth 100000
theorem A0 {p:Prop} (h:p):Hid p:=h
theorem Ea {α:Type} {E:E8 α} {w:World} {B n:Nat} {v:Value} {xs:List α} {x:α} (hn:xs.length=n) (h:w.ownsRow B E.T E.sz v (n+1) (AK E xs++E.enc x)):A6 E w B v (xs++[x]):=by
 unfold A6;rw[CM,List.length_append,List.length_singleton,hn];have e:AK E [x]=E.enc x:=by simp[AK]
 rw[e];exact h
structure LS {α:Type} (E:E8 α) (w:World) (wr:World) (vv:Value) (l:List α):Prop where
 row:∃g c:Nat,vv=.slice (some ⟨g,0,none⟩) l.length c/\A6 E wr w.heap.size (.slice (some ⟨g,0,none⟩) l.length c) l
 bel:Below w.heap.size w wr
theorem LS.below {α:Type} {E:E8 α} {w wr w1:World} {vv:Value} {l:List α} (h:LS E w wr vv l) (hb:Below wr.heap.size wr w1):LS E w w1 vv l:=by
 obtain⟨⟨g,c,e,hr⟩,hbel⟩:=h;exact⟨⟨g,c,e,hr.below hb⟩,hbel.trans (hb.mono hbel.size)⟩
theorem LS.push {α:Type} {E:E8 α} {w w1 wn:World} {g c g1 c1:Nat} {l:List α} {x:α} {o:Obj} (hbel:Below w.heap.size w w1) (hr:A6 E w1 w.heap.size (.slice (some ⟨g,0,none⟩) l.length c) l) (hown:wn.ownsRow w.heap.size E.T E.sz (.slice (some ⟨g1,0,none⟩) (l.length+1) c1) (l.length+1) (AK E l++E.enc x)) (hgrow:(w1.alloc o).grownBy wn (Value.ownBlock (.slice (some ⟨g,0,none⟩) l.length c))) : LS E w wn (.slice (some ⟨g1,0,none⟩) (l.length+1) c1) (l++[x]):=by
 refine⟨⟨g1,c1,by simp,?_⟩,?_⟩
 ·have:=Ea rfl hown;rw[List.length_append,List.length_singleton];exact this
 ·exact(hbel.alloc hbel.size _).grown hgrow (by have:=hbel.size;simp;omega) (fun q hq=>(hr.own q hq).1)
theorem LS.new {α:Type} (E:E8 α) (w:World):LS E w (w.alloc (.cells #[] E.T)) (.slice (some ⟨w.heap.size,0,none⟩) 0 0) []:=⟨⟨w.heap.size,0,rfl,A6.empty E w w.heap.size (Nat.le_refl _)⟩,Ax⟩
abbrev Ap:=List UInt8
def bs (l:Ap):ByteArray:=⟨l.toArray⟩
theorem Cj (l:Ap):(bs l).size=l.length:=by show l.toArray.size=_;simp
theorem Xx (l:Ap) (i:Nat) (h:i<(bs l).size):(bs l)[i]'h=l.getD i 0:=by
 have hl:i<l.length:=by rw[<- Cj];exact h
 simp only[List.getD,List.getElem?_eq_getElem hl,Option.getD_some];rfl
theorem Dz (a b:Ap):bs a++bs b=bs (a++b):=by unfold bs;rw[ByteArray.mk_append_mk]
theorem FW (a:Array UInt8):ByteArray.mk a=bs a.toList:=rfl
def Ey (l:Ap) (i j:Nat):Ap:=(l.take j).drop i
theorem Dw (l:Ap) (i j:Nat):(bs l).extract i j=bs (Ey l i j):=by
 unfold bs Ey;rw[ByteArray.extract_mk];congr 1;simp[List.drop_take]
theorem D0 (l:Ap):(bs l).toList=l:=by
 rw[ByteArray.toList_eq];rfl
def Md (c:UInt8):Bool:=decide (97<=c.toNat)&&decide (c.toNat<=122)
def DA (c:UInt8):Bool:=decide (48<=c.toNat)&&decide (c.toNat<=57)
def Qe (c:UInt8):Bool:=Md c||DA c||decide (c.toNat=95)
def XF (c:UInt8):Bool:=Qe c||decide (c.toNat=32)||decide (c.toNat=10)||decide (c.toNat=59)
def OE (b:Bool) (c:UInt8):Bool:=(b||decide (c.toNat=35))&&!decide (c.toNat=10)
def Bn:Bool->Ap->Ap
 | _,[]=>[]
 | b,c :: r=>(if OE b c then 32 else c) :: Bn (OE b c) r
def Ft:Nat->Ap->Int
 | _,[]=>-1
 | k,c :: r=>if XF c then Ft (k+1) r else k
def Dl (w:Ap):List Ap:=if w=[] then [] else [w]
def Di:Ap->Ap->List Ap
 | w,[]=>Dl w
 | w,c :: r=>if Qe c then Di (w++[c]) r else Dl w++((if decide (c.toNat=59) then [[59]] else [])++Di [] r)
theorem RP {l:Ap} {k:Nat} (h:k<l.length):l.drop k=l.getD k 0 :: l.drop (k+1):=by
 rw[List.drop_eq_getElem_cons h];simp[List.getD,List.getElem?_eq_getElem h]
theorem Vx {l:Ap} {k:Nat} (h:k<l.length):Ey l k (k+1)=[l.getD k 0]:=by
 unfold Ey;rw[List.drop_take,show k+1-k=1 by omega,RP h];rfl
def KA (l:Ap) (k:Nat):UInt8:=l.getD k 0
theorem L9 {l:Ap} {k:Nat} (h:k<l.length):l.drop k=KA l k :: l.drop (k+1):=RP h
theorem Rn {l:Ap} {k:Nat} (h:k<l.length):Ey l k (k+1)=[KA l k]:=Vx h
theorem Dv (l:Ap) (i:Nat) (h:i<(bs l).size):(bs l)[i]'h=KA l i:=Xx l i h
def Hr:E8 Ap:=⟨93,1,fun x=>[.string (bs x)],[],by omega,fun _=>rfl⟩
theorem Vm:(Tryz.prog.info? 93).map (fun i=>(i.zero,i.size,i.bytes))=some (some (.agg #[.string (bs [])]),1,16):=by kernel_rfl
theorem Ku {w:World} {b g c:Nat} {xs:List Ap} (h:A6 Hr w b (.slice (some ⟨g,0,none⟩) xs.length c) xs) (i:Nat) (hi:i<xs.length):g<w.heap.size/\w.cell? ⟨g,i,none⟩=some (.string (bs (AI Hr xs i))):=by
 obtain⟨a,c',e,h1⟩:=h.form;obtain⟨g',N,f,e2,_,hr,hN,hf⟩:=h1 (by omega);have hN':xs.length*1<=N:=hN;simp only[Value.slice.injEq] at e;obtain⟨e,_,_⟩:=e;rw[e2] at e;simp only[Option.some.injEq,Addr.mk.injEq,and_true] at e;subst e;refine⟨hr.lt,?_⟩;have h0:=hf i hi 0 (by decide);have h1:i*Hr.sz+0=i:=by show i*1+0=i;omega
 rw[h1] at h0;rw[hr.cell (i:=i) (by omega),h0];rfl
def AW:E8 Int:=⟨3,1,fun x=>[.int .i64 x],0,by omega,fun _=>rfl⟩
theorem Ny:(Tryz.prog.info? 3).map (fun i=>(i.zero,i.size,i.bytes))=some (some (.int .i64 0),1,8):=by kernel_rfl
theorem CU {w:World} {b g c:Nat} {xs:List Int} (h:A6 AW w b (.slice (some ⟨g,0,none⟩) xs.length c) xs) (i:Nat) (hi:i<xs.length):g<w.heap.size/\w.cell? ⟨g,i,none⟩=some (.int .i64 (AI AW xs i)):=by
 obtain⟨a,c',e,h1⟩:=h.form;obtain⟨g',N,f,e2,_,hr,hN,hf⟩:=h1 (by omega);have hN':xs.length*1<=N:=hN;simp only[Value.slice.injEq] at e;obtain⟨e,_,_⟩:=e;rw[e2] at e;simp only[Option.some.injEq,Addr.mk.injEq,and_true] at e;subst e;have h5:=hf i hi 0 (by decide);have e5:i*AW.sz+0=i:=by show i*1+0=i;omega
 rw[e5] at h5;exact⟨hr.lt,by rw[hr.cell (i:=i) (by omega)];exact congrArg some h5⟩
end Go.Proofs.YtnmhkgmmpkjjeaaGreat
namespace Go.Proofs.YtnmhkgmmpkjjeaaGreat
open Go.ChangeShapes Go.WideShapes Go.ChangeAt Go.RowKit
set_option linter.unusedVariables false
attribute [local go_sem ↓] Go.wp_at_zero Go.wp_at_succ
structure P3 where
 fr:Int
 lv:Int
 pg:Int
def D7 (ps:List P3):List Value:=ps.flatMap fun p=>[.int .i64 p.fr,.int .i64 p.lv,.int .i64 p.pg]
def Ai (ps:List P3) (i:Nat):P3:=ps.getD i ⟨0,0,0⟩
theorem E0 (a b:List P3):D7 (a++b)=D7 a++D7 b:=by simp[D7]
theorem SW (ps:List P3):∀i,i<ps.length->(D7 ps)[i*3]?=some (.int .i64 (Ai ps i).fr)/\(D7 ps)[i*3+1]?=some (.int .i64 (Ai ps i).lv)/\(D7 ps)[i*3+2]?=some (.int .i64 (Ai ps i).pg):=by
 induction ps with
 | nil=>intro i hi;simp at hi
 | cons p r ih =>
  intro i hi;cases i with
  | zero=>exact⟨rfl,rfl,rfl⟩
  | succ i =>
   have h:=ih i (by simpa using hi);have e:D7 (p :: r)=[.int .i64 p.fr,.int .i64 p.lv,.int .i64 p.pg]++D7 r:=rfl;(have e2:Ai (p :: r) (i+1)=Ai r i:=by simp[Ai]);rw[e,e2];refine⟨?_,?_,?_⟩
   ·rw[List.getElem?_append_right (by simp;omega),show (i+1)*3-List.length [Value.int .i64 p.fr,.int .i64 p.lv,.int .i64 p.pg]=i*3 by simp;omega];exact h.1
   ·rw[List.getElem?_append_right (by simp;omega),show (i+1)*3+1-List.length [Value.int .i64 p.fr,.int .i64 p.lv,.int .i64 p.pg]=i*3+1 by simp;omega];exact h.2.1
   ·rw[List.getElem?_append_right (by simp;omega),show (i+1)*3+2-List.length [Value.int .i64 p.fr,.int .i64 p.lv,.int .i64 p.pg]=i*3+2 by simp;omega];exact h.2.2
def Aa (w:World) (base:Nat) (v:Value) (ps:List P3):Prop:=w.ownsRow base 67 3 v ps.length (D7 ps)
theorem Aa.form {w:World} {base:Nat} {v:Value} {ps:List P3} (h:Aa w base v ps):∃a cap,v=.slice a ps.length cap/\(0<ps.length->∃g N f,a=some ⟨g,0,none⟩/\base<=g/\w.rowIs g 67 N f/\ps.length*3<=N/\∀i,i<ps.length->f (i*3)=.int .i64 (Ai ps i).fr/\f (i*3+1)=.int .i64 (Ai ps i).lv/\f (i*3+2)=.int .i64 (Ai ps i).pg):=by
 rcases h.2 with⟨rfl,h0⟩|⟨g,cap,cur,rfl,hb,hg,hn,hm,hs,ht⟩
 ·rw[h0];exact⟨none,0,rfl,fun h=>absurd h (by omega)⟩
 ·refine⟨_,cap,rfl,fun _=>⟨g,cur.size,fun i=>cur.getD i (.bool false),rfl,hb,⟨cur,hg,rfl,fun i hi=>by simp[hi]⟩,by rw[hs];omega,fun i hi=>?_⟩⟩;have hc:∀j u,j<ps.length*3->(D7 ps)[j]?=some u->cur.getD j (.bool false)=u:=by
   intro j u hj hu;rw[<- ht,List.getElem?_take,if_pos hj] at hu;simp at hu;simp[Array.getD_eq_getD_getElem?,hu]
  obtain⟨a,b,c⟩:=SW ps i hi;exact⟨hc _ _ (by omega) a,hc _ _ (by omega) b,hc _ _ (by omega) c⟩
theorem Gq {w w':World} (h:Below w.heap.size w w'):w.grownBy w' none:=⟨h.os,h.tape,h.output,h.size,fun k hk _=>h.block k hk⟩
theorem Aa.below {w w':World} {base:Nat} {v:Value} {ps:List P3} (h:Aa w base v ps) (hb:Below w.heap.size w w'):Aa w' base v ps :=
 World.ownsRow.kept h (Gq hb) (by cases hv:v.ownBlock<;>simp)
theorem Aa.rebase {w:World} {base base':Nat} {v:Value} {ps:List P3} (h:Aa w base v ps) (hb:base'<=base):Aa w base' v ps:=by
 refine⟨h.1,?_⟩;rcases h.2 with hh|⟨g,cap,cur,e,hg,r⟩
 ·exact .inl hh
 ·exact .inr ⟨g,cap,cur,e,Nat.le_trans hb hg,r⟩
theorem FP {w:World} {b c:Nat} {a:Option Addr} {ps:List P3} (h:Aa w b (.slice a ps.length c) ps) : ∃g,(0<ps.length->a=some ⟨g,0,none⟩/\g<w.heap.size)/\∀k F L P,k<ps.length->Ai ps k=⟨F,L,P⟩->∀wX,Below w.heap.size w wX->wX.cell? ⟨g,k*3,none⟩=some (.int .i64 F)/\wX.cell? ⟨g,k*3+1,none⟩=some (.int .i64 L)/\wX.cell? ⟨g,k*3+2,none⟩=some (.int .i64 P):=by
 obtain⟨a',c',e,hf⟩:=h.form;simp only[Value.slice.injEq] at e;obtain⟨rfl,_,_⟩:=e;by_cases h0:0<ps.length
 ·obtain⟨g,N,f,rfl,_,hr,hN,hc⟩:=hf h0;refine⟨g,fun _=>⟨rfl,hr.lt⟩,fun k F L P hk he wX hX=>?_⟩;have hr1:wX.rowIs g 67 N f:=hr.of_block (hX.block g hr.lt);obtain⟨x0,x1,x2⟩:=hc k hk;rw[he] at x0 x1 x2;exact⟨(hr1.cell (by omega)).trans (congrArg some x0),(hr1.cell (by omega)).trans (congrArg some x1),(hr1.cell (by omega)).trans (congrArg some x2)⟩
 ·exact⟨0,fun h=>absurd h h0,fun k F L P hk=>absurd hk (by omega)⟩
end Go.Proofs.YtnmhkgmmpkjjeaaGreat
namespace Go.Proofs.YtnmhkgmmpkjjeaaGreat
open Go.ChangeShapes Go.WideShapes Go.ChangeAt Go.RowKit
def CH (l:Int):Int:=if l=1 then 256 else if l=2 then 16 else 1
theorem LR (l:Int):0<=CH l/\CH l<=256:=by
 unfold CH;by_cases a:l=1<;>by_cases b:l=2<;>simp[a,b]
def AG (zs:List Int) (f:Int) (i:Nat):Int:=zs.getD ((f*16).toNat+i) 0
def De (zs:List Int) (n:Int) (p:P3) (i:Nat):Bool:=decide (AF p.lv (AG zs p.fr i)=1)&&decide (AQ p.lv (AG zs p.fr i)<n)
def Aq (zs:List Int) (p:P3) (i:Nat):P3:=⟨AQ p.lv (AG zs p.fr i),p.lv+1,p.pg+i*CH p.lv⟩
def Ah (zs:List Int) (n:Int) (rec:P3->List P3) (p:P3) (k:Nat):List P3:=p :: (List.range k).flatMap fun i=>if De zs n p i then rec (Aq zs p i) else []
def As (zs:List Int) (n:Int):Nat->P3->List P3
 | 0,p=>[p]
 | d+1,p=>Ah zs n (As zs n d) p 16
def YI:Nat->Nat
 | 0=>1
 | d+1=>1+16*YI d
theorem KP (zs:List Int) (n:Int) (rec:P3->List P3) (p:P3):Ah zs n rec p 0=[p]:=rfl
theorem GE (zs:List Int) (n:Int) (rec:P3->List P3) (p:P3) (k:Nat):Ah zs n rec p (k+1)=Ah zs n rec p k++(if De zs n p k then rec (Aq zs p k) else []):=by
 simp[Ah,List.range_succ]
theorem EU (zs:List Int) (n:Int) (rec:P3->List P3) (p:P3) (B:Nat) (h:∀q,(rec q).length<=B):∀k,(Ah zs n rec p k).length<=1+k*B
 | 0=>by simp[Ah]
 | k+1=>by
  rw[GE,List.length_append];have:=EU zs n rec p B h k;have h2:(if De zs n p k then rec (Aq zs p k) else []).length<=B:=by split<;>simp[h]
  rw[Nat.add_mul];omega
theorem E4 (zs:List Int) (n:Int):∀d p,(As zs n d p).length<=YI d
 | 0,p=>by simp[As,YI]
 | d+1,p=>EU zs n _ p (YI d) (E4 zs n d) 16
def An (m:Nat):Int:=if m<16\/8192<m\/¬m%16=0 then 0 else (m/16:Nat)
theorem Ek (m:Nat):An m<=512:=by unfold An;split<;>omega
theorem C5 (m:Nat) (h:An m≠0):An m*16=m/\1<=An m:=by unfold An at h ⊢;split<;>simp_all<;>omega
theorem Cw (l x:Int):0<=AQ l x/\AQ l x<65536:=by unfold AQ;split<;>omega
def Cp (zs:List Int) (n:Int) (p:P3) (i:Nat):Bool:=!(decide (AF p.lv (AG zs p.fr i)=4)||(decide (AF p.lv (AG zs p.fr i)=1)&&decide (n<=AQ p.lv (AG zs p.fr i))))
def Cd (zs:List Int) (n:Int) (p:P3):Bool:=(List.range 16).all (Cp zs n p)
def Ec (ps:List P3) (i:Nat):Bool:=(List.range i).all fun j=>!decide ((Ai ps i).fr=(Ai ps j).fr)
def Bj (zs:List Int) (n:Int) (ps:List P3) (k:Nat):Bool:=(List.range k).all fun i=>Ec ps i&&Cd zs n (Ai ps i)
def Fs (tm:Array Value):List (Nat×Value)->Prop
 | []=>True
 | q :: l=>(∀h:q.1<tm.size,tm[q.1]'h=q.2)/\Fs tm l
theorem Ir {P:Program} {f:FuncId} {fn:Func} {c:Code} {args:Array Value} {w:World} {R:Ending->World->Prop} (n:Nat) (hf:P.funcs[f]?=some fn) (hb:fn.body=some c) (hn:fn.ntmps=n) (ha:args.size<=n) (h:∀tm:Array Value,tm.size=n->(∀i (hi:i<args.size) (h:i<tm.size),tm[i]'h=args[i]'hi)->c.wp P (bodyPost P fn R) ⟨tm,[]⟩ w):Calls P f args w R:=by
 refine calls_of_wp hf hb (h _ ?_ ?_)
 ·simp;omega
 ·intro i hi h;exact Array.getElem_append_left hi
theorem Aw {P:Program} {s:Code} {K:Act->World->Prop} {Q':Exit->Act->World->Prop} {a:Act} {w:World} (n:Nat) (l:List (Nat×Value)) (R:World->Prop) (first:∀(J K':Act->World->Prop),(∀tm w',tm.size=n->Fs tm l->R w'->J ⟨tm,[]⟩ w')->(∀a' w',Met J a' w'->K' a' w')->s.wp P (Exit.then K' Q') a w) (rest:∀tm w',tm.size=n->Fs tm l->R w'->K ⟨tm,[]⟩ w'):s.wp P (Exit.then K Q') a w:=by
 refine wp_cut (fun a' w'=>a'.defers=[]/\a'.tmps.size=n/\Fs a'.tmps l/\R w') ?_ ?_
 ·rintro⟨tm,ds⟩ w' ⟨rfl,hz,hr,h2⟩;exact rest tm w' hz hr h2
 ·intro J K' hJ hK;exact first J K' (fun tm w' hz hr h2=>hJ _ _ ⟨rfl,hz,hr,h2⟩) hK
theorem DP {P:Program} {s:Code} {Q:Exit->Act->World->Prop} {tm:Array Value} {w:World} (n:Nat) (l:List (Nat×Value)) (hz:tm.size=n) (hl:Fs tm l)
  (h:∀tm':Array Value,tm'.size=n->Fs tm' l->s.wp P Q ⟨tm',[]⟩ w):s.wp P Q ⟨tm,[]⟩ w:=h tm hz hl
theorem Io {p:Nat->Prop} (h:∃n,p n):∃n,p n/\∀m,p m->n<=m:=by
 obtain⟨n,hn⟩:=h;induction n using Nat.strongRecOn with
 | _ n ih =>
  by_cases hc:∃m,m<n/\p m
  ·obtain⟨m,hm,hp⟩:=hc;exact ih m hm hp
  ·exact⟨n,hn,fun m hm=>by
    rcases Nat.lt_or_ge m n with h|h
    ·exact absurd ⟨m,h,hm⟩ hc
    ·exact h⟩
theorem DR {P:Program} {c:Code} {Q:Exit->Act->World->Prop} {tm:Array Value} {w:World} (n:Nat) (I:Nat->Array Value->World->Prop) (k:Nat) (hz:tm.size=n) (h0:I k tm w) (round:∀k tm w (J K:Act->World->Prop),tm.size=n->I k tm w->(∀k' tm' w',tm'.size=n->I k' tm' w'->k'<k->J ⟨tm',[]⟩ w')->(∀a' w',Met J a' w'->K a' w')->c.wp P (Exit.then K Q) ⟨tm,[]⟩ w):(Code.loop c).wp P Q ⟨tm,[]⟩ w:=by
 classical
 refine wp_loop (fun a w=>a.defers=[]/\a.tmps.size=n/\∃k,I k a.tmps w) (fun a w=>if h:∃k,I k a.tmps w then (Io h).choose else 0) ⟨rfl,hz,k,h0⟩ ?_;rintro⟨tm,ds⟩ w ⟨hd,hz,hk⟩;obtain rfl:ds=[]:=hd;rw[dif_pos hk];refine round (Io hk).choose tm w _ _ hz (Io hk).choose_spec.1 ?_ (fun a' w' h=>h);intro k' tm' w' hz' hi' hlt;have he:∃k,I k tm' w':=⟨k',hi'⟩
 refine⟨⟨rfl,hz',he⟩,?_⟩;rw[dif_pos he];exact Nat.lt_of_le_of_lt ((Io he).choose_spec.2 k' hi') hlt
end Go.Proofs.YtnmhkgmmpkjjeaaGreat
namespace Go.Proofs.YtnmhkgmmpkjjeaaGreat
open Go.ChangeShapes Go.WideShapes Go.ChangeAt Go.RowKit
set_option linter.unusedVariables false
set_option maxRecDepth 100000
attribute [local go_sem] Cj Dv Dz FW Dw D0
def OU:Ap:=[48,49,50,51,52,53,54,55,56,57]
def Ab (n:Nat):Ap:=if n<10 then Ey OU n (n+1) else Ab (n/10)++Ey OU (n%10) (n%10+1)
theorem Cu (n:Nat):(Ab n).length<=n+1:=by
 induction n using Nat.strongRecOn with
 | _ n ih =>
  unfold Ab;have hc:∀i,(Ey OU i (i+1)).length<=1:=fun i=>by
   unfold Ey;rw[List.length_drop,List.length_take];omega
  split
  ·have:=hc n;omega
  ·have:=ih (n/10) (by omega);have:=hc (n%10);rw[List.length_append];omega
set_option maxHeartbeats 1000000 in
theorem I6 (n:Nat) (hn:n<=1000000000):∀w,Calls Tryz.prog 207 #[.int .i64 (n:Int)] w fun e w'=>e=.returned (.string (bs (Ab n)))/\Below w.heap.size w w':=by
 induction n using Nat.strongRecOn with
 | _ n ih =>
  intro w;have hlen:OU.length=10:=rfl;by_cases h:n<10
  ·(have e:Ab n=Ey OU n (n+1):=by unfold Ab;rw[if_pos h]);rw[e];(have h':(n:Int)<10:=by omega);(have L0:(0:Int)<=(n:Int):=by omega);(have L1:(n:Int)<=(n:Int)+1:=by omega);(have L2:(n:Int)+1<=10:=by omega);have HD:Hid (OU=[48,49,50,51,52,53,54,55,56,57]):=A0 rfl;clear ih e;(go_enter Tryz.func207,Tryz.ntmps207);(go_wp2_with fail);go_ret;refine⟨?_,Below.refl _ _⟩;first|rfl|(rw[HD.out];rfl)
  ·(have e:Ab n=Ab (n/10)++Ey OU (n%10) (n%10+1):=by conv=>lhs;unfold Ab;rw[if_neg h]);rw[e];(have h':¬(n:Int)<10:=by omega);have hi:=ih (n/10) (by omega) (by omega);(obtain⟨Q,hQ⟩:∃Q,n/10=Q:=⟨_,rfl⟩);(obtain⟨R,hR⟩:∃R,n%10=R:=⟨_,rfl⟩);(have E1:(n:Int).tdiv 10=(Q:Int):=by rw[Int.tdiv_eq_ediv_of_nonneg (by omega)];omega);(have E1b:(n:Int)/10=(Q:Int):=by omega);(have E2:(n:Int).tmod 10=(R:Int):=by rw[Int.tmod_eq_emod_of_nonneg (by omega)];omega);(have E2b:(n:Int)%10=(R:Int):=by omega);(have hR1:R<10:=by omega);(have hQ1:Q<=100000000:=by omega);(have L0:(0:Int)<=(R:Int):=by omega);(have L1:(R:Int)<=(R:Int)+1:=by omega);(have L2:(R:Int)+1<=10:=by omega);(have W1:IntKind.i64.wrap (Q:Int)=(Q:Int):=by rw[IntKind.wrap_i64];omega);(have W2:IntKind.i64.wrap ((R:Int)+1)=(R:Int)+1:=by rw[IntKind.wrap_i64];omega);rw[hQ] at hi ⊢;rw[hR];have hS:=Cu Q;generalize Ab Q=SQ at *;have hC:(Ey [48,49,50,51,52,53,54,55,56,57] R (R+1)).length<=1:=by
    unfold Ey;rw[List.length_drop,List.length_take];omega
   (have hcat:¬9223372036854775807<List.length SQ+List.length (Ey [48,49,50,51,52,53,54,55,56,57] R (R+1)):=by omega);clear ih e hQ hR h;(go_enter Tryz.func207,Tryz.ntmps207);(go_wp2_with fail);refine wp_region_held_drew (S:=(fun _=>True)) (by kernel_rfl) trivial (fun hHeld=>?_);refine tk 0 ?_;refine tk 1 ?_;refine tk 3 ?_;refine tk 4 ?_;refine tk 5 ?_;refine tk 6 ?_;refine tk 7 ?_;refine tk 8 ?_;refine wpAnyH_ready (rs:=[2]) (by kernel_rfl) (by simp) ?_;refine AllReadyH.cons rfl (fun K hK=>?_) AllReadyH.nil;go_simp;(go_at_call 207);refine(hi _).mono ?_;rintro e w1 ⟨rfl,hb1⟩;have hB1:Below w.heap.size w w1:=(Below.refl _ _).drew.trans (hb1.mono (by simp));(go_wp2_with fail);refine hK.out _ _ trivial (fun hHeld2=>?_);clear hK K;refine tk 9 ?_;refine tk 10 ?_;refine wpAnyH_done (by kernel_rfl) ?_ _;(go_wp2_with fail);go_ret;refine⟨?_,hB1⟩;first|rfl|simp[OU]
end Go.Proofs.YtnmhkgmmpkjjeaaGreat
