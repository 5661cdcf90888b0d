import Derived.Test.YtnmhkgmmpkjjeabGreatE02
namespace Go.Proofs.YtnmhkgmmpkjjeabGreat
open ChangeShapes WideShapes ChangeAt RowKit Proofs.Tryz
set_option linter.all false
set_option maxRecDepth 100000
abbrev cl (w:World) (b o:Nat):Option Value:=w.cell? ⟨b,o,none⟩
abbrev fz (w:World) (b o:Nat):Bool:=w.frozen? ⟨b,o,none⟩
abbrev Bl (w w':World):Prop:=Below w.heap.size w w'
abbrev F4 (w:World) (b:Nat):Prop:=w.frozen? ⟨b,0,none⟩=false/\w.frozen? ⟨b,1,none⟩=false/\w.frozen? ⟨b,2,none⟩=false/\w.frozen? ⟨b,3,none⟩=false
section
variable {P:Program} {ops:Array Oper} {Q:Exit->Act->World->Prop} {md:Region.Mode} {S:World->Prop}
theorem tk(i:Nat){oi:Oper}{v:Value}{fuel:Nat}{listed:Array Bool}{a a':Act}{w:World}(h:wpAnyH P md ops Q S fuel (listed.setIfInBounds i true) a' w)(hi:ops[i]?=some oi:=by rfl)(hs:Region.noSelect ops=true:=by kernel_rfl)(hf:Region.free md ops listed i=true:=by kernel_rfl)(hr:(Region.ready md ops listed).contains i=true:=by kernel_rfl)(hQ:∀c a w,Q (.panic c) (a.put oi.dst v) w->Q (.panic c) a w:=by exact fun _ _ _ h=>h)(hw:Region.wanted oi (yielded ops a.tmps)=true:=by rfl)(hy:∀w,S w->(execOp a.eval oi).run P w=.ok (.value v) w:=by (intro w hSw;(try dsimp only at hSw);go_simp;try with_reducible rfl))(hS:S w:=by assumption)(ha:a.put oi.dst v=a':=by (simp only[Act.put,List.setIfInBounds_toArray,List.set_cons_zero,List.set_cons_succ,List.getElem_toArray,List.getElem_cons_zero,List.getElem_cons_succ];rfl)):wpAnyH P md ops Q S (fuel+1) listed a w :=
 wpAnyH_take hi hs hf hr hQ (Or.inl ⟨hw,hy⟩) hS (by rw[ha];exact h)
theorem sk(i:Nat){oi:Oper}{fuel:Nat}{listed:Array Bool}{a a':Act}{w:World}(h:wpAnyH P md ops Q S fuel (listed.setIfInBounds i true) a' w)(hi:ops[i]?=some oi:=by rfl)(hs:Region.noSelect ops=true:=by kernel_rfl)(hf:Region.free md ops listed i=true:=by kernel_rfl)(hr:(Region.ready md ops listed).contains i=true:=by kernel_rfl)(hQ:∀c a w,Q (.panic c) (a.put oi.dst undef) w->Q (.panic c) a w:=by exact fun _ _ _ h=>h)(hw:Region.wanted oi (yielded ops a.tmps)=false:=by rfl)(hS:S w:=by assumption)(ha:a.put oi.dst undef=a':=by (simp only[Act.put,List.setIfInBounds_toArray,List.set_cons_zero,List.set_cons_succ,List.getElem_toArray,List.getElem_cons_zero,List.getElem_cons_succ];rfl)):wpAnyH P md ops Q S (fuel+1) listed a w :=
 wpAnyH_take hi hs hf hr hQ (Or.inr ⟨hw,rfl⟩) hS (by rw[ha];exact h)
end
structure DL (α:Type) where
 T:TypeId
 sz:Nat
 enc:α->List Value
 dflt:α
 pos:0<sz
 len:∀a,(enc a).length=sz
section
variable {α:Type} (E:DL α)
def AF (xs:List α):List Value:=xs.flatMap E.enc
def A8 (xs:List α) (i:Nat):α:=xs.getD i E.dflt
theorem C7(xs:List α):(AF E xs).length=xs.length*E.sz:=by
 induction xs with
 | nil=>simp[AF]
 | cons p r ih =>
  have e:AF E (p :: r)=E.enc p++AF E r:=rfl;rw[e,List.length_append,ih,E.len,List.length_cons,Nat.add_mul];omega
theorem C8(a b:List α):AF E (a++b)=AF E a++AF E b:=by simp[AF]
theorem CS(xs:List α):∀i,i<xs.length->∀j,j<E.sz->(AF E xs)[i*E.sz+j]?=(E.enc (A8 E xs i))[j]?:=by
 induction xs with
 | nil=>intro i hi;simp at hi
 | cons p r ih =>
  intro i hi j hj;have e:AF E (p :: r)=E.enc p++AF E r:=rfl;rw[e];cases i with
  | zero =>
   rw[Nat.zero_mul,Nat.zero_add,List.getElem?_append_left (by rw[E.len];exact hj)];rfl
  | succ i =>
   rw[List.getElem?_append_right (by rw[E.len,Nat.add_mul];omega),E.len,show (i+1)*E.sz+j-E.sz=i*E.sz+j by rw[Nat.add_mul];omega];exact ih i (by simpa using hi) j hj
theorem Hs{n sz i j:Nat}(hi:i<n)(hj:j<sz):i*sz+j<n*sz:=by
 have h:(i+1)*sz<=n*sz:=Nat.mul_le_mul_right sz hi;rw[Nat.add_mul] at h;omega
def A6 (w:World) (base:Nat) (v:Value) (xs:List α):Prop:=w.ownsRow base E.T E.sz v xs.length (AF E xs)
def Bu (w:World) (v:Value) (n:Nat) (c:Nat->Nat->Value):Prop :=
 ∃a cap,v=.slice a n cap/\(0<n->∃g N f,a=some ⟨g,0,none⟩/\w.rowIs g E.T N f/\n*E.sz<=N/\∀i,i<n->∀j,j<E.sz->f (i*E.sz+j)=c i j)
def AL (xs:List α) (i j:Nat):Value:=((E.enc (A8 E xs i))[j]?).getD (.bool false)
variable {E}
theorem A6.form{w:World}{base:Nat}{v:Value}{xs:List α}(h:A6 E w base v xs):∃a cap,v=.slice a xs.length cap/\(0<xs.length->∃g N f,a=some ⟨g,0,none⟩/\base<=g/\w.rowIs g E.T N f/\xs.length*E.sz<=N/\∀i,i<xs.length->∀j,j<E.sz->f (i*E.sz+j)=AL E xs i j):=by
 rcases h.2 with⟨rfl,h0⟩|⟨g,cap,cur,rfl,hb,hg,hn,hm,hs,ht⟩
 ·rw[h0];exact⟨none,0,rfl,fun h=>absurd h (by omega)⟩
 ·refine⟨_,cap,rfl,fun _=>⟨g,cur.size,fun i=>cur.getD i (.bool false),rfl,hb,⟨cur,hg,rfl,fun i hi=>by simp[hi]⟩,by rw[hs];exact Nat.mul_le_mul_right _ hn,fun i hi j hj=>?_⟩⟩;have hu:=CS E xs i hi j hj;rw[<- ht,List.getElem?_take,if_pos (Hs hi hj)] at hu;simp only[Array.getElem?_toList] at hu;simp[Array.getD_eq_getD_getElem?,hu,AL]
theorem A6.of_row{w:World}{base g n cap N:Nat}{f:Nat->Value}{xs:List α}(hx:xs.length=n)(hb:base<=g)(hr:w.rowIs g E.T N f)(hN:N=cap*E.sz)(hc:n<=cap)(hm:cap<=maxLen)(hf:∀i,i<n->∀j,j<E.sz->f (i*E.sz+j)=AL E xs i j):A6 E w base (.slice (some ⟨g,0,none⟩) n cap) xs:=by
 obtain⟨cur,hg,hs,hc2⟩:=hr;subst hx;refine⟨C7 E xs,.inr ⟨g,cap,cur,rfl,hb,hg,hc,hm,by rw[hs,hN],?_⟩⟩;apply List.ext_getElem?;intro q;by_cases hq:q<xs.length*E.sz
 ·have hpos:=E.pos;have hqi:q/E.sz<xs.length:=(Nat.div_lt_iff_lt_mul hpos).2 hq;have hqj:q%E.sz<E.sz:=Nat.mod_lt _ hpos;have e:q=q/E.sz*E.sz+q%E.sz:=by rw[Nat.mul_comm];exact(Nat.div_add_mod q E.sz).symm
  have hlt:q<N:=by rw[hN];exact Nat.lt_of_lt_of_le hq (Nat.mul_le_mul_right _ hc)
  have h1:=hc2 q hlt;have h2:=CS E xs _ hqi _ hqj;have h3:=hf _ hqi _ hqj;rw[<- e] at h2 h3;rw[List.getElem?_take,if_pos hq,Array.getElem?_toList,h1,h2,h3];unfold AL;rw[List.getElem?_eq_getElem (by rw[E.len];exact hqj)];rfl
 ·rw[List.getElem?_eq_none (by rw[List.length_take];omega),List.getElem?_eq_none (by rw[C7];omega)]
theorem A6.below{w w':World}{base:Nat}{v:Value}{xs:List α}(h:A6 E w base v xs)(hb:Below w.heap.size w w'):A6 E w' base v xs :=
 World.ownsRow.kept (row:=none) h ⟨hb.os,hb.tape,hb.output,hb.size,fun k hk _=>hb.block k hk⟩ (by cases hv:v.ownBlock<;>simp)
theorem A6.kept{w w':World}{base:Nat}{v:Value}{xs:List α}{row:Option Nat}(h:A6 E w base v xs)(hg:w.grownBy w' row)(hne:∀k,v.ownBlock=some k->some k≠row):A6 E w' base v xs :=
 World.ownsRow.kept h hg (by
  cases hv:v.ownBlock with
  | none=>exact .inl rfl
  | some k=>exact .inr (hne k hv))
theorem A6.rebase{w:World}{base base':Nat}{v:Value}{xs:List α}(h:A6 E w base v xs)(hb:base'<=base):A6 E w base' v xs:=by
 refine⟨h.1,?_⟩;rcases h.2 with hh|⟨g,cap,cur,e,hg,r⟩
 ·exact .inl hh
 ·exact .inr ⟨g,cap,cur,e,Nat.le_trans hb hg,r⟩
theorem A6.own{w:World}{base:Nat}{v:Value}{xs:List α}(h:A6 E w base v xs):∀k,v.ownBlock=some k->base<=k/\k<w.heap.size:=World.ownsRow.lt h
theorem A6.has{w:World}{base:Nat}{v:Value}{xs:List α}(h:A6 E w base v xs):Bu E w v xs.length (AL E xs):=by
 obtain⟨a,cap,e,h1⟩:=h.form;refine⟨a,cap,e,fun h0=>?_⟩;obtain⟨g,N,f,p,_,q,r,s⟩:=h1 h0;exact⟨g,N,f,p,q,r,s⟩
theorem Bu.below{w w':World}{v:Value}{n:Nat}{c:Nat->Nat->Value}(h:Bu E w v n c)(hb:Below w.heap.size w w'):Bu E w' v n c:=by
 obtain⟨a,cap,e,h1⟩:=h;refine⟨a,cap,e,fun h0=>?_⟩;obtain⟨g,N,f,p,q,r,s⟩:=h1 h0;exact⟨g,N,f,p,q.of_block (hb.block g q.lt),r,s⟩
theorem Bu.kept{w w':World}{v:Value}{n:Nat}{c:Nat->Nat->Value}{row:Option Nat}(h:Bu E w v n c)(hg:w.grownBy w' row)(hne:∀k,v.ownBlock=some k->some k≠row):Bu E w' v n c:=by
 obtain⟨a,cap,e,h1⟩:=h;refine⟨a,cap,e,fun h0=>?_⟩;obtain⟨g,N,f,p,q,r,s⟩:=h1 h0;subst e p;exact⟨g,N,f,rfl,q.of_block (hg.block g q.lt (hne g rfl)),r,s⟩
variable (E)
def EX (w:World) (v:Value) (xs:List α):Prop :=
 ∃(a:Option Addr) (cap:Nat),v=.slice a xs.length cap/\(0<xs.length->∃b o,a=some ⟨b,o,none⟩/\b<w.heap.size/\∀i,i<xs.length->∀j,j<E.sz->w.cell? ⟨b,o+i*E.sz+j,none⟩=some (AL E xs i j))
variable {E}
theorem EX.at{w w':World}{v:Value}{xs:List α}(h:EX E w v xs)(hb:Below w.heap.size w w'):EX E w' v xs:=by
 obtain⟨a,cap,rfl,ha⟩:=h;refine⟨a,cap,rfl,fun h0=>?_⟩;obtain⟨b,o,rfl,hbl,hc⟩:=ha h0;exact⟨b,o,rfl,Nat.lt_of_lt_of_le hbl hb.size,fun i hi j hj=>(hb.cell hbl).trans (hc i hi j hj)⟩
end
theorem AN{w wr:World}{g:Nat}(h:w.grownBy wr (some g))(i:Nat)(v:Value):w.grownBy (wr.setCell ⟨g,i,none⟩ v) (some g) :=
 ⟨h.os,h.tape,h.output,by simpa using h.size,fun j hj hne=>(Below.heap_setCell _ _ _ _ (by intro e;exact hne (by rw[e]))).trans (h.block j hj hne)⟩
theorem Cs{w:World}{base g n sz:Nat}{T:TypeId}{xs:List Value}(h:w.ownsRow base T sz (.slice (some ⟨g,0,none⟩) n n) n xs):∃f,w.rowIs g T (n*sz) f:=by
 rcases h.2 with⟨e,_⟩|⟨g',cap,cur,e,_,hg,_,_,hs,_⟩
 ·cases e
 ·simp only[Value.slice.injEq,Option.some.injEq,Addr.mk.injEq,and_true,true_and] at e;obtain⟨rfl,rfl⟩:=e;exact⟨fun i=>cur.getD i (.bool false),cur,hg,hs,fun i hi=>by rw[<- hs] at hi;simp[hi]⟩
theorem GD{α:Type}(E:DL α)(xs:List α)(t:Nat)(h:t<xs.length):xs.take (t+1)=xs.take t++[A8 E xs t]:=by
 rw[List.take_succ_eq_append_getElem h];simp[A8,h]
theorem A6.snoc{α:Type}{E:DL α}{w:World}{B:Nat}{v:Value}{xs:List α}{t m:Nat}(ht:t<xs.length)(hm:m=t+1)(h:w.ownsRow B E.T E.sz v m (AF E (xs.take t)++E.enc (A8 E xs t))):A6 E w B v (xs.take (t+1)):=by
 unfold A6;have e1:(xs.take (t+1)).length=t+1:=by rw[List.length_take];omega
 have e2:AF E (xs.take (t+1))=AF E (xs.take t)++E.enc (A8 E xs t):=by
  rw[GD E xs t ht,C8];simp[AF]
 rw[e1,e2,<- hm];exact h
theorem A6.empty{α:Type}(E:DL α)(w:World)(B:Nat)(hb:B<=w.heap.size):A6 E (w.alloc (.cells #[] E.T)) B (.slice (some ⟨w.heap.size,0,none⟩) 0 0) [] :=
 ⟨by simp[AF],.inr ⟨w.heap.size,0,#[],rfl,hb,heap_alloc_new w _,Nat.le_refl _,by unfold maxLen;omega,by simp,by simp[AF]⟩⟩
section
attribute [local go_sem ↓] wp_at_zero wp_at_succ
def AO:DL Int:=⟨46,1,fun x=>[.int .u64 x],0,by omega,fun _=>rfl⟩
theorem F5.erow{w:World}{g base:Nat}{zs:List Int}(h:F5 w g zs)(hb:base<=g)(hn:zs.length<=1048576):A6 AO w base (.slice (some ⟨g,0,none⟩) zs.length zs.length) zs:=by
 refine A6.of_row (cap:=zs.length) rfl hb h (by simp[AO]) (Nat.le_refl _) (by unfold maxLen;omega) ?_;intro i hi j hj;have:j=0:=by simp[AO] at hj;omega
 subst this;simp[AL,AO,A8]
theorem Be{w:World}{base:Nat}{v:Value}{zs:List Int}(h:A6 AO w base v zs):∃a cap,v=.slice a zs.length cap/\(0<zs.length->∃g N f,a=some ⟨g,0,none⟩/\base<=g/\w.rowIs g 46 N f/\zs.length<=N/\∀i,i<zs.length->f i=.int .u64 (zs.getD i 0)):=by
 obtain⟨a,c,e,ha⟩:=h.form;refine⟨a,c,e,fun h0=>?_⟩;obtain⟨g,N,f,p,q,r,s,t⟩:=ha h0;refine⟨g,N,f,p,q,r,by simpa [AO] using s,fun i hi=>?_⟩;have:=t i hi 0 (by decide);simpa [AL,AO,A8] using this
theorem Ix(v u:Value)(bv bu:Nat)(zs:List Int)(w:World)(hn:zs.length<=1048576)(hv:A6 AO w bv v zs)(hu:A6 AO w bu u zs):Calls prog 107 #[v,u] w fun e w'=>e=.returned (.bool true)/\Below w.heap.size w w':=by
 obtain⟨a,c,rfl,ha⟩:=Be hv;obtain⟨b,d,rfl,hb⟩:=Be hu;clear hv hu;go_enter func107,ntmps107
 go_wp2
 go_loopw [5] (fun i wr=>∃k:Nat,k<=zs.length/\i=.int .i64 k/\Below w.heap.size w wr) (fun i _=>zs.length-(intOf i).toNat)
 case atStart=>exact⟨0,Nat.zero_le _,rfl,Below.refl _ _⟩
 case round =>
  obtain⟨k,hk,rfl,hbl⟩:=hrel;by_cases hlt:k<zs.length
  ·obtain⟨g,N,f,rfl,_,hr,hN,hf⟩:=ha (by omega);obtain⟨h,M,f',rfl,_,hr',hM,hf'⟩:=hb (by omega);have hr1:wr.rowIs g 46 N f:=hr.of_block (hbl.block g hr.lt);have hr2:wr.rowIs h 46 M f':=hr'.of_block (hbl.block h hr'.lt);have c1:=hr1.cell (i:=k) (by omega);have c2:=hr2.cell (i:=k) (by omega);rw[hf k hlt] at c1;rw[hf' k hlt] at c2;generalize zs.getD k 0=Z at *;(have L1:(0:Int)<=(k:Int):=by omega);(have L2:(k:Int)<(zs.length:Int):=by omega);have HB:Hid (Below _ _ _):=hbl;clear ha hb hr hr' hr1 hr2 hf hf' hbl;(go_wp2);(go_quiet (fail));(go_wp2);go_roundw;(case rel=>exact⟨k+1,by omega,by go_num,AS HB.out _⟩);case measure=>simp[intOf];omega
  ·(go_wp2);go_ret;exact⟨rfl,hbl⟩
theorem Id(v u:Value)(bv bu:Nat)(zs:List Int)(w:World)(hn:zs.length<=1048576)(hv:A6 AO w bv v zs)(hu:A6 AO w bu u zs):Calls prog 54 #[.agg #[v],.agg #[u]] w fun e w'=>e=.returned (.bool true)/\Below w.heap.size w w':=by
 have he:=fun wX (hX:Below w.heap.size w wX)=>Ix v u bv bu zs wX hn (hv.below hX) (hu.below hX)
 obtain⟨a,c,rfl,_⟩:=Be hv;obtain⟨b,d,rfl,_⟩:=Be hu;have HE:Hid _:=he;clear he;go_enter func54,ntmps54
 go_wp2_with fail
 refine(HE.out _ ?_).mono ?_
 ·exact((Below.refl _ _).alloc (Nat.le_refl _) _).alloc (by simp) _
 rintro e w1 ⟨rfl,hb⟩;go_wp2
 go_ret;exact⟨rfl,(((Below.refl _ _).alloc (Nat.le_refl _) _).alloc (by simp) _).trans (hb.mono (by simp<;>omega))⟩
def CL (s:Int) (i _j:Nat):Value:=.int .u64 (s+i)
theorem IF(v:Value)(bv:Nat)(zs:List Int)(s:Int)(w:World)(hs0:0<=s)(hs1:s<=100000000)(hn:zs.length<=1048576)(hv:A6 AO w bv v zs):Calls prog 111 #[v,.int .i64 s] w fun e w'=>e=.returned (.int .i64 (s+zs.length))/\Bu AO w' v zs.length (CL s)/\w.grownBy w' v.ownBlock:=by
 obtain⟨a,c,rfl,ha⟩:=Be hv;by_cases h0:zs.length=0
 ·rw[h0];clear ha hv;go_enter func111,ntmps111
  go_wp2
  go_loopw [1,5] (fun m i wr=>i=.int .i64 0/\m=.int .i64 s/\wr=w) (fun _ i _=>0)
  case atStart=>exact⟨rfl,rfl,rfl⟩
  case round =>
   obtain⟨rfl,rfl,rfl⟩:=hrel;(go_wp2);go_ret;exact⟨by simp,⟨a,c,rfl,fun h=>absurd h (by omega)⟩,World.grownBy.refl _ _⟩
 ·obtain⟨g,N,f,rfl,_,hr,hN,hf⟩:=ha (by omega);clear ha hf hv;go_enter func111,ntmps111
  go_wp2
  go_loopw [1,5] (fun m i wr=>∃k:Nat,k<=zs.length/\i=.int .i64 k/\m=.int .i64 (s+k)/\(∃f,wr.rowIs g 46 N f/\∀i,i<k->f i=.int .u64 (s+i))/\w.grownBy wr (some g)) (fun _ i _=>zs.length-(intOf i).toNat)
  case atStart=>exact⟨0,Nat.zero_le _,rfl,by simp,⟨_,hr,fun i hi=>absurd hi (by omega)⟩,World.grownBy.refl _ _⟩
  case round =>
   obtain⟨k,hk,rfl,rfl,⟨f,hrow,hf⟩,hb⟩:=hrel;by_cases hlt:k<zs.length
   ·have HF:Hid _:=hf;have HROW:Hid (wr.rowIs g _ N f):=hrow;have HB:Hid (w.grownBy wr _):=hb;have f0:=hrow.frozen k;have o0:=hrow.cell (i:=k) (by omega);generalize f k=u100 at o0;(have L1:(0:Int)<=(k:Int):=by omega);(have L2:(k:Int)<(zs.length:Int):=by omega);clear hf hrow hb hr;(go_wp2);go_roundw;case rel =>
     refine⟨k+1,by omega,by go_num,by go_num,⟨_,HROW.out.set k _,?_⟩,AN HB.out _ _⟩;intro i hi;by_cases e:i=k
     ·subst e;simp
     ·rw[if_neg e];exact HF.out i (by omega)
    case measure=>simp[intOf];omega
   ·(have e:k=zs.length:=by omega);subst e;(go_wp2);go_ret;refine⟨rfl,⟨_,c,rfl,fun _=>⟨g,N,f,rfl,hrow,by simpa [AO] using hN,fun i hi j hj=>?_⟩⟩,hb⟩;(have:j=0:=by simp[AO] at hj;omega);subst this;simpa [AO,CL] using hf i hi
theorem IE(v:Value)(bv:Nat)(zs:List Int)(s:Int)(w:World)(hs0:0<=s)(hs1:s<=100000000)(hn:zs.length<=1048576)(hv:A6 AO w bv v zs):Calls prog 58 #[.agg #[v],.int .i64 s] w fun e w'=>e=.returned (.int .i64 (s+zs.length))/\Bu AO w' v zs.length (CL s)/\w.grownBy w' v.ownBlock:=by
 have he:=fun wX (hX:Below w.heap.size w wX)=>IF v bv zs s wX hs0 hs1 hn (hv.below hX)
 obtain⟨a,c,rfl,_⟩:=Be hv;have HE:Hid _:=he;clear he;go_enter func58,ntmps58
 go_wp2_with fail
 refine(HE.out _ ?_).mono ?_
 ·exact(Below.refl _ _).alloc (Nat.le_refl _) _
 rintro e w1 ⟨rfl,hh,hb⟩;have HH:Hid (Bu _ _ _ _ _):=hh;clear hh;go_wp2
 go_ret;refine⟨rfl,HH.out,hb.os,hb.tape,hb.output,?_,fun j hj hne=>?_⟩
 ·have:=hb.size;simp at this;omega
 ·exact(hb.block j (by simp;omega) hne).trans (Below.heap_alloc _ _ _ hj)
theorem IH(v:Value)(n:Nat)(s:Int)(w:World)(hs0:0<=s)(hs1:s<=100000000)(hn:n<=1048576)(hv:Bu AO w v n (CL s)):Calls prog 112 #[v,.int .i64 s] w fun e w'=>e=.returned (.int .i64 (s+n))/\Below w.heap.size w w':=by
 obtain⟨a,c,rfl,ha⟩:=hv;go_enter func112,ntmps112
 go_wp2
 go_loopw [1,5] (fun m i wr=>∃k:Nat,k<=n/\i=.int .i64 k/\m=.int .i64 (s+k)/\Below w.heap.size w wr) (fun _ i _=>n-(intOf i).toNat)
 case atStart=>exact⟨0,Nat.zero_le _,rfl,by simp,Below.refl _ _⟩
 case round =>
  obtain⟨k,hk,rfl,rfl,hb⟩:=hrel;by_cases hlt:k<n
  ·obtain⟨g,N,f,rfl,hr,hN,hf⟩:=ha (by omega);(have hN':n<=N:=by simpa [AO] using hN);have hr1:wr.rowIs g 46 N f:=hr.of_block (hb.block g hr.lt);have c0:=hr1.cell (i:=k) (by omega);(have e0:f k=.int .u64 (s+k):=by simpa [AO,CL] using hf k hlt 0 (by decide));rw[e0] at c0;(have L1:(0:Int)<=(k:Int):=by omega);(have L2:(k:Int)<(n:Int):=by omega);clear hf ha hr hr1 hN e0;(go_wp2);go_roundw;(case rel=>exact⟨k+1,by omega,by go_num,by go_num,hb⟩);case measure=>simp[intOf];omega
  ·(have e:k=n:=by omega);subst e;(go_wp2);go_ret;exact⟨rfl,hb⟩
theorem I5(v:Value)(n:Nat)(s:Int)(w:World)(hs0:0<=s)(hs1:s<=100000000)(hn:n<=1048576)(hv:Bu AO w v n (CL s)):Calls prog 62 #[.agg #[v],.int .i64 s] w fun e w'=>e=.returned (.int .i64 (s+n))/\Below w.heap.size w w':=by
 have he:=fun wX (hX:Below w.heap.size w wX)=>IH v n s wX hs0 hs1 hn (hv.below hX)
 obtain⟨a,c,rfl,_⟩:=hv;have HE:Hid _:=he;clear he;go_enter func62,ntmps62
 go_wp2_with fail
 refine(HE.out _ ?_).mono ?_
 ·exact(Below.refl _ _).alloc (Nat.le_refl _) _
 rintro e w1 ⟨rfl,hb⟩;go_wp2
 go_ret;exact⟨rfl,((Below.refl _ _).alloc (Nat.le_refl _) _).trans (hb.mono (by simp))⟩
structure BJ where
 addr:Int
 word:Int
def AA:DL BJ:=⟨110,2,fun x=>[.int .i64 x.addr,.int .u64 x.word],⟨0,0⟩,by omega,fun _=>rfl⟩
theorem Da:(prog.info? 110).map (fun i=>(i.zero,i.size,i.bytes))=some (some (.agg #[.int .i64 0,.int .u64 0]),2,16):=by kernel_rfl
theorem Ic(a:Option Addr)(n cap:Nat)(left:Int)(h1:n<=9223372036854775807)(h0:0<=left)(h2:left<=1048576)(w:World):Calls prog 31 #[.slice a n cap,.int .i64 left] w fun e w'=>e=.returned (.int .i64 (if (n:Int)<=left then left-n else -1))/\w'=w:=by
 by_cases h:(n:Int)<=left
 ·rw[if_pos h];go_enter func31,ntmps31
  go_wp2
  go_ret;exact⟨rfl,rfl⟩
 ·rw[if_neg h];go_enter func31,ntmps31
  go_wp2
  go_ret;exact⟨rfl,rfl⟩
theorem Iq(A:Int)(B:Int)(w:World):Calls prog 94 #[.agg #[.int .i64 A,.int .u64 B]] w fun e w'=>e=.returned (.agg #[.int .i64 A,.int .u64 B])/\Below w.heap.size w w':=by
 go_enter func94,ntmps94
 go_wp2
 refine bodyPost_ret (v:=.agg #[.int .i64 A,.int .u64 B]) (by simp[results,results94,go_sem]) rfl ⟨rfl,?_⟩;repeat (first|exact Below.refl _ _|(refine Below.alloc ?_ (by simp<;>omega) _)|(refine Below.setCell ?_ (by simp<;>omega) _))
theorem IC(A:Int)(B:Int)(w:World):Calls prog 108 #[.agg #[.int .i64 A,.int .u64 B],.agg #[.int .i64 A,.int .u64 B]] w fun e w'=>e=.returned (.bool true)/\Below w.heap.size w w':=by
 go_enter func108,ntmps108
 go_wp2
 go_ret;exact⟨rfl,((Below.refl _ _).alloc (Nat.le_refl _) _).alloc (by simp) _⟩
theorem Gd(v u:Value)(bv bu:Nat)(xs:List BJ)(w:World)(hn:xs.length<=1048576)(hv:A6 AA w bv v xs)(hu:A6 AA w bu u xs):Calls prog 55 #[v,u] w fun e w'=>e=.returned (.bool true)/\Below w.heap.size w w':=by
 obtain⟨a,c,rfl,ha⟩:=hv.form;obtain⟨b,d,rfl,hb⟩:=hu.form;clear hv hu;go_enter func55,ntmps55
 go_wp2
 go_loopw [5] (fun i wr=>∃k:Nat,k<=xs.length/\i=.int .i64 k/\Below w.heap.size w wr) (fun i _=>xs.length-(intOf i).toNat)
 case atStart=>exact⟨0,Nat.zero_le _,rfl,Below.refl _ _⟩
 case round =>
  obtain⟨k,hk,rfl,hbl⟩:=hrel;by_cases hlt:k<xs.length
  ·obtain⟨g,N,f,rfl,_,hr,hN,hf⟩:=ha (by omega);obtain⟨h,M,f',rfl,_,hr',hM,hf'⟩:=hb (by omega);have hN':xs.length*2<=N:=hN;have hM':xs.length*2<=M:=hM;have hr1:wr.rowIs g 110 N f:=hr.of_block (hbl.block g hr.lt);have hr2:wr.rowIs h 110 M f':=hr'.of_block (hbl.block h hr'.lt);have q0:=hr1.cell (i:=k*2) (by omega);have q1:=hr1.cell (i:=k*2+1) (by omega);have r0:=hr2.cell (i:=k*2) (by omega);have r1:=hr2.cell (i:=k*2+1) (by omega);rw[show f (k*2)=_ from hf k hlt 0 (by decide)] at q0;rw[show f (k*2+1)=_ from hf k hlt 1 (by decide)] at q1;rw[show f' (k*2)=_ from hf' k hlt 0 (by decide)] at r0;rw[show f' (k*2+1)=_ from hf' k hlt 1 (by decide)] at r1;have n1:=hr1.lt;have n2:=hr2.lt;have HB:Hid (Below w.heap.size w wr):=hbl;clear hf hf' ha hb hr hr' hr1 hr2 hbl hN hM;have c0:wr.cell? ⟨g,k*2,none⟩=some (.int .i64 (A8 AA xs k).addr):=q0;have d0:wr.cell? ⟨h,k*2,none⟩=some (.int .i64 (A8 AA xs k).addr):=r0;have c1:wr.cell? ⟨g,k*2+1,none⟩=some (.int .u64 (A8 AA xs k).word):=q1;have d1:wr.cell? ⟨h,k*2+1,none⟩=some (.int .u64 (A8 AA xs k).word):=r1;clear q0 r0 q1 r1;generalize (A8 AA xs k).addr=A at *;generalize (A8 AA xs k).word=B at *;(have L1:(0:Int)<=(k:Int):=by omega);(have L2:(k:Int)<(xs.length:Int):=by omega);have he:=IC A B;have HK:Hid (∀w',Below wr.heap.size wr w'->w'.cell? ⟨g,k*2,none⟩=some (.int .i64 A)/\w'.cell? ⟨g,k*2+1,none⟩=some (.int .u64 B)/\w'.cell? ⟨h,k*2,none⟩=some (.int .i64 A)/\w'.cell? ⟨h,k*2+1,none⟩=some (.int .u64 B)) :=
    fun w' hX=>⟨(hX.cell n1).trans c0,(hX.cell n1).trans c1,(hX.cell n2).trans d0,(hX.cell n2).trans d1⟩
   (go_wp2);go_region_held3 (fun w'=>w'.cell? ⟨g,k*2,none⟩=some (.int .i64 A)/\w'.cell? ⟨g,k*2+1,none⟩=some (.int .u64 B)/\w'.cell? ⟨h,k*2,none⟩=some (.int .i64 A)/\w'.cell? ⟨h,k*2+1,none⟩=some (.int .u64 B))
    ((refine HK.out _ ?_;repeat (first|exact Below.refl _ _|with_reducible refine Below.drew ?_|refine Below.trans ?_ (hb1.mono (by first|omega|(simp<;>omega))))))
    (first|(go_at_call 108;refine(he _).mono ?_;rintro e w1 ⟨rfl,hb1⟩))
   (go_wp2);go_roundw;(case rel=>exact⟨k+1,by omega,by go_num,HB.out.trans ((Below.refl _ _).drew.trans (hb1.mono HB.out.size))⟩);case measure=>simp[intOf];omega
  ·(go_wp2);go_ret;exact⟨rfl,hbl⟩
theorem IB(v:Value)(xs:List BJ)(w:World)(hv:EX AA w v xs)(hn:xs.length<=1048576):Calls prog 44 #[v] w fun e w'=>e=.returned (.slice (some ⟨w.heap.size,0,none⟩) xs.length xs.length)/\A6 AA w' w.heap.size (.slice (some ⟨w.heap.size,0,none⟩) xs.length xs.length) xs/\Below w.heap.size w w':=by
 obtain⟨a,cap,rfl,ha⟩:=hv;obtain⟨i0,hi,hz0,hz1,hz2⟩:=info_parts Da;go_enter func44,ntmps44
 go_wp2_with (refine wpList_make_full _ rfl (.tmp 6) (.tmp 6) 32 rfl w.heap.size 110 i0 _ 2 underlying32 hi hz0 hz1 .i64 .i64 _ _ xs.length rfl rfl rfl rfl (by rw[hz2];omega) (by unfold maxLen;omega) (Nat.le_refl _) ?_;intro wm hom hgm)
 have hbm:Below w.heap.size w wm:=⟨hgm.os,hgm.tape,hgm.output,hgm.size,fun k hk=>hgm.block k hk (by simp)⟩;obtain⟨f0,hr0⟩:=Cs hom;clear hom hgm;go_loopw [4] (fun i wr=>∃k:Nat,k<=xs.length/\i=.int .i64 k/\(∃f,wr.rowIs w.heap.size 110 (xs.length*2) f/\∀i,i<k->∀j,j<2->f (i*2+j)=AL AA xs i j)/\Below w.heap.size w wr) (fun i _=>xs.length-(intOf i).toNat)
 case atStart=>exact⟨0,Nat.zero_le _,rfl,⟨f0,hr0,fun i hi=>absurd hi (by omega)⟩,hbm⟩
 case round =>
  obtain⟨k,hk,rfl,⟨f,hrow,hf⟩,hb⟩:=hrel;by_cases hlt:k<xs.length
  ·obtain⟨b,o,rfl,hbl,hc⟩:=ha (by omega);have c0:wr.cell? ⟨b,o+k*2,none⟩=some (.int .i64 (A8 AA xs k).addr):=(hb.cell hbl).trans (hc k hlt 0 (by decide));have c1:wr.cell? ⟨b,o+k*2+1,none⟩=some (.int .u64 (A8 AA xs k).word):=(hb.cell hbl).trans (hc k hlt 1 (by decide));have E0:AL AA xs k 0=.int .i64 (A8 AA xs k).addr:=rfl;have E1:AL AA xs k 1=.int .u64 (A8 AA xs k).word:=rfl;generalize (A8 AA xs k).addr=A at *;generalize (A8 AA xs k).word=B at *;(have L1:(0:Int)<=(k:Int):=by omega);(have L2:(k:Int)<(xs.length:Int):=by omega);have HF:Hid _:=hf;have HROW:Hid (wr.rowIs w.heap.size _ _ f):=hrow;have HB:Hid (Below _ _ _):=hb;have hrl:=hrow.lt;have HE0:Hid _:=E0;have HE1:Hid _:=E1;clear hc ha hf hrow hb E0 E1 hbm hr0;(go_wp2_with fail);refine(Iq A B wr).mono ?_;rintro e w1 ⟨rfl,hb1⟩;have hrow1:w1.rowIs w.heap.size 110 (xs.length*2) f:=HROW.out.of_block (hb1.block _ hrl);have f0:=hrow1.frozen (k*2);have o0:=hrow1.cell (i:=k*2) (by omega);have f1:=hrow1.frozen (k*2+1);have o1:=hrow1.cell (i:=k*2+1) (by omega);generalize f (k*2)=u100 at o0;generalize f (k*2+1)=u101 at o1;have HR1:Hid (w1.rowIs w.heap.size _ _ f):=hrow1;have HB1:Hid (Below _ _ _):=hb1;clear hrow1 hb1 c0 c1;(go_wp2_with fail);go_roundw;case rel =>
    refine⟨k+1,by omega,by go_num,⟨_,(HR1.out.set (k*2) _).set (k*2+1) _,?_⟩,?_⟩
    ·intro i hi j hj;by_cases e:i=k
     ·subst e;rcases(show j=0\/j=1 by omega) with rfl|rfl
      ·rw[HE0.out];simp
      ·rw[HE1.out];simp
     ·(have hik:i<k:=by omega);rw[<- HF.out i hik j hj];rw[if_neg (by omega)];rw[if_neg (by omega)]
    ·exact(((HB.out.trans (HB1.out.mono (by omega))).setCell (Nat.le_refl _) _).setCell (Nat.le_refl _) _)
   case measure=>simp[intOf];omega
  ·(have e:k=xs.length:=by omega);subst e;clear ha;(go_wp2_with fail);go_ret;exact⟨rfl,A6.of_row rfl (Nat.le_refl _) hrow rfl (Nat.le_refl _) (by unfold maxLen;omega) hf,hb⟩
def CU (s:Int) (i j:Nat):Value :=
 match j with
 | 0=>.int .i64 (s+i*2)
 | 1=>.int .u64 (s+i*2+1)
 | _=>.bool false
theorem G4(v:Value)(bv:Nat)(xs:List BJ)(s:Int)(w:World)(hs0:0<=s)(hs1:s<=100000000)(hn:xs.length<=1048576)(hv:A6 AA w bv v xs):Calls prog 59 #[v,.int .i64 s] w fun e w'=>e=.returned (.int .i64 (s+xs.length*2))/\Bu AA w' v xs.length (CU s)/\w.grownBy w' v.ownBlock:=by
 obtain⟨a,c,rfl,ha⟩:=hv.form;by_cases h0:xs.length=0
 ·rw[h0];clear ha hv;go_enter func59,ntmps59
  go_wp2
  go_loopw [1,5] (fun m i wr=>i=.int .i64 0/\m=.int .i64 s/\wr=w) (fun _ i _=>0)
  case atStart=>exact⟨rfl,rfl,rfl⟩
  case round =>
   obtain⟨rfl,rfl,rfl⟩:=hrel;(go_wp2);go_ret;exact⟨by simp,⟨a,c,rfl,fun h=>absurd h (by omega)⟩,World.grownBy.refl _ _⟩
 ·obtain⟨g,N,f,rfl,_,hr,hN,hf⟩:=ha (by omega);have hN':xs.length*2<=N:=hN;clear ha hf hv hN;go_enter func59,ntmps59
  go_wp2
  go_loopw [1,5] (fun m i wr=>∃k:Nat,k<=xs.length/\i=.int .i64 k/\m=.int .i64 (s+k*2)/\(∃f,wr.rowIs g 110 N f/\∀i,i<k->∀j,j<2->f (i*2+j)=CU s i j)/\w.grownBy wr (some g)) (fun _ i _=>xs.length-(intOf i).toNat)
  case atStart=>exact⟨0,Nat.zero_le _,rfl,by simp,⟨_,hr,fun i hi=>absurd hi (by omega)⟩,World.grownBy.refl _ _⟩
  case round =>
   obtain⟨k,hk,rfl,rfl,⟨f,hrow,hf⟩,hb⟩:=hrel;by_cases hlt:k<xs.length
   ·have HF:Hid _:=hf;have HROW:Hid (wr.rowIs g _ N f):=hrow;have HB:Hid (w.grownBy wr _):=hb;have f0:=hrow.frozen (k*2);have o0:=hrow.cell (i:=k*2) (by omega);have f1:=hrow.frozen (k*2+1);have o1:=hrow.cell (i:=k*2+1) (by omega);generalize f (k*2)=u100 at o0;generalize f (k*2+1)=u101 at o1;(have L1:(0:Int)<=(k:Int):=by omega);(have L2:(k:Int)<(xs.length:Int):=by omega);clear hf hrow hb hr;(go_wp2);go_roundw;case rel =>
     refine⟨k+1,by omega,by go_num,by go_num,⟨_,(HROW.out.set (k*2) _).set (k*2+1) _,?_⟩,AN (AN (HB.out) _ _) _ _⟩;intro i hi j hj;by_cases e:i=k
     ·subst e;rcases(show j=0\/j=1 by omega) with rfl|rfl
      ·simp[CU]
      ·simp[CU]
     ·(have hik:i<k:=by omega);rw[<- HF.out i hik j hj];rw[if_neg (by omega)];rw[if_neg (by omega)]
    case measure=>simp[intOf];omega
   ·(have e:k=xs.length:=by omega);subst e;(go_wp2);go_ret;exact⟨rfl,⟨_,c,rfl,fun _=>⟨g,N,f,rfl,hrow,hN',hf⟩⟩,hb⟩
theorem G9(v:Value)(n:Nat)(s:Int)(w:World)(hs0:0<=s)(hs1:s<=100000000)(hn:n<=1048576)(hv:Bu AA w v n (CU s)):Calls prog 63 #[v,.int .i64 s] w fun e w'=>e=.returned (.int .i64 (s+n*2))/\Below w.heap.size w w':=by
 obtain⟨a,c,rfl,ha⟩:=hv;go_enter func63,ntmps63
 go_wp2
 go_loopw [1,5] (fun m i wr=>∃k:Nat,k<=n/\i=.int .i64 k/\m=.int .i64 (s+k*2)/\Below w.heap.size w wr) (fun _ i _=>n-(intOf i).toNat)
 case atStart=>exact⟨0,Nat.zero_le _,rfl,by simp,Below.refl _ _⟩
 case round =>
  obtain⟨k,hk,rfl,rfl,hb⟩:=hrel;by_cases hlt:k<n
  ·obtain⟨g,N,f,rfl,hr,hN,hf⟩:=ha (by omega);have hN':n*2<=N:=hN;have hr1:wr.rowIs g 110 N f:=hr.of_block (hb.block g hr.lt);have q0:=hr1.cell (i:=k*2) (by omega);have q1:=hr1.cell (i:=k*2+1) (by omega);rw[show f (k*2)=_ from hf k hlt 0 (by decide)] at q0;rw[show f (k*2+1)=_ from hf k hlt 1 (by decide)] at q1;have c0:wr.cell? ⟨g,k*2,none⟩=some (.int .i64 (s+k*2)):=q0;have c1:wr.cell? ⟨g,k*2+1,none⟩=some (.int .u64 (s+k*2+1)):=q1;clear q0 q1;(have L1:(0:Int)<=(k:Int):=by omega);(have L2:(k:Int)<(n:Int):=by omega);clear hf ha hr hr1 hN;(go_wp2);go_roundw;(case rel=>exact⟨k+1,by omega,by go_num,by go_num,hb⟩);case measure=>simp[intOf];omega
  ·(have e:k=n:=by omega);subst e;(go_wp2);go_ret;exact⟨rfl,hb⟩
end
end Go.Proofs.YtnmhkgmmpkjjeabGreat
