import Derived.Test.YtnmhkgmmpkjjeaaGreatM10
import Derived.Shelf.Slices.Delete
import Derived.Shelf.Spec.SlicesInsert
import Derived.Shelf.Spec.SlicesInsertGrow
import Derived.Lib.OwnBridge
namespace Go.Proofs.YtnmhkgmmpkjjeaaGreat
open ChangeShapes WideShapes ChangeAt RowKit Shelf Proofs.Tryz
set_option linter.all false
set_option maxRecDepth 100000
set_option maxHeartbeats 4000000
def TE:Go.Shelf.Ren:=⟨fun|23=>183|n=>n,fun|22=>91|3=>3|4=>4|0=>0|n=>n,fun|n=>n⟩
theorem Zg:Go.Proofs.Lays2.n23 prog TE:={
 mixed:=by kernel_rfl
 f23:=func183.trans (congrArg some (by kernel_rfl))
 t0:=underlying0
 a0:=Tryz.isAgg0
 z0:=Tryz.sizeOf0
 v0:=Tryz.zeroValue0
 t3:=underlying3
 a3:=Tryz.isAgg3
 z3:=Tryz.sizeOf3
 v3:=Tryz.zeroValue3
 t4:=underlying4
 a4:=Tryz.isAgg4
 z4:=Tryz.sizeOf4
 v4:=Tryz.zeroValue4
 t22:=underlying91
 a22:=Tryz.isAgg91
 z22:=Tryz.sizeOf91
 v22:=Tryz.zeroValue91
 i3:=by kernel_rfl }
def JX:Go.Shelf.Ren:=⟨fun|21=>182|27=>224|28=>225|35=>239|39=>260|n=>n,fun|22=>91|3=>3|4=>4|0=>0|n=>n,fun|n=>n⟩
theorem RZ:Go.Proofs.Lays2.n21 prog JX:={
 mixed:=by kernel_rfl
 f21:=func182.trans (congrArg some (by kernel_rfl))
 f27:=func224.trans (congrArg some (by kernel_rfl))
 f28:=func225.trans (congrArg some (by kernel_rfl))
 f35:=func239.trans (congrArg some (by kernel_rfl))
 f39:=func260.trans (congrArg some (by kernel_rfl))
 t0:=underlying0
 a0:=Tryz.isAgg0
 z0:=Tryz.sizeOf0
 v0:=Tryz.zeroValue0
 t3:=underlying3
 a3:=Tryz.isAgg3
 z3:=Tryz.sizeOf3
 v3:=Tryz.zeroValue3
 t4:=underlying4
 a4:=Tryz.isAgg4
 z4:=Tryz.sizeOf4
 v4:=Tryz.zeroValue4
 t22:=underlying91
 a22:=Tryz.isAgg91
 z22:=Tryz.sizeOf91
 v22:=Tryz.zeroValue91
 i3:=by kernel_rfl }
theorem EH{b:Nat}{t:TypeId}{n:Nat}:∀(vs:List Value) (o:Nat) (w:World) (f:Nat->Value),w.rowIs b t n f->(w.setCells b o vs).rowIs b t n (fun j=>if o<=j/\j<o+vs.length then vs.getD (j-o) (.bool false) else f j)
 | [],o,w,f,h=>by
  refine h.congr (fun i hi=>?_);rw[if_neg (by simp only[List.length_nil];omega)]
 | v :: r,o,w,f,h=>by
  rw[World.setCells];refine(EH r (o+1) _ _ (h.set o v)).congr (fun i hi=>?_);by_cases h1:o+1<=i/\i<o+1+r.length
  ·rw[if_pos h1,if_pos (by simp;omega)];(obtain⟨d,hd⟩:∃d,i-o=d+1:=⟨i-o-1,by omega⟩);rw[hd,show i-(o+1)=d by omega];simp
  ·rw[if_neg h1];by_cases h2:i=o
   ·rw[if_pos h2,if_pos (by simp;omega),h2];simp
   ·rw[if_neg h2,if_neg (by simp;omega)]
theorem EB(b:Nat):∀(vs:List Value) (o:Nat) (w:World),w.grownBy (w.setCells b o vs) (some b)
 | [],o,w=>⟨rfl,rfl,rfl,Nat.le_refl _,fun _ _ _=>rfl⟩
 | v :: r,o,w=>by
  rw[World.setCells];have h:=EB b r (o+1) (w.setCell ⟨b,o,none⟩ v);refine⟨h.os,h.tape,h.output,by have:=h.size;simpa using this,fun k hk hn=>?_⟩;rw[h.block k (by simpa using hk) hn];exact Below.heap_setCell _ _ _ _ (fun e=>hn (by simpa using e))
theorem DV{a b c:World}{row:Option Nat}(h:a.grownBy b row)(k:b.grownBy c row):a.grownBy c row :=
 ⟨k.os.trans h.os,k.tape.trans h.tape,k.output.trans h.output,Nat.le_trans h.size k.size,fun i hi hn=>(k.block i (Nat.lt_of_lt_of_le hi h.size) hn).trans (h.block i hi hn)⟩
theorem KI{w w' w2:World}{k:Nat}{row:Option Nat}(h:w.grownBy w' row)(h2:w'.grownBy w2 (some k))(hk:w.heap.size<=k):w.grownBy w2 row :=
 ⟨h2.os.trans h.os,h2.tape.trans h.tape,h2.output.trans h.output,Nat.le_trans h.size h2.size,fun i hi hn=>(h2.block i (Nat.lt_of_lt_of_le hi h.size) (fun e=>by simp only[Option.some.injEq] at e;omega)).trans (h.block i hi hn)⟩
theorem EX(w:World)(row:Option Nat):w.grownBy w.drew row:=⟨rfl,rfl,rfl,Nat.le_refl _,fun _ _ _=>rfl⟩
theorem Iz(w:World)(o:Obj)(row:Option Nat):w.grownBy (w.alloc o) row :=
 ⟨rfl,rfl,rfl,by simp,fun k hk _=>Below.heap_alloc w o _ hk⟩
theorem Hh{w:World}{B g c n:Nat}{xs:List Int}(h:A8 Ae w B (.slice (some ⟨g,0,none⟩) n c) xs):B<=g/\xs.length<=c/\c<=maxLen/\∃f,w.rowIs g 3 c f/\∀i,i<xs.length->f i=.int .i64 (AQ Ae xs i):=by
 rcases h.2 with⟨e,_⟩|⟨g',cap',cur,e,hb,hg,h1,h2,h3,h4⟩
 ·cases e
 ·simp only[Value.slice.injEq,Option.some.injEq,Addr.mk.injEq] at e;obtain⟨⟨rfl,_⟩,hn,rfl⟩:=e;have h3':cur.size=c:=by rw[h3];exact Nat.mul_one _
  refine⟨hb,h1,h2,fun i=>cur.getD i (.bool false),⟨cur,hg,h3',fun i hi=>?_⟩,fun i hi=>?_⟩
  ·rw[Array.getElem?_eq_getElem (by rw[h3'];exact hi)];simp[Array.getD_eq_getD_getElem?,Array.getElem?_eq_getElem (show i<cur.size by rw[h3'];exact hi)]
  ·have hu:=F4 Ae xs i hi 0 (by decide);(have e0:i*Ae.sz+0=i:=by show i*1+0=i;omega);(have e1:i<xs.length*Ae.sz:=by show i<xs.length*1;omega);rw[e0,<- h4,List.getElem?_take,if_pos e1,Array.getElem?_toList] at hu;have e2:(Ae.enc (AQ Ae xs i))[0]?=some (.int .i64 (AQ Ae xs i)):=rfl;rw[e2] at hu;simp[Array.getD_eq_getD_getElem?,hu]
def FI (xs:List Int) (i:Nat) (e:Int):List Int:=xs.take i++e :: xs.drop i
theorem Ib(xs:List Int)(i:Nat)(e:Int)(hi:i<=xs.length):(FI xs i e).length=xs.length+1:=by
 unfold FI;rw[List.length_append,List.length_cons,List.length_take,List.length_drop];omega
theorem OD(xs:List Int)(i:Nat)(e:Int)(hi:i<=xs.length)(t:Nat):AQ Ae (FI xs i e) t=if t<i then AQ Ae xs t else if t=i then e else AQ Ae xs (t-1):=by
 unfold AQ FI;simp only[List.getD_eq_getElem?_getD];by_cases h:t<i
 ·rw[if_pos h,List.getElem?_append_left (by rw[List.length_take];omega),List.getElem?_take,if_pos h]
 ·rw[if_neg h,List.getElem?_append_right (by rw[List.length_take];omega),List.length_take,show min i xs.length=i by omega];by_cases h2:t=i
  ·rw[if_pos h2,h2,Nat.sub_self];rfl
  ·rw[if_neg h2];(obtain⟨d,hd⟩:∃d,t=i+1+d:=⟨t-i-1,by omega⟩);rw[hd,show i+1+d-i=d+1 by omega,show i+1+d-1=i+d by omega,List.getElem?_cons_succ,List.getElem?_drop]
theorem Nu(xs:List Int)(j:Nat):(xs.map (Value.int .i64)).getD j (.bool false)=if j<xs.length then .int .i64 (AQ Ae xs j) else .bool false:=by
 rw[List.getD_eq_getElem?_getD,List.getElem?_map];by_cases h:j<xs.length
 ·rw[if_pos h];unfold AQ;rw[List.getD_eq_getElem?_getD,List.getElem?_eq_getElem h];rfl
 ·rw[if_neg h,List.getElem?_eq_none (by omega)];rfl
theorem Ox(xs:List Int)(i j:Nat):((xs.map (Value.int .i64)).drop i).getD j (.bool false)=if i+j<xs.length then .int .i64 (AQ Ae xs (i+j)) else .bool false:=by
 rw[<- Nu,List.getD_eq_getElem?_getD,List.getD_eq_getElem?_getD,List.getElem?_drop]
theorem ZX(xs:List Int):∀v∈xs.map (Value.int .i64),v.oneCell'=true:=by
 intro v hv;obtain⟨x,_,rfl⟩:=List.mem_map.1 hv;rfl
theorem XG(e:Int):∀v∈[Value.int .i64 e],v.oneCell'=true:=by
 intro v hv;rw[List.mem_singleton] at hv;subst hv;rfl
theorem Ik{w:World}{vb:Nat}{e:Int}(hv:w.heap[vb]?=some (.cells #[.int .i64 e] 3)):∀(j:Nat) (v:Value),[Value.int .i64 e][j]?=some v->w.cell? ⟨vb,0+j,none⟩=some v:=by
 intro j v h;have hj:j=0:=by
  have:=(List.getElem?_eq_some_iff.1 h).1;simpa using this
 subst hj;simp at h;subst h;simp[World.cell?,hv]
theorem Lk{w:World}{g c:Nat}{xs:List Int}{f:Nat->Value}(hr:w.rowIs g 3 c f)(hf:∀i,i<xs.length->f i=.int .i64 (AQ Ae xs i))(hc:xs.length<=c):∀(j:Nat) (v:Value),(xs.map (Value.int .i64))[j]?=some v->w.cell? ⟨g,0+j,none⟩=some v:=by
 intro j v h;have hj:j<xs.length:=by
  have:=(List.getElem?_eq_some_iff.1 h).1;simpa using this
 have h2:=Nu xs j;rw[List.getD_eq_getElem?_getD,h,if_pos hj] at h2;rw[Nat.zero_add,hr.cell (i:=j) (by omega),hf j hj];exact congrArg some h2.symm
theorem Ka{w:World}{B g c n:Nat}{f:Nat->Value}{ys:List Int}(hn:n=ys.length)(hb:B<=g)(hr:w.rowIs g 3 c f)(hc:n<=c)(hm:c<=maxLen)(hf:∀i,i<n->f i=.int .i64 (AQ Ae ys i)):A8 Ae w B (.slice (some ⟨g,0,none⟩) n c) ys:=by
 refine A8.of_row (E:=Ae) (N:=c) hn.symm hb hr (by show c=c*1;omega) hc hm (fun i hi j hj=>?_);have hj':j<1:=hj;have e0:i*Ae.sz+j=i:=by show i*1+j=i;omega
 have e1:j=0:=by omega
 rw[e0,hf i hi,e1];rfl
theorem T5(g c B i vb:Nat)(xs:List Int)(e:Int)(w:World)(hi:i<xs.length)(hroom:xs.length+1<=c)(hne:vb≠g)(hv:w.heap[vb]?=some (.cells #[.int .i64 e] 3))(h:A8 Ae w B (.slice (some ⟨g,0,none⟩) xs.length c) xs):Calls prog 182 #[.slice (some ⟨g,0,none⟩) xs.length c,.int .i64 i,.slice (some ⟨vb,0,none⟩) 1 1] w fun r w'=>r=.returned (.slice (some ⟨g,0,none⟩) (xs.length+1) c)/\A8 Ae w' B (.slice (some ⟨g,0,none⟩) (xs.length+1) c) (FI xs i e)/\w.grownBy w' (some g):=by
 obtain⟨hB,hc,hm,f,hr,hf⟩:=Hh h;have hsb:w.shape? g=some (3,c):=by
  obtain⟨cur,h1,h2,_⟩:=hr;unfold World.shape?;rw[h1,<- h2]
 refine(Any2.slices_Insert_int_shift RZ g 0 xs.length c i vb 0 1 1 (xs.map (Value.int .i64)) [.int .i64 e] w hi (by decide) hroom hm hne (by simp) rfl (Lk hr hf hc) (fun j hj=>by rw[Nat.zero_add,hr.cell (i:=j) (by omega)];rfl) (fun j hj=>hr.frozen _) (Ik hv) (ZX xs) (XG e) 3 3 1 c (by unfold World.shape?;rw[hv];rfl) hsb (by omega) (by simp[World.frozen?,hv]) (by simp[World.frozen?,hv])).mono ?_;rintro r w' ⟨rfl,rfl⟩;refine⟨rfl,?_,?_⟩
 ·have r1:=EH [Value.int .i64 e] (0+i) _ _ (EH ((xs.map (Value.int .i64)).drop i) (0+(i+1)) w.drew f hr);refine Ka (Ib xs i e (by omega)).symm hB r1 (by omega) hm (fun t ht=>?_);rw[OD xs i e (by omega)];by_cases h1:t<i
  ·rw[if_pos h1,if_neg (by omega),if_neg (by omega),hf t (by omega)]
  ·by_cases h2:t=i
   ·rw[if_neg h1,if_pos h2,if_pos (by simp;omega),h2,show i-(0+i)=0 by omega];rfl
   ·rw[if_neg h1,if_neg h2,if_neg (by simp;omega),if_pos (by simp;omega),Ox,show i+(t-(0+(i+1)))=t-1 by omega,if_pos (by omega)]
 ·exact DV (DV (EX w _) (EB g _ _ _)) (EB g _ _ _)
theorem Ty(g c B vb:Nat)(xs:List Int)(e:Int)(w:World)(hroom:xs.length+1<=c)(hv:w.heap[vb]?=some (.cells #[.int .i64 e] 3))(h:A8 Ae w B (.slice (some ⟨g,0,none⟩) xs.length c) xs):Calls prog 182 #[.slice (some ⟨g,0,none⟩) xs.length c,.int .i64 xs.length,.slice (some ⟨vb,0,none⟩) 1 1] w fun r w'=>r=.returned (.slice (some ⟨g,0,none⟩) (xs.length+1) c)/\A8 Ae w' B (.slice (some ⟨g,0,none⟩) (xs.length+1) c) (FI xs xs.length e)/\w.grownBy w' (some g):=by
 obtain⟨hB,hc,hm,f,hr,hf⟩:=Hh h;refine(Any2.slices_Insert_int_end_room RZ g 0 xs.length c vb 0 1 1 [.int .i64 e] w (by decide) hroom hm rfl (fun j hj=>by rw[hr.cell (i:=0+xs.length+j) (by omega)];rfl) (fun j hj=>hr.frozen _) (Ik hv) (XG e)).mono ?_;rintro r w' ⟨rfl,rfl⟩;refine⟨rfl,?_,EB g _ _ _⟩;have r1:=EH [Value.int .i64 e] (0+xs.length) w f hr;refine Ka (Ib xs xs.length e (by omega)).symm hB r1 (by omega) hm (fun t ht=>?_);rw[OD xs xs.length e (by omega)];by_cases h1:t<xs.length
 ·rw[if_pos h1,if_neg (by omega),hf t (by omega)]
 ·rw[if_neg h1,if_pos (show t=xs.length by omega),if_pos (by simp;omega),show t-(0+xs.length)=0 by omega];rfl
theorem Kb(n:Nat):(Builtin.zeroCells (Value.int .i64 0).cells n).size=n:=by
 rw[size_zeroCells];exact Nat.mul_one n
theorem VA(a:Option Addr)(c B vb:Nat)(xs:List Int)(e:Int)(w:World)(hB:B<=w.heap.size)(hroom:c<xs.length+1)(hn:xs.length<=100000)(hv:w.heap[vb]?=some (.cells #[.int .i64 e] 3))(h:A8 Ae w B (.slice a xs.length c) xs):Calls prog 182 #[.slice a xs.length c,.int .i64 xs.length,.slice (some ⟨vb,0,none⟩) 1 1] w fun r w'=>∃c',r=.returned (.slice (some ⟨w.heap.size,0,none⟩) (xs.length+1) c')/\A8 Ae w' B (.slice (some ⟨w.heap.size,0,none⟩) (xs.length+1) c') (FI xs xs.length e)/\w.grownBy w' none:=by
 have hfacts:xs.length<=c/\(a=none->xs.length=0)/\(∀a',a=some a'->∀(j:Nat) (v:Value),(xs.map (Value.int .i64))[j]?=some v->w.cell? (a'.add j)=some v):=by
  rcases h.2 with⟨e0,h0⟩|⟨g',cap',cur,e0,hb,hg,h1,h2,h3,h4⟩
  ·simp only[Value.slice.injEq] at e0;obtain⟨rfl,h5,rfl⟩:=e0;exact⟨by omega,fun _=>h0,fun a' ha=>by cases ha⟩
  ·simp only[Value.slice.injEq] at e0;obtain⟨rfl,_,rfl⟩:=e0;obtain⟨_,hc,_,f,hr,hf⟩:=Hh h;refine⟨hc,fun hh=>(by cases hh),fun a' ha j v hj=>?_⟩;simp only[Option.some.injEq] at ha;subst ha;have:=Lk hr hf hc j v hj;rw[Addr.add_lit];exact this
 obtain⟨hc,hnil,hcs⟩:=hfacts;refine(Any2.slices_Insert_int_end_grow RZ a xs.length c vb 0 1 1 (xs.map (Value.int .i64)) [.int .i64 e] w (by decide) hc (by omega) (by omega) (by simp) rfl hnil hcs (Ik hv) (XG e)).mono ?_;rintro r w' ⟨rfl,rfl⟩;have hge:=grownCap_ge w (xs.length+1) c 3;have hle:=grownCap_le_maxLen w (xs.length+1) c 3 (by have h9:(100001:Nat)<=maxLen:=(by decide);omega);refine⟨_,rfl,?_,DV (EX w _) (Iz _ _ _)⟩;have ht:JX.t 3=3:=rfl;rw[ht];generalize grownCap w (xs.length+1) c 3=C at hge hle;have hsz:((xs.map (Value.int .i64)++[Value.int .i64 e]).toArray++Builtin.zeroCells (Value.int .i64 0).cells (C-(xs.length+1))).size=C:=by
  rw[Array.size_append,Kb];simp;omega
 refine Ka (f:=fun i=>((xs.map (Value.int .i64)++[Value.int .i64 e]).toArray++Builtin.zeroCells (Value.int .i64 0).cells (C-(xs.length+1))).getD i (.bool false)) (Ib xs xs.length e (by omega)).symm hB ?_ hge hle (fun t ht=>?_)
 ·have:=World.rowIs_alloc w.drew ((xs.map (Value.int .i64)++[Value.int .i64 e]).toArray++Builtin.zeroCells (Value.int .i64 0).cells (C-(xs.length+1))) 3 (fun i=>((xs.map (Value.int .i64)++[Value.int .i64 e]).toArray++Builtin.zeroCells (Value.int .i64 0).cells (C-(xs.length+1))).getD i (.bool false)) (fun i hi=>by rw[Array.getD_eq_getD_getElem?,Array.getElem?_eq_getElem hi];rfl);rw[hsz] at this;exact this
 ·rw[OD xs xs.length e (by omega),Array.getD_eq_getD_getElem?,Array.getElem?_append_left (by simp;omega),List.getElem?_toArray];by_cases h1:t<xs.length
  ·rw[if_pos h1,List.getElem?_append_left (by simp;omega),<- List.getD_eq_getElem?_getD,Nu,if_pos h1]
  ·rw[if_neg h1,if_pos (by omega),List.getElem?_append_right (by simp;omega),List.length_map,show t-xs.length=0 by omega];rfl
theorem V0(g c B i vb:Nat)(xs:List Int)(e:Int)(w:World)(hi:i<xs.length)(hB:B<=w.heap.size)(hroom:c<xs.length+1)(hn:xs.length<=100000)(hv:w.heap[vb]?=some (.cells #[.int .i64 e] 3))(h:A8 Ae w B (.slice (some ⟨g,0,none⟩) xs.length c) xs):Calls prog 182 #[.slice (some ⟨g,0,none⟩) xs.length c,.int .i64 i,.slice (some ⟨vb,0,none⟩) 1 1] w fun r w'=>∃c',r=.returned (.slice (some ⟨w.heap.size,0,none⟩) (xs.length+1) c')/\A8 Ae w' B (.slice (some ⟨w.heap.size,0,none⟩) (xs.length+1) c') (FI xs i e)/\w.grownBy w' none:=by
 obtain⟨_,hc,hm,f,hr,hf⟩:=Hh h;refine(Any2.slices_Insert_int_grow RZ g 0 xs.length c i vb 0 1 1 (xs.map (Value.int .i64)) [.int .i64 e] w hi (by decide) hc (by omega) (by omega) (by simp) rfl (Lk hr hf hc) (Ik hv) (ZX xs) (XG e)).mono ?_;rintro r w' ⟨rfl,rfl⟩;have hge:=grownCap_ge w (xs.length+1) c 3;have hle:=grownCap_le_maxLen w (xs.length+1) c 3 (by have h9:(100001:Nat)<=maxLen:=(by decide);omega);refine⟨_,rfl,?_,KI (DV (KI (DV (Iz w _ _) (EX _ _)) (EB _ _ _ _) (Nat.le_refl _)) (EX _ _)) (EB _ _ _ _) (Nat.le_refl _)⟩;have ht:JX.t 3=3:=rfl;rw[ht];generalize grownCap w (xs.length+1) c 3=C at hge hle;generalize hA:((xs.map (Value.int .i64)).take i).toArray++Builtin.zeroCells (Value.int .i64 0).cells (xs.length+1-i)++Builtin.zeroCells (Value.int .i64 0).cells (C-(xs.length+1))=A;have hsz:A.size=C:=by
  rw[<- hA,Array.size_append,Array.size_append,Kb,Kb];simp;omega
 have hA1:∀t,t<i->A.getD t (.bool false)=.int .i64 (AQ Ae xs t):=by
  intro t ht;rw[<- hA,Array.getD_eq_getD_getElem?,Array.getElem?_append_left (by rw[Array.size_append,Kb];simp;omega),Array.getElem?_append_left (by simp;omega),List.getElem?_toArray,List.getElem?_take,if_pos ht,<- List.getD_eq_getElem?_getD,Nu,if_pos (by omega)]
 have r0:=World.rowIs_alloc w A 3 (fun i=>A.getD i (.bool false)) (fun i hi=>by rw[Array.getD_eq_getD_getElem?,Array.getElem?_eq_getElem hi];rfl);rw[hsz] at r0;have r1:=EH ((xs.map (Value.int .i64)).drop i) (i+1) _ _ (show (World.drew ((w.alloc (.cells A 3)).drew.setCells w.heap.size i [Value.int .i64 e])).rowIs w.heap.size 3 C _ from EH [Value.int .i64 e] i (w.alloc (.cells A 3)).drew _ r0);refine Ka (Ib xs i e (by omega)).symm hB r1 hge hle (fun t ht=>?_);rw[OD xs i e (by omega)];by_cases h1:t<i
 ·rw[if_pos h1,if_neg (by omega),if_neg (by omega),hA1 t h1]
 ·by_cases h2:t=i
  ·rw[if_neg h1,if_pos h2,if_neg (by omega),if_pos (by simp;omega),h2,Nat.sub_self];rfl
  ·rw[if_neg h1,if_neg h2,if_pos (by simp;omega),Ox,show i+(t-(i+1))=t-1 by omega,if_pos (by omega)]
def oB (a:Option Addr):Option Nat:=(Value.slice a 0 0).ownBlock
theorem Cc(a:Option Addr)(n c:Nat):(Value.slice a n c).ownBlock=oB a:=by
 unfold oB;rcases a with _|⟨b,o,sp⟩
 ·rfl
 ·cases o<;>cases sp<;>rfl
theorem LU{w w':World}(row:Option Nat)(h:w.grownBy w' none):w.grownBy w' row:=⟨h.os,h.tape,h.output,h.size,fun k hk _=>h.block k hk (by simp)⟩
theorem XI(a:Option Addr)(c B i vb:Nat)(xs:List Int)(e:Int)(w:World)(hi:i<=xs.length)(hB:B<=w.heap.size)(hn:xs.length<=100000)(hne:oB a≠some vb)(hv:w.heap[vb]?=some (.cells #[.int .i64 e] 3))(h:A8 Ae w B (.slice a xs.length c) xs):Calls prog 182 #[.slice a xs.length c,.int .i64 i,.slice (some ⟨vb,0,none⟩) 1 1] w fun r w'=>∃a' c',r=.returned (.slice a' (FI xs i e).length c')/\A8 Ae w' B (.slice a' (FI xs i e).length c') (FI xs i e)/\w.grownBy w' (oB a)/\(oB a'=oB a\/oB a'=some w.heap.size):=by
 rw[Ib xs i e hi];by_cases hroom:xs.length+1<=c
 ·obtain⟨g,rfl⟩:∃g,a=some ⟨g,0,none⟩:=by
   rcases h.2 with⟨e0,h0⟩|⟨g',cap',cur,e0,_⟩
   ·simp only[Value.slice.injEq] at e0;obtain⟨_,_,h5⟩:=e0;omega
   ·simp only[Value.slice.injEq] at e0;exact⟨g',e0.1⟩
  have hne':vb≠g:=fun ee=>hne (by rw[ee];rfl)
  by_cases hl:i<xs.length
  ·refine(T5 g c B i vb xs e w hl hroom hne' hv h).mono ?_;rintro r w' ⟨rfl,h1,h2⟩;exact⟨_,_,rfl,h1,h2,.inl rfl⟩
  ·(obtain rfl:i=xs.length:=by omega);refine(Ty g c B vb xs e w hroom hv h).mono ?_;rintro r w' ⟨rfl,h1,h2⟩;exact⟨_,_,rfl,h1,h2,.inl rfl⟩
 ·by_cases hl:i<xs.length
  ·obtain⟨g,rfl⟩:∃g,a=some ⟨g,0,none⟩:=by
    rcases h.2 with⟨e0,h0⟩|⟨g',cap',cur,e0,_⟩
    ·omega
    ·simp only[Value.slice.injEq] at e0;exact⟨g',e0.1⟩
   refine(V0 g c B i vb xs e w hl hB (by omega) hn hv h).mono ?_;rintro r w' ⟨c',rfl,h1,h2⟩;exact⟨_,_,rfl,h1,LU _ h2,.inr rfl⟩
  ·(obtain rfl:i=xs.length:=by omega);refine(VA a c B vb xs e w hB (by omega) hn hv h).mono ?_;rintro r w' ⟨c',rfl,h1,h2⟩;exact⟨_,_,rfl,h1,LU _ h2,.inr rfl⟩
def FU (xs:List Int) (i:Nat):List Int:=xs.take i++xs.drop (i+1)
theorem Vv(xs:List Int)(i:Nat)(hi:i<xs.length):(FU xs i).length=xs.length-1:=by
 unfold FU;rw[List.length_append,List.length_take,List.length_drop];omega
theorem Uj(xs:List Int):AK Ae xs=xs.map (Value.int .i64):=by
 unfold AK;induction xs with
 | nil=>rfl
 | cons x r ih=>rw[List.flatMap_cons,ih];rfl
theorem WT(a:Option Addr)(c B i:Nat)(xs:List Int)(w:World)(hi:i<xs.length)(h:A8 Ae w B (.slice a xs.length c) xs):Calls prog 183 #[.slice a xs.length c,.int .i64 i,.int .i64 ((i:Int)+1)] w fun r w'=>r=.returned (.slice a (FU xs i).length c)/\A8 Ae w' B (.slice a (FU xs i).length c) (FU xs i)/\w.grownBy w' (oB a):=by
 obtain⟨g,rfl⟩:∃g,a=some ⟨g,0,none⟩:=by
  rcases h.2 with⟨e0,h0⟩|⟨g',cap',cur,e0,_⟩
  ·omega
  ·simp only[Value.slice.injEq] at e0;exact⟨g',e0.1⟩
 obtain⟨hB,hc,hm,f,hr,hf⟩:=Hh h;have hown:w.ownsRow B 3 1 (.slice (some ⟨g,0,none⟩) xs.length c) xs.length (xs.map (Value.int .i64)):=by
  have h0:w.ownsRow B Ae.T Ae.sz (.slice (some ⟨g,0,none⟩) xs.length c) xs.length (AK Ae xs):=h;rw[Uj] at h0;exact h0
 have hH:Go.Sort.Holds (Value.int .i64) w g 0 xs.toArray:=fun j hj=>by
  have hj':j<xs.length:=by simpa using hj
  refine⟨?_,hr.frozen _⟩;rw[Nat.zero_add,hr.cell (i:=j) (by omega),hf j hj'];unfold AQ;rw[List.getD_eq_getElem?_getD,List.getElem?_eq_getElem hj'];simp[hj']
 have hc1:=Any.slices_Delete_int Zg g 0 c i (i+1) xs w hH hc hm (by omega) (by omega);refine hc1.mono ?_;rintro r w' ⟨rfl,q,rfl⟩;have hl:(FU xs i).length=xs.length-1:=Vv xs i hi;have e1:xs.length-(i+1-i)=(FU xs i).length:=by rw[hl];omega
 refine⟨by rw[e1],?_,?_⟩
 ·have:=Go.Lib.ownsRow_putRow (q:=q) (k:=(FU xs i).length) (ys:=xs.take i++xs.drop (i+1)++List.replicate (i+1-i) 0) hown (by rw[List.length_append,List.length_append,List.length_take,List.length_drop,List.length_replicate];omega) (by omega);have e2:(xs.take i++xs.drop (i+1)++List.replicate (i+1-i) 0).take (FU xs i).length=FU xs i:=by
   show (FU xs i++List.replicate (i+1-i) 0).take (FU xs i).length=FU xs i;rw[List.take_left]
  rw[e2,<- Uj] at this;exact this
 ·have hb:=Go.Lib.below_putRow (enc:=Value.int .i64) (q:=q) (g:=g) (d:=(xs.take i++xs.drop (i+1)++List.replicate (i+1-i) 0).toArray) (Below.refl 0 w) (Nat.zero_le _);refine⟨hb.os,hb.tape,hb.output,hb.size,fun k hk hne=>?_⟩;have hkg:k≠g:=fun ee=>hne (by rw[ee];rfl)
  simp[Go.Sort.putRow,Go.Sort.mapBlock,Go.Sort.ahead,Array.getElem?_modify,hkg.symm]
end Go.Proofs.YtnmhkgmmpkjjeaaGreat
