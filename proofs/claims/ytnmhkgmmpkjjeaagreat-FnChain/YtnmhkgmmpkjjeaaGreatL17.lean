import Derived.Test.YtnmhkgmmpkjjeaaGreatL15
import Derived.Laws.StructEq
import Derived.MapKept
import Derived.WideKeyRuns
namespace Go.Proofs.YtnmhkgmmpkjjeaaGreat
open Go.ChangeShapes Go.WideShapes Go.ChangeAt Go.RowKit
set_option linter.unusedVariables false
set_option maxRecDepth 100000
attribute [local go_sem ↓] Go.wp_at_zero Go.wp_at_succ
set_option linter.unusedSimpArgs false
def CP:Dc (Nat×Nat):=⟨223,2,fun x=>[.int .i64 x.1,.int .i64 x.2],(0,0),by omega,fun _=>rfl⟩
theorem Nz:(Tryz.prog.info? 223).map (fun i=>(i.zero,i.size,i.bytes))=some (some (.agg #[.int .i64 0,.int .i64 0]),2,16):=by kernel_rfl
structure Bw (w:World) (g:Nat) (H:Nat->Ht):Prop where
 lt:g<w.heap.size
 cells:∀p,p<4096->w.cell? ⟨g,p*4,none⟩=some (.int .i64 (H p).k)/\w.cell? ⟨g,p*4+1,none⟩=some (.int .i64 (H p).o)/\w.cell? ⟨g,p*4+2,none⟩=some (.int .i64 (H p).p)/\w.cell? ⟨g,p*4+3,none⟩=some (.int .i64 (H p).s)
theorem Bw.of_block {w w':World} {g:Nat} {H:Nat->Ht} (h:Bw w g H) (hs:w.heap.size<=w'.heap.size) (hb:w'.heap[g]?=w.heap[g]?):Bw w' g H :=
 ⟨Nat.lt_of_lt_of_le h.lt hs,fun p hp=>⟨(Eg hb).trans (h.cells p hp).1,(Eg hb).trans (h.cells p hp).2.1,(Eg hb).trans (h.cells p hp).2.2.1,(Eg hb).trans (h.cells p hp).2.2.2⟩⟩
theorem Bw.below {w w':World} {g:Nat} {H:Nat->Ht} (h:Bw w g H) (hb:Below w.heap.size w w'):Bw w' g H:=h.of_block hb.size (hb.block g h.lt)
set_option maxHeartbeats 2000000 in
theorem Gt (l p i:Int) (hl1:1<=l) (hl2:l<=3) (hp0:0<=p) (hp1:p<=8192) (hi0:0<=i) (hi1:i<=16) (w:World) : Calls Tryz.prog 180 #[.agg #[.int .i64 l,.int .i64 p],.int .i64 i] w fun e w'=>e=.returned (.agg #[.int .i64 (l+1),.int .i64 (p+i*Bj l)])/\Below w.heap.size w w':=by
 obtain⟨wb,hwb⟩:∃wb,wb=(w.alloc (.cells #[.int .i64 l,.int .i64 p] 223)).alloc (.cells #[.int .i64 0,.int .i64 0] 223):=⟨_,rfl⟩
 have hbb:Below w.heap.size w wb:=by rw[hwb];exact((Below.refl _ _).alloc (Nat.le_refl _) _).alloc (by simp) _
 have hzb:wb.heap.size=w.heap.size+2:=by rw[hwb];simp
 have q0:wb.cell? ⟨w.heap.size,0,none⟩=some (.int .i64 l):=by rw[hwb];simp[go_sem]
 have q1:wb.cell? ⟨w.heap.size,1,none⟩=some (.int .i64 p):=by rw[hwb];simp[go_sem]
 have r0:wb.cell? ⟨w.heap.size+1,0,none⟩=some (.int .i64 0):=by rw[hwb];simp[go_sem]
 have r1:wb.cell? ⟨w.heap.size+1,1,none⟩=some (.int .i64 0):=by rw[hwb];simp[go_sem]
 have f0:wb.frozen? ⟨w.heap.size+1,0,none⟩=false:=by rw[hwb];simp[go_sem]
 have f1:wb.frozen? ⟨w.heap.size+1,1,none⟩=false:=by rw[hwb];simp[go_sem]
 have HK:Hid (∀wX,Below (w.heap.size+1) wb wX->wX.cell? ⟨w.heap.size,0,none⟩=some (.int .i64 l)/\wX.cell? ⟨w.heap.size,1,none⟩=some (.int .i64 p)):=fun wX hX=>⟨(hX.cell (by simp)).trans q0,(hX.cell (by simp)).trans q1⟩
 have hcv:=CE l;have hcb:=Jg l;generalize Bj l=C at *;have hm0:0<=i*C:=Int.mul_nonneg hi0 hcb.1;have hm1:i*C<=16*256:=Int.mul_le_mul hi1 hcb.2 hcb.1 (by decide);have W1:IntKind.i64.wrap (i*C)=i*C:=by rw[IntKind.wrap_i64];omega
 have W2:IntKind.i64.wrap (p+i*C)=p+i*C:=by rw[IntKind.wrap_i64];omega
 have W3:IntKind.i64.wrap (l+1)=l+1:=by rw[IntKind.wrap_i64];omega
 have HWB:Hid (wb=_):=hwb;have HBB:Hid (Below w.heap.size w wb):=hbb;have HZ:Hid (wb.heap.size=w.heap.size+2):=hzb;have N0:w.heap.size+1<wb.heap.size:=by omega
 clear hwb hbb hzb q0 q1;go_enter Tryz.func180,Tryz.ntmps180
 go_wp2_with fail
 rw[<- HWB.out];go_region_held3 (fun wX=>wX.cell? ⟨w.heap.size,0,none⟩=some (.int .i64 l)/\wX.cell? ⟨w.heap.size,1,none⟩=some (.int .i64 p))
  ((refine HK.out _ ?_;repeat (first|exact Below.refl _ _|with_reducible refine Below.drew ?_|with_reducible refine Below.setCell ?_ (by first|omega|(simp<;>omega)) _)))
  (first|(go_at_call 168;refine(hcv _).mono ?_;rintro e w1 ⟨rfl,hw1⟩;subst hw1))
 go_wp2_with fail
 refine bodyPost_ret (v:=.agg #[.int .i64 (l+1),.int .i64 (p+i*C)]) (by simp[results,Tryz.results180,go_sem,r0,r1]) rfl ⟨rfl,?_⟩;exact(HBB.out.drew.setCell (Nat.le_succ _) _).setCell (Nat.le_succ _) _
structure HE where
 lv:Int
 pg:Int
 fr:Int
 kp:Bool
abbrev kV (lv pg:Int):Value:=.agg #[.int .i64 lv,.int .i64 pg]
abbrev hV (f:Int) (k:Bool):Value:=.agg #[.int .i64 f,.bool k]
theorem W7 (a b c d:Int) (w:World):(Op.equal 223 (kV a b) (kV c d)).run Tryz.prog w=.ok (decide (a=c/\b=d)) w:=by
 have hS:Tryz.prog.underlying 223=some (.struct (Tryz.prog.fieldsOf 223)):=by kernel_rfl
 have hp:Tryz.prog.stoodInHeld 223=false:=by kernel_rfl
 unfold Op.equal;rw[show Op.maxDepth=9999+1 from rfl,run_equalIn_struct w 9999 223 _ _ hS hp];simp only[Program.fieldsOf,Tryz.underlying223];go_simp;by_cases h1:a=c<;>by_cases h2:b=d<;>simp[h1,h2]
theorem Lo (e:Bool) (a b:Int) (w:World):(Instr.checkKey e 10000 223 (kV a b)).run Tryz.prog w=.ok () w:=by
 cases e<;>kernel_rfl
def V3 (h:HE):Value×Value:=(kV h.lv h.pg,hV h.fr h.kp)
def CU (w:World) (B:Nat) (m:List HE):Prop:=∃es c,w.heap[B]?=some (.map es c)/\es.toList.map (fun e=>(e.key,e.val))=m.map V3
def Rp (lv pg:Int) (h:HE):Bool:=decide (lv=h.lv/\pg=h.pg)
def F2 (m:List HE) (lv pg:Int):Option HE:=m.find? (Rp lv pg)
theorem QH (lv pg:Int) (w:World):∀(es:List MapEntry) (m:List HE) (i:Nat),es.map (fun e=>(e.key,e.val))=m.map V3->∃j,(Instr.findAsking 223 (kV lv pg) es i).run Tryz.prog w=.ok ((F2 m lv pg).map fun h=>(j,hV h.fr h.kp)) w
 | [],m,i,h=>by
  have:m=[]:=by cases m with
   | nil=>rfl
   | cons a r=>simp at h
  subst this;exact⟨0,by simp[Instr.findAsking,F2]⟩
 | e :: es,[],i,h=>by simp at h
 | e :: es,a :: r,i,h=>by
  simp only[List.map_cons,List.cons.injEq,V3,Prod.mk.injEq] at h;obtain⟨⟨h1,h2⟩,h3⟩:=h;have hq:=W7 lv pg a.lv a.pg w;by_cases hh:lv=a.lv/\pg=a.pg
  ·refine⟨i,?_⟩;rw[decide_eq_true hh] at hq;unfold Instr.findAsking F2;rw[List.find?_cons_of_pos (by unfold Rp;exact decide_eq_true hh),h1];simp[hq,h2]
  ·obtain⟨j,hj⟩:=QH lv pg w es r (i+1) h3;refine⟨j,?_⟩;rw[decide_eq_false hh] at hq;unfold Instr.findAsking F2;rw[List.find?_cons_of_neg (by unfold Rp;rw[decide_eq_false hh];decide),h1];simp only[Sem.run_bind,hq,Result.andThen_ok,Bool.false_eq_true,if_false];exact hj
theorem Nv (lv pg:Int) (w:World) (es:List MapEntry) (m:List HE) (h:es.map (fun e=>(e.key,e.val))=m.map V3):∃j,(Instr.findKey 223 (kV lv pg) es).run Tryz.prog w=.ok ((F2 m lv pg).map fun h=>(j,hV h.fr h.kp)) w:=by
 obtain⟨j,hj⟩:=QH lv pg w es m 0 h;refine⟨j,?_⟩;rw[<- hj];exact run_findKey_eq w (k:=223) (by kernel_rfl) _ _
theorem Tp (w:World):(zeroValue 227).run Tryz.prog w=.ok (hV 0 false) w:=by kernel_rfl
def FT (m:List HE) (lv pg:Int):Value:=match F2 m lv pg with
 | some h=>hV h.fr h.kp
 | none=>hV 0 false
theorem GD (B:Nat) (m:List HE) (lv pg:Int) (ok:Bool) (w:World) (h:CU w B m) : (Instr.lookup 158 (.map (some B)) (kV lv pg) ok).run Tryz.prog w=.ok (if ok then .tuple #[FT m lv pg,.bool (F2 m lv pg).isSome] else FT m lv pg) w:=by
 obtain⟨es,c,hb,he⟩:=h;obtain⟨j,hj⟩:=Nv lv pg w es.toList m he;unfold Instr.lookup FT;simp only[Sem.run_bind,run_underlying Tryz.underlying158,Result.andThen_ok,MapKept.run_getObj_map hb,Sem.run_pure,Lo,hj];cases hm:F2 m lv pg with
 | none=>cases ok<;>simp[Tp]
 | some q=>cases ok<;>simp
theorem QU (B:Nat) (m:List HE) (x:HE) (w:World) (h:CU w B m) (hn:F2 m x.lv x.pg=none) : ∃w',(Instr.mapUpdate 158 (.map (some B)) (kV x.lv x.pg) (hV x.fr x.kp)).run Tryz.prog w=.ok () w'/\CU w' B (m++[x])/\w.grownBy w' (some B)/\w'.heap.size=w.heap.size:=by
 obtain⟨es,c,hb,he⟩:=h;obtain⟨j,hj⟩:=Nv x.lv x.pg w es.toList m he;rw[hn] at hj;have hlt:B<w.heap.size:=by
  rcases Nat.lt_or_ge B w.heap.size with h|h
  ·exact h
  ·rw[Array.getElem?_eq_none h] at hb;cases hb
 refine⟨{ w with heap:=w.heap.setIfInBounds B (.map (es.push { key:=kV x.lv x.pg,val:=hV x.fr x.kp,born:=c }) (c+1)) },?_,⟨es.push { key:=kV x.lv x.pg,val:=hV x.fr x.kp,born:=c },c+1,?_,?_⟩,⟨rfl,rfl,rfl,by simp,fun k hk hne=>?_⟩,by simp⟩
 ·unfold Instr.mapUpdate;simp only[Sem.run_bind,run_underlying Tryz.underlying158,Result.andThen_ok,MapKept.run_getObj_map hb,Lo,hj,Option.map_none];exact MapKept.run_setObj_map _ hb
 ·show (w.heap.setIfInBounds B _)[B]?=_;rw[Array.getElem?_setIfInBounds_self_of_lt hlt]
 ·rw[Array.toList_push,List.map_append,List.map_append,he];rfl
 ·show (w.heap.setIfInBounds B _)[k]?=_;rw[Array.getElem?_setIfInBounds_ne (fun e=>hne (by rw[e]))]
theorem CU.of_block {w w':World} {B:Nat} {m:List HE} (h:CU w B m) (hb:w'.heap[B]?=w.heap[B]?):CU w' B m:=by
 obtain⟨es,c,h1,h2⟩:=h;exact⟨es,c,hb.trans h1,h2⟩
theorem CU.lt {w:World} {B:Nat} {m:List HE} (h:CU w B m):B<w.heap.size:=by
 obtain⟨es,c,hb,he⟩:=h;rcases Nat.lt_or_ge B w.heap.size with h|h
 ·exact h
 ·rw[Array.getElem?_eq_none h] at hb;cases hb
theorem CU.below {w w':World} {B:Nat} {m:List HE} (h:CU w B m) (hb:Below w.heap.size w w'):CU w' B m:=h.of_block (hb.block B h.lt)
theorem CU.new (w:World):CU (w.alloc (.map #[] 0)) w.heap.size []:=⟨#[],0,heap_alloc_new w _,rfl⟩
theorem Rq (x:Int) (w:World):Calls Tryz.prog 223 #[.int .i64 x] w fun e w'=>e=.returned (.bool false)/\w'=w:=by
 have d:(x != x)=false:=by simp
 go_enter Tryz.func223,Tryz.ntmps223
 go_wp2_with fail
 go_ret;exact⟨by first|rfl|simp,rfl⟩
theorem Px (x:Int) (w:World):Calls Tryz.prog 234 #[.int .i64 x] w fun e w'=>e=.returned (.bool false)/\w'=w:=by
 have d:(x != x)=false:=by simp
 go_enter Tryz.func234,Tryz.ntmps234
 go_wp2_with fail
 go_ret;exact⟨by first|rfl|simp,rfl⟩
def Bc (xs:List Int) (e:Int):Nat:=xs.countP (fun x=>decide (x<e))
def Bo (xs:List Int):Prop:=xs.Pairwise (fun a b=>a<b)
theorem Lp {xs:List Int} (h:Bo xs) {i j:Nat} (hij:i<j) (hj:j<xs.length):AI Ai xs i<AI Ai xs j:=by
 unfold AI;rw[List.getD_eq_getElem?_getD,List.getD_eq_getElem?_getD,List.getElem?_eq_getElem hj,List.getElem?_eq_getElem (by omega)];exact List.pairwise_iff_getElem.1 h i j (by omega) hj hij
theorem WI {xs:List Int} (h:Bo xs) {e:Int} {r:Nat} (hr:r<=xs.length) (h1:∀t,t<r->AI Ai xs t<e) (h2:∀t,r<=t->t<xs.length->¬AI Ai xs t<e):Bc xs e=r:=by
 unfold Bc;have e1:xs=xs.take r++xs.drop r:=(List.take_append_drop r xs).symm;have at1:∀t (ht:t<xs.length),xs[t]=AI Ai xs t:=fun t ht=>by
  unfold AI;rw[List.getD_eq_getElem?_getD,List.getElem?_eq_getElem ht];rfl
 have c1:(xs.take r).countP (fun x=>decide (x<e))=r:=by
  have:(xs.take r).countP (fun x=>decide (x<e))=(xs.take r).length:=by
   rw[List.countP_eq_length];intro x hx;obtain⟨t,ht,rfl⟩:=List.getElem_of_mem hx;rw[List.length_take] at ht;rw[List.getElem_take,at1 t (by omega)];exact decide_eq_true (h1 t (by omega))
  rw[this,List.length_take];omega
 have c2:(xs.drop r).countP (fun x=>decide (x<e))=0:=by
  rw[List.countP_eq_zero];intro x hx;obtain⟨t,ht,rfl⟩:=List.getElem_of_mem hx;rw[List.length_drop] at ht;rw[List.getElem_drop,at1 (r+t) (by omega)];have:=h2 (r+t) (by omega) (by omega);simpa using this
 rw[e1,List.countP_append,c1,c2];rfl
def Co (xs:List Int) (e:Int):Bool:=decide (Bc xs e<xs.length/\AI Ai xs (Bc xs e)=e)
set_option maxHeartbeats 2000000 in
theorem J9 (a:Option Addr) (c b:Nat) (xs:List Int) (e0:Int) (w:World) (hn:xs.length<=100000) (hs:Bo xs) (h:A6 Ai w b (.slice a xs.length c) xs) : Calls Tryz.prog 181 #[.slice a xs.length c,.int .i64 e0] w fun e w'=>e=.returned (.tuple #[.int .i64 (Bc xs e0:Nat),.bool (Co xs e0)])/\Below w.heap.size w w'/\Bc xs e0<=xs.length:=by
 have HC:Hid (∀t,t<xs.length->∃g,a=some ⟨g,0,none⟩/\∀wX,Below w.heap.size w wX->g<wX.heap.size/\wX.cell? ⟨g,t,none⟩=some (.int .i64 (AI Ai xs t))):=fun t ht=>by
  obtain⟨a',c',e,hf⟩:=h.form;obtain⟨g,N,f,e2,_⟩:=hf (by omega);simp only[Value.slice.injEq,true_and] at e;obtain⟨rfl,rfl⟩:=e;subst e2;exact⟨g,rfl,fun wX hX=>Fn (h.below hX) t ht⟩
 have HS:Hid (Bo xs):=hs
 have hless:=fun (x y:Int) (w:World) (b:Bool) (hb:decide (x<y)=b)=>(show Calls Tryz.prog 222 #[.int .i64 x,.int .i64 y] w fun e w'=>e=.returned (.bool b)/\w'=w from by
  have hq:=Px x
  subst hb
  go_enter Tryz.func222,Tryz.ntmps222
  go_wp2_with (go_at_call 234;refine(hq _).mono ?_;rintro e w1 ⟨rfl,hw1⟩;obtain rfl:=hw1.symm)
  go_ret
  exact⟨by first|rfl|simp,rfl⟩)
 have HL:Hid _:=hless;clear h hs hless;go_enter Tryz.func181,Tryz.ntmps181
 go_wp2_with fail
 go_loopw [7,8] (fun s5 s6 wr=>∃(lo hi:Nat),s5=.int .i64 lo/\s6=.int .i64 hi/\lo<=hi/\hi<=xs.length/\Hid ((∀t,t<lo->AI Ai xs t<e0)/\(∀t,hi<=t->t<xs.length->e0<=AI Ai xs t))/\Below w.heap.size w wr) (fun s5 s6 _=>(intOf s6).toNat-(intOf s5).toNat)
 case atStart=>exact⟨0,xs.length,rfl,rfl,Nat.zero_le _,Nat.le_refl _,⟨fun t ht=>absurd ht (Nat.not_lt_zero _),fun t h1 h2=>by omega⟩,Below.refl _ _⟩
 case round =>
  obtain⟨lo,hi,rfl,rfl,hlh,hin,I,hb⟩:=hrel;by_cases hlt:lo<hi
  ·obtain⟨g,rfl,hc0⟩:=HC.out ((lo+hi)/2) (by omega);obtain⟨hgl,c0⟩:=hc0 wr hb;(have e2:(((lo+hi)/2:Nat):Int)=((lo:Int)+(hi:Int))/2:=by omega);have HB:Hid (Below w.heap.size w wr):=hb;(obtain⟨X,hX⟩:∃X,AI Ai xs ((lo+hi)/2)=X:=⟨_,rfl⟩);rw[hX] at c0;have HX:Hid (AI Ai xs ((lo+hi)/2)=X):=hX;(have L1:(0:Int)<=((lo:Int)+(hi:Int))/2:=by omega);(have L2:((lo:Int)+(hi:Int))/2<(xs.length:Int):=by omega);(have L3:(((lo:Int)+(hi:Int))/2).toNat=(lo+hi)/2:=by omega);clear hb hc0 hX;by_cases hp:X<e0
   ·(have hl:=fun wX=>HL.out X e0 wX true (decide_eq_true hp));have HP:Hid (X<e0):=hp;clear hp;(go_wp2_with (go_at_call 222;refine(hl _).mono ?_;rintro e w' ⟨rfl,hw'⟩;obtain rfl:=hw'.symm));go_roundw;case rel =>
     refine⟨(lo+hi)/2+1,hi,by rw[show ((lo:Int)+(hi:Int))/2+1=(((lo+hi)/2+1:Nat):Int) by omega],rfl,by omega,hin,⟨fun t ht=>?_,I.out.2⟩,HB.out⟩;by_cases et:t=(lo+hi)/2
     ·rw[et,HX.out];exact HP.out
     ·have:=Lp HS.out (i:=t) (j:=(lo+hi)/2) (by omega) (by omega);rw[HX.out] at this;have:=HP.out;omega
    case measure=>simp[intOf];omega
   ·(have hl:=fun wX=>HL.out X e0 wX false (decide_eq_false hp));have HP:Hid (e0<=X):=Int.not_lt.1 hp;clear hp;(go_wp2_with (go_at_call 222;refine(hl _).mono ?_;rintro e w' ⟨rfl,hw'⟩;obtain rfl:=hw'.symm));go_roundw;case rel =>
     refine⟨lo,(lo+hi)/2,rfl,by rw[show ((lo:Int)+(hi:Int))/2=(((lo+hi)/2:Nat):Int) by omega],by omega,by omega,⟨I.out.1,fun t ht htn=>?_⟩,HB.out⟩;by_cases et:t=(lo+hi)/2
     ·rw[et,HX.out];exact HP.out
     ·have:=Lp HS.out (i:=(lo+hi)/2) (j:=t) (by omega) htn;rw[HX.out] at this;have:=HP.out;omega
    case measure=>simp[intOf];omega
  ·(obtain rfl:hi=lo:=by omega);have HPO:Hid (Bc xs e0=hi):=WI HS.out hin I.out.1 (fun t h1 h2=>Int.not_lt.2 (I.out.2 t h1 h2));by_cases hl:hi<xs.length
   ·obtain⟨g,rfl,hc0⟩:=HC.out hi hl;obtain⟨hgl,c0⟩:=hc0 wr hb;have dl:decide ((hi:Int)<(xs.length:Int))=true:=decide_eq_true (by omega);(have L1:(0:Int)<=(hi:Int):=by omega);(have L2:(hi:Int)<(xs.length:Int):=by omega);(obtain⟨X,hX⟩:∃X,AI Ai xs hi=X:=⟨_,rfl⟩);rw[hX] at c0;by_cases hx:X=e0
    ·(have HF:Hid (Co xs e0=true):=A3 <| by unfold Co;rw[HPO.out];exact decide_eq_true ⟨hl,by rw[hX];exact hx⟩);(have dx:(X==e0)=true:=by simpa using hx);clear hX hx hc0;(go_wp2_with fail);(go_ret2);exact⟨by rw[HPO.out,HF.out];rfl,hb,by rw[HPO.out];exact hin⟩
    ·(have HF:Hid (Co xs e0=false):=A3 <| by unfold Co;rw[HPO.out];exact decide_eq_false (fun h=>hx (by rw[<- hX];exact h.2)));(have dx:(X==e0)=false:=by simpa using hx);have hq:=Rq X;clear hX hx hc0;(go_wp2_with (go_at_call 223;refine(hq _).mono ?_;rintro e w1 ⟨rfl,hw1⟩;obtain rfl:=hw1.symm));(go_ret2);exact⟨by rw[HPO.out,HF.out];rfl,hb,by rw[HPO.out];exact hin⟩
   ·(have HF:Hid (Co xs e0=false):=A3 <| by unfold Co;rw[HPO.out];exact decide_eq_false (fun h=>hl h.1));have dl:decide ((hi:Int)<(xs.length:Int))=false:=decide_eq_false (by omega);(go_wp2_with fail);(go_ret2);exact⟨by rw[HPO.out,HF.out];rfl,hb,by rw[HPO.out];exact hin⟩
end Go.Proofs.YtnmhkgmmpkjjeaaGreat
