import Derived.Test.YtnmhkgmmpkjjeacGreatG12
import Derived.Test.YtnmhkgmmpkjjeacGreatG14
import Derived.Laws.StructEq
import Derived.MapKept
import Derived.WideKeyRuns
import Derived.Test.YtnmhkgmmpkjjeacGreatRows
import Derived.Test.YtnmhkgmmpkjjeacGreatG00
import Derived.Test.YtnmhkgmmpkjjeacGreatG18
import Derived.Test.YtnmhkgmmpkjjeacGreatG19
import Derived.Test.YtnmhkgmmpkjjeacGreatG20
namespace Go.Proofs.YtnmhkgmmpkjjeacGreat
open Go.ChangeShapes Go.WideShapes Go.ChangeAt Go.RowKit
set_option linter.unusedVariables false
set_option maxRecDepth 100000
attribute [local go_sem ↓] Go.wp_at_zero Go.wp_at_succ
def eSeat:Elt (Nat × Nat):=⟨122,2,fun x=>[.int .i64 x.1,.int .i64 x.2],(0,0),by omega,fun _=>rfl⟩
theorem infoSeat:(Tryz.prog.info? 122).map (fun i=>(i.zero,i.size,i.bytes))=some (some (.agg #[.int .i64 0,.int .i64 0]),2,16):=by kernel_rfl
structure LayIs (w:World) (g:Nat) (H:Nat->Ht):Prop where
 lt:g < w.heap.size
 cells:∀ p,p < 4096->w.cell? ⟨g,p * 4,none⟩=some (.int .i64 (H p).k)/\w.cell? ⟨g,p * 4+1,none⟩=some (.int .i64 (H p).o)/\w.cell? ⟨g,p * 4+2,none⟩=some (.int .i64 (H p).p)/\w.cell? ⟨g,p * 4+3,none⟩=some (.int .i64 (H p).s)
theorem LayIs.of_block {w w':World} {g:Nat} {H:Nat->Ht} (h:LayIs w g H) (hs:w.heap.size<=w'.heap.size) (hb:w'.heap[g]?=w.heap[g]?):LayIs w' g H :=
 ⟨Nat.lt_of_lt_of_le h.lt hs,fun p hp=>⟨(cob hb).trans (h.cells p hp).1,(cob hb).trans (h.cells p hp).2.1,(cob hb).trans (h.cells p hp).2.2.1,(cob hb).trans (h.cells p hp).2.2.2⟩⟩
theorem LayIs.below {w w':World} {g:Nat} {H:Nat->Ht} (h:LayIs w g H) (hb:Below w.heap.size w w'):LayIs w' g H:=h.of_block hb.size (hb.block g h.lt)
set_option maxHeartbeats 2000000 in
theorem seatBelow_any (l p i:Int) (hl1:1<=l) (hl2:l<=3) (hp0:0<=p) (hp1:p<=8192) (hi0:0<=i) (hi1:i<=16) (w:World) :
  Calls Tryz.prog 91 #[.agg #[.int .i64 l,.int .i64 p],.int .i64 i] w fun e w'=>e=.returned (.agg #[.int .i64 (l+1),.int .i64 (p+i * cov l)])/\Below w.heap.size w w':=by
 obtain ⟨wb,hwb⟩:∃ wb,wb=(w.alloc (.cells #[.int .i64 l,.int .i64 p] 122)).alloc (.cells #[.int .i64 0,.int .i64 0] 122):=⟨_,rfl⟩
 have hbb:Below w.heap.size w wb:=by rw [hwb]; exact ((Below.refl _ _).alloc (Nat.le_refl _) _).alloc (by simp) _
 have hzb:wb.heap.size=w.heap.size+2:=by rw [hwb]; simp
 have q0:wb.cell? ⟨w.heap.size,0,none⟩=some (.int .i64 l):=by rw [hwb]; simp [go_sem]
 have q1:wb.cell? ⟨w.heap.size,1,none⟩=some (.int .i64 p):=by rw [hwb]; simp [go_sem]
 have r0:wb.cell? ⟨w.heap.size+1,0,none⟩=some (.int .i64 0):=by rw [hwb]; simp [go_sem]
 have r1:wb.cell? ⟨w.heap.size+1,1,none⟩=some (.int .i64 0):=by rw [hwb]; simp [go_sem]
 have f0:wb.frozen? ⟨w.heap.size+1,0,none⟩=false:=by rw [hwb]; simp [go_sem]
 have f1:wb.frozen? ⟨w.heap.size+1,1,none⟩=false:=by rw [hwb]; simp [go_sem]
 have HK:Hid (∀ wX,Below (w.heap.size+1) wb wX->wX.cell? ⟨w.heap.size,0,none⟩=some (.int .i64 l)/\wX.cell? ⟨w.heap.size,1,none⟩=some (.int .i64 p)):=fun wX hX=>⟨(hX.cell (by simp)).trans q0,(hX.cell (by simp)).trans q1⟩
 have hcv:=entryPages_any l
 have hcb:=cov_bd l
 generalize cov l=C at *
 have hm0:0<=i * C:=Int.mul_nonneg hi0 hcb.1
 have hm1:i * C<=16 * 256:=Int.mul_le_mul hi1 hcb.2 hcb.1 (by decide)
 have W1:IntKind.i64.wrap (i * C)=i * C:=by rw [IntKind.wrap_i64]; omega
 have W2:IntKind.i64.wrap (p+i * C)=p+i * C:=by rw [IntKind.wrap_i64]; omega
 have W3:IntKind.i64.wrap (l+1)=l+1:=by rw [IntKind.wrap_i64]; omega
 have HWB:Hid (wb=_):=hwb
 have HBB:Hid (Below w.heap.size w wb):=hbb
 have HZ:Hid (wb.heap.size=w.heap.size+2):=hzb
 have N0:w.heap.size+1 < wb.heap.size:=by omega
 clear hwb hbb hzb q0 q1
 go_enter Tryz.func91,Tryz.ntmps91
 go_wp2_with fail
 rw [<- HWB.out]
 go_region_held3 (fun wX=>wX.cell? ⟨w.heap.size,0,none⟩=some (.int .i64 l)/\wX.cell? ⟨w.heap.size,1,none⟩=some (.int .i64 p))
  ((refine HK.out _ ?_; repeat (first | exact Below.refl _ _ | with_reducible refine Below.drew ?_ | with_reducible refine Below.setCell ?_ (by first | omega | (simp <;> omega)) _)))
  (first | (go_at_call 102; refine (hcv _).mono ?_; rintro e w1 ⟨rfl,hw1⟩; subst hw1))
 go_wp2_with fail
 refine bodyPost_ret (v:=.agg #[.int .i64 (l+1),.int .i64 (p+i * C)]) (by simp [results,Tryz.results91,go_sem,r0,r1]) rfl ⟨rfl,?_⟩
 exact (HBB.out.drew.setCell (Nat.le_succ _) _).setCell (Nat.le_succ _) _
end Go.Proofs.YtnmhkgmmpkjjeacGreat
namespace Go.Proofs.YtnmhkgmmpkjjeacGreat
open Go.ChangeShapes Go.WideShapes Go.ChangeAt Go.RowKit
set_option linter.unusedVariables false
set_option linter.unusedSimpArgs false
set_option maxRecDepth 100000
attribute [local go_sem ↓] Go.wp_at_zero Go.wp_at_succ
structure HE where
 lv:Int
 pg:Int
 fr:Int
 kp:Bool
abbrev kV (lv pg:Int):Value:=.agg #[.int .i64 lv,.int .i64 pg]
abbrev hV (f:Int) (k:Bool):Value:=.agg #[.int .i64 f,.bool k]
theorem eqSeat (a b c d:Int) (w:World):(Op.equal 122 (kV a b) (kV c d)).run Tryz.prog w=.ok (decide (a=c/\b=d)) w:=by
 have hS:Tryz.prog.underlying 122=some (.struct (Tryz.prog.fieldsOf 122)):=by kernel_rfl
 have hp:Tryz.prog.stoodInHeld 122=false:=by kernel_rfl
 unfold Op.equal
 rw [show Op.maxDepth=9999+1 from rfl,run_equalIn_struct w 9999 122 _ _ hS hp]
 simp only [Program.fieldsOf,Tryz.underlying122]
 go_simp
 by_cases h1:a=c <;> by_cases h2:b=d <;> simp [h1,h2]
theorem checkSeat (e:Bool) (a b:Int) (w:World):(Instr.checkKey e 10000 122 (kV a b)).run Tryz.prog w=.ok () w:=by
 cases e <;> kernel_rfl
def entE (h:HE):Value × Value:=(kV h.lv h.pg,hV h.fr h.kp)
def MapIs (w:World) (B:Nat) (m:List HE):Prop:=∃ es c,w.heap[B]?=some (.map es c)/\es.toList.map (fun e=>(e.key,e.val))=m.map entE
def isAt (lv pg:Int) (h:HE):Bool:=decide (lv=h.lv/\pg=h.pg)
def mGet (m:List HE) (lv pg:Int):Option HE:=m.find? (isAt lv pg)
theorem run_ask (lv pg:Int) (w:World):∀ (es:List MapEntry) (m:List HE) (i:Nat),es.map (fun e=>(e.key,e.val))=m.map entE->∃ j,(Instr.findAsking 122 (kV lv pg) es i).run Tryz.prog w=.ok ((mGet m lv pg).map fun h=>(j,hV h.fr h.kp)) w
 | [],m,i,h=>by
  have:m=[]:=by cases m with
   | nil=>rfl
   | cons a r=>simp at h
  subst this
  exact ⟨0,by simp [Instr.findAsking,mGet]⟩
 | e :: es,[],i,h=>by simp at h
 | e :: es,a :: r,i,h=>by
  simp only [List.map_cons,List.cons.injEq,entE,Prod.mk.injEq] at h
  obtain ⟨⟨h1,h2⟩,h3⟩:=h
  have hq:=eqSeat lv pg a.lv a.pg w
  by_cases hh:lv=a.lv/\pg=a.pg
  ·refine ⟨i,?_⟩
   rw [decide_eq_true hh] at hq
   unfold Instr.findAsking mGet
   rw [List.find?_cons_of_pos (by unfold isAt; exact decide_eq_true hh),h1]
   simp [hq,h2]
  ·obtain ⟨j,hj⟩:=run_ask lv pg w es r (i+1) h3
   refine ⟨j,?_⟩
   rw [decide_eq_false hh] at hq
   unfold Instr.findAsking mGet
   rw [List.find?_cons_of_neg (by unfold isAt; rw [decide_eq_false hh]; decide),h1]
   simp only [Sem.run_bind,hq,Result.andThen_ok,Bool.false_eq_true,if_false]
   exact hj
theorem run_find (lv pg:Int) (w:World) (es:List MapEntry) (m:List HE) (h:es.map (fun e=>(e.key,e.val))=m.map entE):∃ j,(Instr.findKey 122 (kV lv pg) es).run Tryz.prog w=.ok ((mGet m lv pg).map fun h=>(j,hV h.fr h.kp)) w:=by
 obtain ⟨j,hj⟩:=run_ask lv pg w es m 0 h
 refine ⟨j,?_⟩
 rw [<- hj]
 exact run_findKey_eq w (k:=122) (by kernel_rfl) _ _
theorem zeroHome (w:World):(zeroValue 126).run Tryz.prog w=.ok (hV 0 false) w:=by kernel_rfl
def lookV (m:List HE) (lv pg:Int):Value:=match mGet m lv pg with
 | some h=>hV h.fr h.kp
 | none=>hV 0 false
theorem run_look (B:Nat) (m:List HE) (lv pg:Int) (ok:Bool) (w:World) (h:MapIs w B m) :
  (Instr.lookup 89 (.map (some B)) (kV lv pg) ok).run Tryz.prog w=.ok (if ok then .tuple #[lookV m lv pg,.bool (mGet m lv pg).isSome] else lookV m lv pg) w:=by
 obtain ⟨es,c,hb,he⟩:=h
 obtain ⟨j,hj⟩:=run_find lv pg w es.toList m he
 unfold Instr.lookup lookV
 simp only [Sem.run_bind,run_underlying Tryz.underlying89,Result.andThen_ok,MapKept.run_getObj_map hb,Sem.run_pure,checkSeat,hj]
 cases hm:mGet m lv pg with
 | none=>cases ok <;> simp [zeroHome]
 | some q=>cases ok <;> simp
theorem run_put (B:Nat) (m:List HE) (x:HE) (w:World) (h:MapIs w B m) (hn:mGet m x.lv x.pg=none) :
  ∃ w',(Instr.mapUpdate 89 (.map (some B)) (kV x.lv x.pg) (hV x.fr x.kp)).run Tryz.prog w=.ok () w'/\MapIs w' B (m ++ [x])/\w.grownBy w' (some B)/\w'.heap.size=w.heap.size:=by
 obtain ⟨es,c,hb,he⟩:=h
 obtain ⟨j,hj⟩:=run_find x.lv x.pg w es.toList m he
 rw [hn] at hj
 have hlt:B < w.heap.size:=by
  rcases Nat.lt_or_ge B w.heap.size with h | h
  ·exact h
  ·rw [Array.getElem?_eq_none h] at hb; cases hb
 refine ⟨{ w with heap:=w.heap.setIfInBounds B (.map (es.push { key:=kV x.lv x.pg,val:=hV x.fr x.kp,born:=c }) (c+1)) },?_,⟨es.push { key:=kV x.lv x.pg,val:=hV x.fr x.kp,born:=c },c+1,?_,?_⟩,⟨rfl,rfl,rfl,by simp,fun k hk hne=>?_⟩,by simp⟩
 ·unfold Instr.mapUpdate
  simp only [Sem.run_bind,run_underlying Tryz.underlying89,Result.andThen_ok,MapKept.run_getObj_map hb,checkSeat,hj,Option.map_none]
  exact MapKept.run_setObj_map _ hb
 ·show (w.heap.setIfInBounds B _)[B]?=_
  rw [Array.getElem?_setIfInBounds_self_of_lt hlt]
 ·rw [Array.toList_push,List.map_append,List.map_append,he]
  rfl
 ·show (w.heap.setIfInBounds B _)[k]?=_
  rw [Array.getElem?_setIfInBounds_ne (fun e=>hne (by rw [e]))]
theorem MapIs.of_block {w w':World} {B:Nat} {m:List HE} (h:MapIs w B m) (hb:w'.heap[B]?=w.heap[B]?):MapIs w' B m:=by
 obtain ⟨es,c,h1,h2⟩:=h
 exact ⟨es,c,hb.trans h1,h2⟩
theorem MapIs.lt {w:World} {B:Nat} {m:List HE} (h:MapIs w B m):B < w.heap.size:=by
 obtain ⟨es,c,hb,he⟩:=h
 rcases Nat.lt_or_ge B w.heap.size with h | h
 ·exact h
 ·rw [Array.getElem?_eq_none h] at hb; cases hb
theorem MapIs.below {w w':World} {B:Nat} {m:List HE} (h:MapIs w B m) (hb:Below w.heap.size w w'):MapIs w' B m:=h.of_block (hb.block B h.lt)
theorem MapIs.new (w:World):MapIs (w.alloc (.map #[] 0)) w.heap.size []:=⟨#[],0,heap_alloc_new w _,rfl⟩
end Go.Proofs.YtnmhkgmmpkjjeacGreat
namespace Go.Proofs.YtnmhkgmmpkjjeacGreat
open Go.ChangeShapes Go.WideShapes Go.ChangeAt Go.RowKit
set_option linter.unusedVariables false
def eInt:Elt Int:=⟨3,1,fun x=>[.int .i64 x],0,by omega,fun _=>rfl⟩
theorem infoInt:(Tryz.prog.info? 3).map (fun i=>(i.zero,i.size,i.bytes))=some (some (.int .i64 0),1,8):=by kernel_rfl
theorem eInt_cells {w:World} {b g c:Nat} {xs:List Int} (h:ERow eInt w b (.slice (some ⟨g,0,none⟩) xs.length c) xs) (i:Nat) (hi:i < xs.length):g < w.heap.size/\w.cell? ⟨g,i,none⟩=some (.int .i64 (eAt eInt xs i)):=by
 obtain ⟨a,c',e,h1⟩:=h.form
 obtain ⟨g',N,f,e2,_,hr,hN,hf⟩:=h1 (by omega)
 have hN':xs.length * 1<=N:=hN
 simp only [Value.slice.injEq] at e
 obtain ⟨e,_,_⟩:=e
 rw [e2] at e
 simp only [Option.some.injEq,Addr.mk.injEq,and_true] at e
 subst e
 have h5:=hf i hi 0 (by decide)
 have e5:i * eInt.sz+0=i:=by show i * 1+0=i; omega
 rw [e5] at h5
 exact ⟨hr.lt,by rw [hr.cell (i:=i) (by omega)]; exact congrArg some h5⟩
end Go.Proofs.YtnmhkgmmpkjjeacGreat
namespace Go.Proofs.YtnmhkgmmpkjjeacGreat
open Go.ChangeShapes Go.WideShapes Go.ChangeAt Go.RowKit
set_option linter.unusedVariables false
set_option maxRecDepth 100000
attribute [local go_sem ↓] Go.wp_at_zero Go.wp_at_succ
theorem isNaN_any (x:Int) (w:World):Calls Tryz.prog 125 #[.int .i64 x] w fun e w'=>e=.returned (.bool false)/\w'=w:=by
 have d:(x != x)=false:=by simp
 go_enter Tryz.func125,Tryz.ntmps125
 go_wp2_with fail
 go_ret
 exact ⟨by first | rfl | simp,rfl⟩
theorem isNaN_any2 (x:Int) (w:World):Calls Tryz.prog 141 #[.int .i64 x] w fun e w'=>e=.returned (.bool false)/\w'=w:=by
 have d:(x != x)=false:=by simp
 go_enter Tryz.func141,Tryz.ntmps141
 go_wp2_with fail
 go_ret
 exact ⟨by first | rfl | simp,rfl⟩
def posOf (xs:List Int) (e:Int):Nat:=xs.countP (fun x=>decide (x < e))
def Rising (xs:List Int):Prop:=xs.Pairwise (fun a b=>a < b)
theorem rising_at {xs:List Int} (h:Rising xs) {i j:Nat} (hij:i < j) (hj:j < xs.length):eAt eInt xs i < eAt eInt xs j:=by
 unfold eAt
 rw [List.getD_eq_getElem?_getD,List.getD_eq_getElem?_getD,List.getElem?_eq_getElem hj,List.getElem?_eq_getElem (by omega)]
 exact List.pairwise_iff_getElem.1 h i j (by omega) hj hij
theorem pos_eq {xs:List Int} (h:Rising xs) {e:Int} {r:Nat} (hr:r<=xs.length) (h1:∀ t,t < r->eAt eInt xs t < e) (h2:∀ t,r<=t->t < xs.length->¬ eAt eInt xs t < e):posOf xs e=r:=by
 unfold posOf
 have e1:xs=xs.take r ++ xs.drop r:=(List.take_append_drop r xs).symm
 have at1:∀ t (ht:t < xs.length),xs[t]=eAt eInt xs t:=fun t ht=>by
  unfold eAt
  rw [List.getD_eq_getElem?_getD,List.getElem?_eq_getElem ht]
  rfl
 have c1:(xs.take r).countP (fun x=>decide (x < e))=r:=by
  have:(xs.take r).countP (fun x=>decide (x < e))=(xs.take r).length:=by
   rw [List.countP_eq_length]
   intro x hx
   obtain ⟨t,ht,rfl⟩:=List.getElem_of_mem hx
   rw [List.length_take] at ht
   rw [List.getElem_take,at1 t (by omega)]
   exact decide_eq_true (h1 t (by omega))
  rw [this,List.length_take]
  omega
 have c2:(xs.drop r).countP (fun x=>decide (x < e))=0:=by
  rw [List.countP_eq_zero]
  intro x hx
  obtain ⟨t,ht,rfl⟩:=List.getElem_of_mem hx
  rw [List.length_drop] at ht
  rw [List.getElem_drop,at1 (r+t) (by omega)]
  have:=h2 (r+t) (by omega) (by omega)
  simpa using this
 rw [e1,List.countP_append,c1,c2]
 rfl
def foundB (xs:List Int) (e:Int):Bool:=decide (posOf xs e < xs.length/\eAt eInt xs (posOf xs e)=e)
set_option maxHeartbeats 2000000 in
theorem bsearch_any (a:Option Addr) (c b:Nat) (xs:List Int) (e0:Int) (w:World) (hn:xs.length<=100000) (hs:Rising xs) (h:ERow eInt w b (.slice a xs.length c) xs) :
  Calls Tryz.prog 92 #[.slice a xs.length c,.int .i64 e0] w fun e w'=>e=.returned (.tuple #[.int .i64 (posOf xs e0:Nat),.bool (foundB xs e0)])/\Below w.heap.size w w'/\posOf xs e0<=xs.length:=by
 have HC:Hid (∀ t,t < xs.length->∃ g,a=some ⟨g,0,none⟩/\∀ wX,Below w.heap.size w wX->g < wX.heap.size/\wX.cell? ⟨g,t,none⟩=some (.int .i64 (eAt eInt xs t))):=fun t ht=>by
  obtain ⟨a',c',e,hf⟩:=h.form
  obtain ⟨g,N,f,e2,_⟩:=hf (by omega)
  simp only [Value.slice.injEq,true_and] at e
  obtain ⟨rfl,rfl⟩:=e
  subst e2
  exact ⟨g,rfl,fun wX hX=>eInt_cells (h.below hX) t ht⟩
 have HS:Hid (Rising xs):=hs
 have hless:=fun (x y:Int) (w:World) (b:Bool) (hb:decide (x < y)=b)=>(show Calls Tryz.prog 124 #[.int .i64 x,.int .i64 y] w fun e w'=>e=.returned (.bool b)/\w'=w from by
  have hq:=isNaN_any2 x
  subst hb
  go_enter Tryz.func124,Tryz.ntmps124
  go_wp2_with (go_at_call 141; refine (hq _).mono ?_; rintro e w1 ⟨rfl,hw1⟩; obtain rfl:=hw1.symm)
  go_ret
  exact ⟨by first | rfl | simp,rfl⟩)
 have HL:Hid _:=hless
 clear h hs hless
 go_enter Tryz.func92,Tryz.ntmps92
 go_wp2_with fail
 go_loopw [7,8] (fun s5 s6 wr=>∃ (lo hi:Nat),s5=.int .i64 lo/\s6=.int .i64 hi/\lo<=hi/\hi<=xs.length/\Hid ((∀ t,t < lo->eAt eInt xs t < e0)/\(∀ t,hi<=t->t < xs.length->e0<=eAt eInt xs t))/\Below w.heap.size w wr) (fun s5 s6 _=>(intOf s6).toNat - (intOf s5).toNat)
 case atStart=>exact ⟨0,xs.length,rfl,rfl,Nat.zero_le _,Nat.le_refl _,⟨fun t ht=>absurd ht (Nat.not_lt_zero _),fun t h1 h2=>by omega⟩,Below.refl _ _⟩
 case round =>
  obtain ⟨lo,hi,rfl,rfl,hlh,hin,I,hb⟩:=hrel
  by_cases hlt:lo < hi
  ·obtain ⟨g,rfl,hc0⟩:=HC.out ((lo+hi) / 2) (by omega)
   obtain ⟨hgl,c0⟩:=hc0 wr hb
   have e2:(((lo+hi) / 2:Nat):Int)=((lo:Int)+(hi:Int)) / 2:=by omega
   have HB:Hid (Below w.heap.size w wr):=hb
   obtain ⟨X,hX⟩:∃ X,eAt eInt xs ((lo+hi) / 2)=X:=⟨_,rfl⟩
   rw [hX] at c0
   have HX:Hid (eAt eInt xs ((lo+hi) / 2)=X):=hX
   have L1:(0:Int)<=((lo:Int)+(hi:Int)) / 2:=by omega
   have L2:((lo:Int)+(hi:Int)) / 2 < (xs.length:Int):=by omega
   have L3:(((lo:Int)+(hi:Int)) / 2).toNat=(lo+hi) / 2:=by omega
   clear hb hc0 hX
   by_cases hp:X < e0
   ·have hl:=fun wX=>HL.out X e0 wX true (decide_eq_true hp)
    have HP:Hid (X < e0):=hp
    clear hp
    go_wp2_with (go_at_call 124; refine (hl _).mono ?_; rintro e w' ⟨rfl,hw'⟩; obtain rfl:=hw'.symm)
    go_roundw
    case rel =>
     refine ⟨(lo+hi) / 2+1,hi,by rw [show ((lo:Int)+(hi:Int)) / 2+1=(((lo+hi) / 2+1:Nat):Int) by omega],rfl,by omega,hin,⟨fun t ht=>?_,I.out.2⟩,HB.out⟩
     by_cases et:t=(lo+hi) / 2
     ·rw [et,HX.out]; exact HP.out
     ·have:=rising_at HS.out (i:=t) (j:=(lo+hi) / 2) (by omega) (by omega)
      rw [HX.out] at this
      have:=HP.out
      omega
    case measure=>simp [intOf]; omega
   ·have hl:=fun wX=>HL.out X e0 wX false (decide_eq_false hp)
    have HP:Hid (e0<=X):=Int.not_lt.1 hp
    clear hp
    go_wp2_with (go_at_call 124; refine (hl _).mono ?_; rintro e w' ⟨rfl,hw'⟩; obtain rfl:=hw'.symm)
    go_roundw
    case rel =>
     refine ⟨lo,(lo+hi) / 2,rfl,by rw [show ((lo:Int)+(hi:Int)) / 2=(((lo+hi) / 2:Nat):Int) by omega],by omega,by omega,⟨I.out.1,fun t ht htn=>?_⟩,HB.out⟩
     by_cases et:t=(lo+hi) / 2
     ·rw [et,HX.out]; exact HP.out
     ·have:=rising_at HS.out (i:=(lo+hi) / 2) (j:=t) (by omega) htn
      rw [HX.out] at this
      have:=HP.out
      omega
    case measure=>simp [intOf]; omega
  ·obtain rfl:hi=lo:=by omega
   have HPO:Hid (posOf xs e0=hi):=pos_eq HS.out hin I.out.1 (fun t h1 h2=>Int.not_lt.2 (I.out.2 t h1 h2))
   by_cases hl:hi < xs.length
   ·obtain ⟨g,rfl,hc0⟩:=HC.out hi hl
    obtain ⟨hgl,c0⟩:=hc0 wr hb
    have dl:decide ((hi:Int) < (xs.length:Int))=true:=decide_eq_true (by omega)
    have L1:(0:Int)<=(hi:Int):=by omega
    have L2:(hi:Int) < (xs.length:Int):=by omega
    obtain ⟨X,hX⟩:∃ X,eAt eInt xs hi=X:=⟨_,rfl⟩
    rw [hX] at c0
    by_cases hx:X=e0
    ·have HF:Hid (foundB xs e0=true):=hidOf <| by unfold foundB; rw [HPO.out]; exact decide_eq_true ⟨hl,by rw [hX]; exact hx⟩
     have dx:(X == e0)=true:=by simpa using hx
     clear hX hx hc0
     go_wp2_with fail
     go_ret2
     exact ⟨by rw [HPO.out,HF.out]; rfl,hb,by rw [HPO.out]; exact hin⟩
    ·have HF:Hid (foundB xs e0=false):=hidOf <| by unfold foundB; rw [HPO.out]; exact decide_eq_false (fun h=>hx (by rw [<- hX]; exact h.2))
     have dx:(X == e0)=false:=by simpa using hx
     have hq:=isNaN_any X
     clear hX hx hc0
     go_wp2_with (go_at_call 125; refine (hq _).mono ?_; rintro e w1 ⟨rfl,hw1⟩; obtain rfl:=hw1.symm)
     go_ret2
     exact ⟨by rw [HPO.out,HF.out]; rfl,hb,by rw [HPO.out]; exact hin⟩
   ·have HF:Hid (foundB xs e0=false):=hidOf <| by unfold foundB; rw [HPO.out]; exact decide_eq_false (fun h=>hl h.1)
    have dl:decide ((hi:Int) < (xs.length:Int))=false:=decide_eq_false (by omega)
    go_wp2_with fail
    go_ret2
    exact ⟨by rw [HPO.out,HF.out]; rfl,hb,by rw [HPO.out]; exact hin⟩
end Go.Proofs.YtnmhkgmmpkjjeacGreat
namespace Go.Proofs.YtnmhkgmmpkjjeacGreat
open Go.ChangeShapes Go.WideShapes Go.ChangeAt Go.RowKit
set_option linter.unusedVariables false
set_option maxRecDepth 100000
theorem stmtL_kind (ts:List Txt):(stmtL ts).kind=0\/(stmtL ts).kind=1\/(stmtL ts).kind=2\/(stmtL ts).kind=3:=by
 unfold stmtL objL regL grdL
 repeat' split
 all_goals simp [noSt]
theorem l4Code_any (a:Option Addr) (c:Nat) (all:List St) (s:St) (w:World) (hle:all.length<=1000) (hr:StR w a all) (hall:∀ t ∈ all,StOk t) (hs:StOk s) (hk:s.kind=0\/s.kind=1\/s.kind=2\/s.kind=3) :
  Calls Tryz.prog 81 #[.slice a all.length c,stV s] w fun e w'=>e=.returned (.int .i64 (codeL all s))/\Below w.heap.size w w':=by
 obtain ⟨K,M,A,B,P,X⟩:=s
 dsimp only at hk
 rcases hk with rfl | rfl | rfl | rfl
 ·have e:codeL all ⟨0,M,A,B,P,X⟩=4:=rfl
  rw [e]
  exact code_0 a c all M A B P X w
 ·exact code_1 a c all M A B P X w hle hr hall ⟨hs.a0,hs.a1⟩ ⟨hs.b0,hs.b1⟩
 ·exact code_2 a c all M A B P X w hle hr hall hs
 ·exact code_3 a c all M A B P X w hle hr hall hs
def endsTo (ts:List Txt) (k:Nat):List Nat:=(List.range k).filter (fun i=>tAt ts i == [59])
theorem endsTo_succ (ts:List Txt) (k:Nat):endsTo ts (k+1)=if tAt ts k == [59] then endsTo ts k ++ [k] else endsTo ts k:=by
 unfold endsTo
 rw [List.range_succ,List.filter_append,List.filter_cons]
 split <;> simp
theorem endsTo_len (ts:List Txt) (k:Nat):(endsTo ts k).length<=k:=by
 unfold endsTo
 exact Nat.le_trans (List.length_filter_le _ _) (by simp)
theorem endsTo_lt (ts:List Txt) (k:Nat):∀ e ∈ endsTo ts k,e < k:=fun e he=>List.mem_range.1 (List.mem_filter.1 he).1
theorem endsTo_sorted (ts:List Txt) (k:Nat):(endsTo ts k).Pairwise (fun a b=>a < b):=List.Pairwise.filter _ (List.pairwise_lt_range)
def enAt (es:List Nat) (k:Nat):Nat:=es.getD k 0
def fromAt (es:List Nat):Nat->Nat
 | 0=>0
 | k+1=>enAt es k+1
def subL (ts:List Txt) (i j:Nat):List Txt:=(ts.drop i).take (j - i)
def stK (ts:List Txt) (es:List Nat) (k:Nat):St:=stmtL (subL ts (fromAt es k) (enAt es k))
def allTo (ts:List Txt) (es:List Nat) (k:Nat):List St:=(List.range k).map (stK ts es)
def codeK (ts:List Txt) (es:List Nat) (k:Nat):Int:=codeL (allTo ts es k) (stK ts es k)
theorem allTo_succ (ts:List Txt) (es:List Nat) (k:Nat):allTo ts es (k+1)=allTo ts es k ++ [stK ts es k]:=by
 unfold allTo
 rw [List.range_succ,List.map_append]
 rfl
theorem allTo_len (ts:List Txt) (es:List Nat) (k:Nat):(allTo ts es k).length=k:=by unfold allTo; simp
theorem allTo_ok (ts:List Txt) (es:List Nat) (k:Nat):∀ s ∈ allTo ts es k,StOk s:=by
 intro s hs
 unfold allTo at hs
 obtain ⟨i,_,rfl⟩:=List.mem_map.1 hs
 exact stmtL_ok _
theorem from_le {ts:List Txt} {n k:Nat} (h:k < (endsTo ts n).length):fromAt (endsTo ts n) k<=enAt (endsTo ts n) k/\enAt (endsTo ts n) k < n:=by
 have hm:enAt (endsTo ts n) k ∈ endsTo ts n:=by
  unfold enAt
  rw [List.getD_eq_getElem?_getD,List.getElem?_eq_getElem h]
  exact List.getElem_mem h
 refine ⟨?_,endsTo_lt ts n _ hm⟩
 cases k with
 | zero=>exact Nat.zero_le _
 | succ k =>
  have:=List.pairwise_iff_getElem.1 (endsTo_sorted ts n) k (k+1) (by omega) h (by omega)
  show enAt _ k+1<=enAt _ (k+1)
  unfold enAt
  rw [List.getD_eq_getElem?_getD,List.getD_eq_getElem?_getD,List.getElem?_eq_getElem h,List.getElem?_eq_getElem (by omega)]
  exact this
theorem from_le2 {ts:List Txt} {n k:Nat} (h:k<=(endsTo ts n).length):fromAt (endsTo ts n) k<=n:=by
 cases k with
 | zero=>exact Nat.zero_le _
 | succ k =>
  have:=(from_le (ts:=ts) (n:=n) (k:=k) (by omega)).2
  show enAt _ k+1<=n
  omega
def polE (ts:List Txt) (es:List Nat):List SpanE × Int × Int :=
 match (List.range es.length).find? (fun k=>!(codeK ts es k == 0)) with
 | some k=>([],codeK ts es k,(k:Nat))
 | none=>if fromAt es es.length < ts.length then ([],4,(es.length:Nat)) else (spansTo (allTo ts es es.length) 4096,0,0)
def polT (ts:List Txt):List SpanE × Int × Int :=
 if 1000 < (endsTo ts ts.length).length then ([],3,1000) else polE ts (endsTo ts ts.length)
def polL (text:Txt):List SpanE × Int × Int :=
 if 20000 < text.length then ([],1,0)
 else if 0<=badL 0 (blankL false text) then ([],2,badL 0 (blankL false text))
 else polT (tokL [] (blankL false text))
theorem polE_bad {ts:List Txt} {es:List Nat} {k:Nat} (hk:k < es.length) (h:∀ j,j < k->codeK ts es j=0) (h2:codeK ts es k ≠ 0):polE ts es=([],codeK ts es k,((k:Nat):Int)):=by
 unfold polE
 have e:(List.range es.length).find? (fun k=>!(codeK ts es k == 0))=some k:=by
  have e1:es.length=k+((es.length - k - 1)+1):=by omega
  rw [e1,List.range_add,List.find?_append,List.range_succ_eq_map,List.map_cons,List.find?_cons_of_pos (by simpa using h2)]
  have:(List.range k).find? (fun k=>!(codeK ts es k == 0))=none:=by
   rw [List.find?_eq_none]
   intro x hx
   rw [h x (List.mem_range.1 hx)]; decide
  rw [this]
  rfl
 rw [e]
theorem polE_good {ts:List Txt} {es:List Nat} (h:∀ j,j < es.length->codeK ts es j=0):polE ts es=if fromAt es es.length < ts.length then ([],(4:Int),((es.length:Nat):Int)) else (spansTo (allTo ts es es.length) 4096,(0:Int),(0:Int)):=by
 unfold polE
 have:(List.range es.length).find? (fun k=>!(codeK ts es k == 0))=none:=by
  rw [List.find?_eq_none]
  intro x hx
  rw [h x (List.mem_range.1 hx)]; decide
 rw [this]
theorem blankL_len:∀ (b:Bool) (l:Txt),(blankL b l).length=l.length
 | _,[]=>rfl
 | b,c :: r=>by
  unfold blankL
  rw [List.length_cons,List.length_cons,blankL_len]
theorem tokL_bd:∀ (w l:Txt),(tokL w l).length<=w.length+l.length/\∀ t ∈ tokL w l,t.length<=w.length+l.length
 | w,[]=>by
  unfold tokL flush
  split
  ·simp
  ·rename_i h
   have:0 < w.length:=List.length_pos_iff.2 h
   refine ⟨by simp; omega,fun t ht=>?_⟩
   rw [List.mem_singleton] at ht
   subst ht
   simp
 | w,c :: r=>by
  unfold tokL
  split
  ·obtain ⟨h1,h2⟩:=tokL_bd (w ++ [c]) r
   rw [List.length_append,List.length_singleton] at h1 h2
   exact ⟨by rw [List.length_cons]; omega,fun t ht=>by have:=h2 t ht; rw [List.length_cons]; omega⟩
  ·obtain ⟨h1,h2⟩:=tokL_bd [] r
   simp only [List.length_nil,Nat.zero_add] at h1 h2
   have hf:(flush w).length<=w.length/\∀ t ∈ flush w,t.length<=w.length:=by
    unfold flush
    split
    ·simp
    ·rename_i h
     have:0 < w.length:=List.length_pos_iff.2 h
     exact ⟨by simp; omega,fun t ht=>by rw [List.mem_singleton] at ht; subst ht; exact Nat.le_refl _⟩
   refine ⟨?_,fun t ht=>?_⟩
   ·rw [List.length_append,List.length_append,List.length_cons]
    have:(if decide (c.toNat=59)=true then [[59]] else ([]:List Txt)).length<=1:=by split <;> simp
    omega
   ·rw [List.length_cons]
    rcases List.mem_append.1 ht with ht | ht
    ·have:=hf.2 t ht; omega
    ·rcases List.mem_append.1 ht with ht | ht
     ·split at ht
      ·rw [List.mem_singleton] at ht
       subst ht
       show 1<=_
       omega
      ·cases ht
     ·have:=h2 t ht; omega
theorem subL_at {ts:List Txt} {i j k:Nat} (hj:j<=ts.length) (hk:k < j - i):tAt (subL ts i j) k=tAt ts (i+k):=by
 unfold subL tAt
 rw [List.getD_eq_getElem?_getD,List.getD_eq_getElem?_getD,List.getElem?_take,if_pos hk,List.getElem?_drop]
theorem subL_len {ts:List Txt} {i j:Nat} (hij:i<=j) (hj:j<=ts.length):(subL ts i j).length=j - i:=by
 unfold subL
 rw [List.length_take,List.length_drop]
 omega
end Go.Proofs.YtnmhkgmmpkjjeacGreat
