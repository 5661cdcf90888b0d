import Derived.Test.YtnmhkgmmpkjjeacGreatG00
import Derived.Test.YtnmhkgmmpkjjeacGreatG03
import Derived.Test.YtnmhkgmmpkjjeacGreatG04
import Derived.WalkKit
import Derived.ProofKit
import Derived.Below
namespace Go.Proofs.YtnmhkgmmpkjjeacGreat
open Go.ChangeShapes Go.WideShapes Go.ChangeAt Go.RowKit
set_option linter.unusedVariables false
structure OpE where
 kind:Int
 a:Int
 b:Int
 word:Int
def eOp:Elt OpE:=⟨74,4,fun x=>[.int .i64 x.kind,.int .i64 x.a,.int .i64 x.b,.int .u64 x.word],⟨0,0,0,0⟩,by omega,fun _=>rfl⟩
theorem infoOp:(Tryz.prog.info? 74).map (fun i=>(i.zero,i.size,i.bytes))=some (some (.agg #[.int .i64 0,.int .i64 0,.int .i64 0,.int .u64 0]),4,32):=by kernel_rfl
end Go.Proofs.YtnmhkgmmpkjjeacGreat
namespace Go.Proofs.YtnmhkgmmpkjjeacGreat
open Go.ChangeShapes Go.WideShapes Go.ChangeAt Go.RowKit
set_option linter.unusedVariables false
attribute [local go_sem ↓] Go.wp_at_zero Go.wp_at_succ
structure SpanE where
 page:Int
 count:Int
 out:Int
 perm:Int
 huge:Bool
def eSpan:Elt SpanE:=⟨81,5,fun x=>[.int .i64 x.page,.int .i64 x.count,.int .i64 x.out,.int .i64 x.perm,.bool x.huge],⟨0,0,0,0,false⟩,by omega,fun _=>rfl⟩
theorem infoSpan:(Tryz.prog.info? 81).map (fun i=>(i.zero,i.size,i.bytes))=some (some (.agg #[.int .i64 0,.int .i64 0,.int .i64 0,.int .i64 0,.bool false]),5,40):=by kernel_rfl
def eWord:Elt Int:=⟨70,1,fun x=>[.int .u64 x],0,by omega,fun _=>rfl⟩
theorem IRow.erow {w:World} {g base:Nat} {zs:List Int} (h:IRow w g zs) (hb:base<=g) (hn:zs.length<=1048576):ERow eWord w base (.slice (some ⟨g,0,none⟩) zs.length zs.length) zs:=by
 refine ERow.of_row (cap:=zs.length) rfl hb h (by simp [eWord]) (Nat.le_refl _) (by unfold maxLen; omega) ?_
 intro i hi j hj
 have:j=0:=by simp [eWord] at hj; omega
 subst this
 simp [eCell,eWord,eAt]
theorem eWord_form {w:World} {base:Nat} {v:Value} {zs:List Int} (h:ERow eWord w base v zs):∃ a cap,v=.slice a zs.length cap/\(0 < zs.length->∃ g N f,a=some ⟨g,0,none⟩/\base<=g/\w.rowIs g 70 N f/\zs.length<=N/\∀ i,i < zs.length->f i=.int .u64 (zs.getD i 0)):=by
 obtain ⟨a,c,e,ha⟩:=h.form
 refine ⟨a,c,e,fun h0=>?_⟩
 obtain ⟨g,N,f,p,q,r,s,t⟩:=ha h0
 refine ⟨g,N,f,p,q,r,by simpa [eWord] using s,fun i hi=>?_⟩
 have:=t i hi 0 (by decide)
 simpa [eCell,eWord,eAt] using this
def markWord (s:Int) (i _j:Nat):Value:=.int .u64 (s+i)
end Go.Proofs.YtnmhkgmmpkjjeacGreat
namespace Go.Proofs.YtnmhkgmmpkjjeacGreat
open Go.ChangeShapes Go.WideShapes Go.ChangeAt Go.RowKit
set_option linter.unusedVariables false
theorem ew_row {w:World} {b c:Nat} {a:Option Addr} {zs:List Int} (h:ERow eWord w b (.slice a zs.length c) zs) (h0:0 < zs.length):∃ g,a=some ⟨g,0,none⟩/\b<=g/\zs.length<=c/\CRow w g zs:=by
 have h':=h
 rcases h.2 with ⟨e,h0'⟩ | ⟨g,cap,cur,e,hb,hg,hn,hm,hs,ht⟩
 ·omega
 ·simp only [Value.slice.injEq] at e
  obtain ⟨rfl,_,rfl⟩:=e
  obtain ⟨a',c',e,ha⟩:=eWord_form h'
  obtain ⟨g',N,f,e1,_,hr,hN,hf⟩:=ha h0
  simp only [Value.slice.injEq] at e
  rw [<- e.1] at e1
  cases e1
  refine ⟨g,rfl,hb,hn,hr.lt,fun i hi=>?_⟩
  have:=hr.cell (i:=i) (by omega)
  rwa [hf i hi] at this
end Go.Proofs.YtnmhkgmmpkjjeacGreat
namespace Go.Proofs.YtnmhkgmmpkjjeacGreat
open Go.ChangeShapes Go.WideShapes Go.ChangeAt Go.RowKit
theorem hidOf {p:Prop} (h:p):Hid p:=h
end Go.Proofs.YtnmhkgmmpkjjeacGreat
namespace Go.Proofs.YtnmhkgmmpkjjeacGreat
open Go.ChangeShapes Go.WideShapes Go.ChangeAt Go.RowKit
set_option linter.unusedVariables false
set_option linter.unusedSimpArgs false
def compR (ra rb:List SpanE × Int × Int) (rc:List Int × Int) (rd:List OpE × Int):List OpE × Int × Int :=
 if ra.2.1 ≠ 0 then ([],100+ra.2.1,ra.2.2) else if rb.2.1 ≠ 0 then ([],200+rb.2.1,rb.2.2) else if rc.2 ≠ 0 then ([],300+rc.2,0) else if rd.2 ≠ 0 then ([],400+rd.2,0) else (rd.1,0,0)
def CompPost (w:World) (r:List OpE × Int × Int) (e:Ending) (w':World):Prop :=
 ∃ a c,e=.returned (.tuple #[.slice a r.1.length c,.agg #[.int .i64 r.2.1,.int .i64 r.2.2]])/\ERow eOp w' w.heap.size (.slice a r.1.length c) r.1/\Below w.heap.size w w'
theorem CompPost.drew {w W:World} {r:List OpE × Int × Int} {e:Ending} (h:CompPost w r e W):CompPost w r e W.drew:=by
 obtain ⟨a,c,h1,h2,h3⟩:=h
 exact ⟨a,c,h1,h2.below (Below.refl _ _).drew,h3.drew⟩
theorem box2 {w:World} {g:Nat} {u0 u1:Value} (v0 v1:Value) (q0:w.cell? ⟨g,0,none⟩=some u0) (q1:w.cell? ⟨g,1,none⟩=some u1) :
  ((w.setCell ⟨g,0,none⟩ v0).setCell ⟨g,1,none⟩ v1).drew.cell? ⟨g,0,none⟩=some v0/\((w.setCell ⟨g,0,none⟩ v0).setCell ⟨g,1,none⟩ v1).drew.cell? ⟨g,1,none⟩=some v1:=by
 constructor
 ·show ((w.setCell ⟨g,0,none⟩ v0).setCell ⟨g,1,none⟩ v1).cell? ⟨g,0,none⟩=some v0
  simp [go_sem,q0]
 ·show ((w.setCell ⟨g,0,none⟩ v0).setCell ⟨g,1,none⟩ v1).cell? ⟨g,1,none⟩=some v1
  simp [go_sem,q1]
def memR (ra rb:List SpanE × Int × Int) (rc:List Int × Int) (rd:List OpE × Int):List Int:=if ra.2.1=0/\rb.2.1=0/\rc.2=0/\rd.2=0 then rc.1 else []
def CompI (w:World) (m:List Int) (r:List OpE × Int × Int) (e:Ending) (w':World):Prop :=
 ∃ am cm a c,e=.returned (.tuple #[.agg #[.slice am m.length cm],.slice a r.1.length c,.agg #[.int .i64 r.2.1,.int .i64 r.2.2]])/\ERow eWord w' w.heap.size (.slice am m.length cm) m/\ERow eOp w' w.heap.size (.slice a r.1.length c) r.1/\Below w.heap.size w w'
theorem CompI.drew {w W:World} {m:List Int} {r:List OpE × Int × Int} {e:Ending} (h:CompI w m r e W):CompI w m r e W.drew:=by
 obtain ⟨am,cm,a,c,h1,h2,h3,h4⟩:=h
 exact ⟨am,cm,a,c,h1,h2.below (Below.refl _ _).drew,h3.below (Below.refl _ _).drew,h4.drew⟩
theorem eWord_none (w:World) (B:Nat):ERow eWord w B (.slice none 0 0) []:=⟨by simp [ecells],.inl ⟨rfl,rfl⟩⟩
theorem box3 {w:World} {g h:Nat} {u0 u1 u2:Value} (v0 v1 v2:Value) (hne:g ≠ h) (q0:w.cell? ⟨g,0,none⟩=some u0) (q1:w.cell? ⟨h,0,none⟩=some u1) (q2:w.cell? ⟨h,1,none⟩=some u2) :
  (((w.setCell ⟨g,0,none⟩ v0).setCell ⟨h,0,none⟩ v1).setCell ⟨h,1,none⟩ v2).cell? ⟨g,0,none⟩=some v0/\(((w.setCell ⟨g,0,none⟩ v0).setCell ⟨h,0,none⟩ v1).setCell ⟨h,1,none⟩ v2).cell? ⟨h,0,none⟩=some v1/\(((w.setCell ⟨g,0,none⟩ v0).setCell ⟨h,0,none⟩ v1).setCell ⟨h,1,none⟩ v2).cell? ⟨h,1,none⟩=some v2:=by
 have hne2:h ≠ g:=fun e=>hne e.symm
 refine ⟨?_,?_,?_⟩
 ·simp [go_sem,q0]
 ·simp [go_sem,q1]
 ·simp [go_sem,q2]
theorem eOp_none (w:World) (B:Nat):ERow eOp w B (.slice none 0 0) []:=⟨by simp [ecells],.inl ⟨rfl,rfl⟩⟩
theorem eOp_free {w':World} {B:Nat} (g:Nat) (h:w'.heap[g]?=some (.cells #[] 74)) (hg:B<=g):ERow eOp w' B (.slice (some ⟨g,0,none⟩) 0 0) [] :=
 ⟨by simp [ecells],.inr ⟨g,0,#[],rfl,hg,h,Nat.le_refl _,Nat.zero_le _,by simp,by simp [ecells]⟩⟩
end Go.Proofs.YtnmhkgmmpkjjeacGreat
namespace Go.Proofs.YtnmhkgmmpkjjeacGreat
open Go.ChangeShapes Go.WideShapes Go.ChangeAt Go.RowKit
set_option linter.unusedVariables false
attribute [local go_sem ↓] Go.wp_at_zero Go.wp_at_succ
def wfS (x:SpanE):Prop:=-9223372036854775808<=x.page/\x.page<=9223372036854775807/\-9223372036854775808<=x.count/\x.count<=9223372036854775807/\-9223372036854775808<=x.out/\x.out<=9223372036854775807/\-9223372036854775808<=x.perm/\x.perm<=9223372036854775807
def spanOk (x:SpanE):Bool:=decide (1<=x.count/\0<=x.page/\x.page+x.count<=4096/\0<=x.out/\x.out+x.count<=65536/\1<=x.perm/\x.perm<=7)
theorem spanOk_iff {x:SpanE}:spanOk x=true ↔ (1<=x.count/\0<=x.page/\x.page+x.count<=4096/\0<=x.out/\x.out+x.count<=65536/\1<=x.perm/\x.perm<=7):=by simp [spanOk]
def joinsB (a b:SpanE):Bool:=decide (b.page=a.page+a.count/\b.out=a.out+a.count/\b.perm=a.perm/\b.huge=a.huge)
def pairOk (a b:SpanE):Bool:=decide (a.page+a.count<=b.page) && !joinsB a b
def VS (xs:List SpanE):Prop:=(∀ i,i < xs.length->spanOk (eAt eSpan xs i)=true)/\∀ i,i+1 < xs.length->pairOk (eAt eSpan xs i) (eAt eSpan xs (i+1))=true
def vsB (xs:List SpanE):Bool:=(List.range xs.length).all (fun i=>spanOk (eAt eSpan xs i)) && (List.range (xs.length - 1)).all (fun i=>pairOk (eAt eSpan xs i) (eAt eSpan xs (i+1)))
theorem vsB_iff {xs:List SpanE}:vsB xs=true ↔ VS xs:=by
 unfold vsB VS
 rw [Bool.and_eq_true,List.all_eq_true,List.all_eq_true]
 exact ⟨fun h=>⟨fun i hi=>h.1 i (List.mem_range.2 hi),fun i hi=>h.2 i (List.mem_range.2 (by omega))⟩,fun h=>⟨fun i hi=>h.1 i (List.mem_range.1 hi),fun i hi=>h.2 i (by have:=List.mem_range.1 hi; omega)⟩⟩
theorem vsB_true {xs:List SpanE} (h:VS xs):vsB xs=true:=vsB_iff.2 h
theorem vsB_false {xs:List SpanE} (h:¬ VS xs):vsB xs=false:=by
 cases hb:vsB xs
 ·rfl
 ·exact absurd (vsB_iff.1 hb) h
theorem VS.of_true {xs:List SpanE} (h:vsB xs=true):VS xs:=vsB_iff.1 h
end Go.Proofs.YtnmhkgmmpkjjeacGreat
namespace Go.Proofs.YtnmhkgmmpkjjeacGreat
structure Ht where
 k:Int
 o:Int
 p:Int
 s:Int
def zHt:Ht:=⟨0,0,0,0⟩
def inS (e:SpanE) (page:Int):Bool:=decide (e.page<=page/\page < e.page+e.count)
def bigB (e:SpanE) (page:Int):Bool:=e.huge && decide (e.page<=page - page % 16/\page - page % 16+16<=e.page+e.count/\(e.out+(page - page % 16) - e.page) % 16=0)
def hitS (e:SpanE) (page:Int):Ht:=⟨1,e.out+page - e.page,e.perm,if bigB e page then 16 else 1⟩
def atL (xs:List SpanE) (page:Int):Ht:=match xs.find? (fun e=>inS e page) with
 | some e=>hitS e page
 | none=>zHt
theorem find_hit (page:Int):∀ (xs:List SpanE) (k:Nat),k < xs.length->(∀ j,j < k->inS (eAt eSpan xs j) page=false)->inS (eAt eSpan xs k) page=true->xs.find? (fun e=>inS e page)=some (eAt eSpan xs k)
 | [],k,hk,_,_=>absurd hk (by simp)
 | x :: r,0,_,_,h=>by
  have h':inS x page=true:=h
  rw [List.find?_cons_of_pos (by exact h')]
  rfl
 | x :: r,k+1,hk,hn,h=>by
  have h0:inS x page=false:=hn 0 (by omega)
  rw [List.find?_cons_of_neg (by rw [h0]; decide)]
  exact find_hit page r k (by simpa using hk) (fun j hj=>hn (j+1) (by omega)) h
theorem at_hit (page:Int) (xs:List SpanE) (k:Nat) (hk:k < xs.length) (hn:∀ j,j < k->inS (eAt eSpan xs j) page=false) (h:inS (eAt eSpan xs k) page=true):atL xs page=hitS (eAt eSpan xs k) page:=by
 unfold atL
 rw [find_hit page xs k hk hn h]
theorem at_none (page:Int) (xs:List SpanE) (hn:∀ j,j < xs.length->inS (eAt eSpan xs j) page=false):atL xs page=zHt:=by
 have:xs.find? (fun e=>inS e page)=none:=by
  rw [List.find?_eq_none]
  intro e he
  obtain ⟨i,hi,rfl⟩:=List.getElem_of_mem he
  have:=hn i hi
  unfold eAt at this
  rw [List.getD_eq_getElem?_getD,List.getElem?_eq_getElem hi] at this
  have h2:inS xs[i] page=false:=this
  rw [h2]; decide
 unfold atL
 rw [this]
theorem VS.order {xs:List SpanE} (h:VS xs) (i:Nat):∀ d,i+d+1 < xs.length->(eAt eSpan xs i).page+(eAt eSpan xs i).count<=(eAt eSpan xs (i+d+1)).page
 | 0,hd=>by
  have:=h.2 i hd
  unfold pairOk at this
  simp only [Bool.and_eq_true,decide_eq_true_eq] at this
  exact this.1
 | d+1,hd=>by
  have h1:=VS.order h i d (by omega)
  have h2:=h.2 (i+d+1) hd
  unfold pairOk at h2
  simp only [Bool.and_eq_true,decide_eq_true_eq] at h2
  have h3:=spanOk_iff.1 (h.1 (i+d+1) (by omega))
  have h4:=h2.1
  have e:i+(d+1)+1=i+d+1+1:=by omega
  rw [e]
  omega
theorem VS.lt {xs:List SpanE} (h:VS xs) (i j:Nat) (hij:i < j) (hj:j < xs.length):(eAt eSpan xs i).page+(eAt eSpan xs i).count<=(eAt eSpan xs j).page:=by
 have:=h.order i (j - i - 1) (by omega)
 rwa [show i+(j - i - 1)+1=j by omega] at this
def endAft (xs:List SpanE) (page:Int) (i:Nat):Bool:=decide (page < (eAt eSpan xs i).page+(eAt eSpan xs i).count)
theorem endAft_mono {xs:List SpanE} (h:VS xs) (page:Int) (a b:Nat) (hab:a<=b) (hb:b < xs.length) (ha:endAft xs page a=true):endAft xs page b=true:=by
 by_cases e:a=b
 ·rw [<- e]; exact ha
 ·have h1:=h.lt a b (by omega) hb
  have h2:=spanOk_iff.1 (h.1 b hb)
  unfold endAft at ha ⊢
  simp only [decide_eq_true_eq] at ha ⊢
  omega
theorem at_search_none {xs:List SpanE} (h:VS xs) (page:Int) (r:Nat) (h1:∀ t,t < r->endAft xs page t=false) (h2:r=xs.length\/(r < xs.length/\endAft xs page r=true/\page < (eAt eSpan xs r).page)):atL xs page=zHt:=by
 refine at_none page xs (fun j hj=>?_)
 unfold inS
 rw [decide_eq_false_iff_not]
 by_cases hjr:j < r
 ·have:=h1 j hjr
  unfold endAft at this
  simp only [decide_eq_false_iff_not] at this
  omega
 ·rcases h2 with e | ⟨hr,he,hp⟩
  ·omega
  ·by_cases e:j=r
   ·rw [e]; omega
   ·have h3:=h.lt r j (by omega) hj
    have h4:=spanOk_iff.1 (h.1 r hr)
    omega
theorem at_search_hit {xs:List SpanE} (page:Int) (r:Nat) (hr:r < xs.length) (h1:∀ t,t < r->endAft xs page t=false) (he:endAft xs page r=true) (hp:(eAt eSpan xs r).page<=page):atL xs page=hitS (eAt eSpan xs r) page:=by
 refine at_hit page xs r hr (fun j hj=>?_) ?_
 ·have:=h1 j hj
  unfold endAft at this
  simp only [decide_eq_false_iff_not] at this
  unfold inS
  rw [decide_eq_false_iff_not]
  omega
 ·unfold endAft at he
  unfold inS
  simp only [decide_eq_true_eq] at he ⊢
  exact ⟨hp,he⟩
def atA (xs:List SpanE) (page:Int):Ht:=if vsB xs=true/\0<=page/\page < 4096 then atL xs page else zHt
end Go.Proofs.YtnmhkgmmpkjjeacGreat
namespace Go.Proofs.YtnmhkgmmpkjjeacGreat
open Go.ChangeShapes Go.WideShapes Go.ChangeAt Go.RowKit
set_option linter.unusedVariables false
theorem spCells {w:World} {b cap:Nat} {a:Option Addr} {xs:List SpanE} (h:ERow eSpan w b (.slice a xs.length cap) xs) :
  ∃ g,(0 < xs.length->a=some ⟨g,0,none⟩/\g < w.heap.size)/\∀ k P C O R G,k < xs.length->eAt eSpan xs k=⟨P,C,O,R,G⟩->∀ wX,Below w.heap.size w wX->wX.cell? ⟨g,k * 5,none⟩=some (.int .i64 P)/\wX.cell? ⟨g,k * 5+1,none⟩=some (.int .i64 C)/\wX.cell? ⟨g,k * 5+2,none⟩=some (.int .i64 O)/\wX.cell? ⟨g,k * 5+3,none⟩=some (.int .i64 R)/\wX.cell? ⟨g,k * 5+4,none⟩=some (.bool G):=by
 obtain ⟨a',c',e,hf⟩:=h.form
 simp only [Value.slice.injEq] at e
 obtain ⟨rfl,_,_⟩:=e
 by_cases h0:0 < xs.length
 ·obtain ⟨g,N,f,rfl,_,hr,hN,hc⟩:=hf h0
  have hN':xs.length * 5<=N:=hN
  refine ⟨g,fun _=>⟨rfl,hr.lt⟩,fun k P C O R G hk he wX hX=>?_⟩
  have hr1:wX.rowIs g 81 N f:=hr.of_block (hX.block g hr.lt)
  have c:∀ j,j < 5->wX.cell? ⟨g,k * 5+j,none⟩=some (eCell eSpan xs k j):=fun j hj=>by
   rw [hr1.cell (by omega)]
   exact congrArg some (hc k hk j hj)
  have e0:∀ j,eCell eSpan xs k j=((eSpan.enc ⟨P,C,O,R,G⟩)[j]?).getD (.bool false):=fun j=>by unfold eCell; rw [he]
  exact ⟨(c 0 (by omega)).trans (by rw [e0]; rfl),(c 1 (by omega)).trans (by rw [e0]; rfl),(c 2 (by omega)).trans (by rw [e0]; rfl),(c 3 (by omega)).trans (by rw [e0]; rfl),(c 4 (by omega)).trans (by rw [e0]; rfl)⟩
 ·exact ⟨0,fun h=>absurd h h0,fun k P C O R G hk=>absurd hk (by omega)⟩
end Go.Proofs.YtnmhkgmmpkjjeacGreat
namespace Go.Proofs.YtnmhkgmmpkjjeacGreat
open Go.ChangeShapes Go.WideShapes Go.ChangeAt Go.RowKit
set_option linter.unusedVariables false
attribute [local go_sem ↓] Go.wp_at_zero Go.wp_at_succ
theorem eqOp_same (A:Int) (B:Int) (C:Int) (D:Int) (w:World) :
  Calls Tryz.prog 49 #[.agg #[.int .i64 A,.int .i64 B,.int .i64 C,.int .u64 D],.agg #[.int .i64 A,.int .i64 B,.int .i64 C,.int .u64 D]] w fun e w'=>e=.returned (.bool true)/\Below w.heap.size w w':=by
 go_enter Tryz.func49,Tryz.ntmps49
 go_wp2
 go_ret
 exact ⟨rfl,((Below.refl _ _).alloc (Nat.le_refl _) _).alloc (by simp) _⟩
theorem eqOpS_same (v u:Value) (bv bu:Nat) (xs:List OpE) (w:World) (hn:xs.length<=1048576) (hv:ERow eOp w bv v xs) (hu:ERow eOp w bu u xs) :
  Calls Tryz.prog 12 #[v,u] w fun e w'=>e=.returned (.bool true)/\Below w.heap.size w w':=by
 obtain ⟨a,c,rfl,ha⟩:=hv.form
 obtain ⟨b,d,rfl,hb⟩:=hu.form
 clear hv hu
 go_enter Tryz.func12,Tryz.ntmps12
 go_wp2
 go_loopw [5] (fun i wr=>∃ k:Nat,k<=xs.length/\i=.int .i64 k/\Below w.heap.size w wr) (fun i _=>xs.length - (intOf i).toNat)
 case atStart=>exact ⟨0,Nat.zero_le _,rfl,Below.refl _ _⟩
 case round =>
  obtain ⟨k,hk,rfl,hbl⟩:=hrel
  by_cases hlt:k < xs.length
  ·obtain ⟨g,N,f,rfl,_,hr,hN,hf⟩:=ha (by omega)
   obtain ⟨h,M,f',rfl,_,hr',hM,hf'⟩:=hb (by omega)
   have hN':xs.length * 4<=N:=hN
   have hM':xs.length * 4<=M:=hM
   have hr1:wr.rowIs g 74 N f:=hr.of_block (hbl.block g hr.lt)
   have hr2:wr.rowIs h 74 M f':=hr'.of_block (hbl.block h hr'.lt)
   have q0:=hr1.cell (i:=k * 4) (by omega)
   have q1:=hr1.cell (i:=k * 4+1) (by omega)
   have q2:=hr1.cell (i:=k * 4+2) (by omega)
   have q3:=hr1.cell (i:=k * 4+3) (by omega)
   have r0:=hr2.cell (i:=k * 4) (by omega)
   have r1:=hr2.cell (i:=k * 4+1) (by omega)
   have r2:=hr2.cell (i:=k * 4+2) (by omega)
   have r3:=hr2.cell (i:=k * 4+3) (by omega)
   rw [show f (k * 4)=_ from hf k hlt 0 (by decide)] at q0
   rw [show f (k * 4+1)=_ from hf k hlt 1 (by decide)] at q1
   rw [show f (k * 4+2)=_ from hf k hlt 2 (by decide)] at q2
   rw [show f (k * 4+3)=_ from hf k hlt 3 (by decide)] at q3
   rw [show f' (k * 4)=_ from hf' k hlt 0 (by decide)] at r0
   rw [show f' (k * 4+1)=_ from hf' k hlt 1 (by decide)] at r1
   rw [show f' (k * 4+2)=_ from hf' k hlt 2 (by decide)] at r2
   rw [show f' (k * 4+3)=_ from hf' k hlt 3 (by decide)] at r3
   have n1:=hr1.lt
   have n2:=hr2.lt
   have HB:Hid (Below w.heap.size w wr):=hbl
   clear hf hf' ha hb hr hr' hr1 hr2 hbl hN hM
   have c0:wr.cell? ⟨g,k * 4,none⟩=some (.int .i64 (eAt eOp xs k).kind):=q0
   have d0:wr.cell? ⟨h,k * 4,none⟩=some (.int .i64 (eAt eOp xs k).kind):=r0
   have c1:wr.cell? ⟨g,k * 4+1,none⟩=some (.int .i64 (eAt eOp xs k).a):=q1
   have d1:wr.cell? ⟨h,k * 4+1,none⟩=some (.int .i64 (eAt eOp xs k).a):=r1
   have c2:wr.cell? ⟨g,k * 4+2,none⟩=some (.int .i64 (eAt eOp xs k).b):=q2
   have d2:wr.cell? ⟨h,k * 4+2,none⟩=some (.int .i64 (eAt eOp xs k).b):=r2
   have c3:wr.cell? ⟨g,k * 4+3,none⟩=some (.int .u64 (eAt eOp xs k).word):=q3
   have d3:wr.cell? ⟨h,k * 4+3,none⟩=some (.int .u64 (eAt eOp xs k).word):=r3
   clear q0 r0 q1 r1 q2 r2 q3 r3
   generalize (eAt eOp xs k).kind=A at *
   generalize (eAt eOp xs k).a=B at *
   generalize (eAt eOp xs k).b=C at *
   generalize (eAt eOp xs k).word=D at *
   have L1:(0:Int)<=(k:Int):=by omega
   have L2:(k:Int) < (xs.length:Int):=by omega
   have he:=eqOp_same A B C D
   have HK:Hid (∀ w',Below wr.heap.size wr w'->w'.cell? ⟨g,k * 4,none⟩=some (.int .i64 A)/\w'.cell? ⟨g,k * 4+1,none⟩=some (.int .i64 B)/\w'.cell? ⟨g,k * 4+2,none⟩=some (.int .i64 C)/\w'.cell? ⟨g,k * 4+3,none⟩=some (.int .u64 D)/\w'.cell? ⟨h,k * 4,none⟩=some (.int .i64 A)/\w'.cell? ⟨h,k * 4+1,none⟩=some (.int .i64 B)/\w'.cell? ⟨h,k * 4+2,none⟩=some (.int .i64 C)/\w'.cell? ⟨h,k * 4+3,none⟩=some (.int .u64 D)) :=
    fun w' hX=>⟨(hX.cell n1).trans c0,(hX.cell n1).trans c1,(hX.cell n1).trans c2,(hX.cell n1).trans c3,(hX.cell n2).trans d0,(hX.cell n2).trans d1,(hX.cell n2).trans d2,(hX.cell n2).trans d3⟩
   go_wp2
   go_region_held3 (fun w'=>w'.cell? ⟨g,k * 4,none⟩=some (.int .i64 A)/\w'.cell? ⟨g,k * 4+1,none⟩=some (.int .i64 B)/\w'.cell? ⟨g,k * 4+2,none⟩=some (.int .i64 C)/\w'.cell? ⟨g,k * 4+3,none⟩=some (.int .u64 D)/\w'.cell? ⟨h,k * 4,none⟩=some (.int .i64 A)/\w'.cell? ⟨h,k * 4+1,none⟩=some (.int .i64 B)/\w'.cell? ⟨h,k * 4+2,none⟩=some (.int .i64 C)/\w'.cell? ⟨h,k * 4+3,none⟩=some (.int .u64 D))
    ((refine HK.out _ ?_; repeat (first | exact Below.refl _ _ | with_reducible refine Below.drew ?_ | refine Below.trans ?_ (hb1.mono (by first | omega | (simp <;> omega))))))
    (first | (go_at_call 49; refine (he _).mono ?_; rintro e w1 ⟨rfl,hb1⟩))
   go_wp2
   go_roundw
   case rel=>exact ⟨k+1,by omega,by go_num,HB.out.trans ((Below.refl _ _).drew.trans (hb1.mono HB.out.size))⟩
   case measure=>simp [intOf]; omega
  ·go_wp2
   go_ret
   exact ⟨rfl,hbl⟩
def markOp (s:Int) (i j:Nat):Value :=
 match j with
 | 0=>.int .i64 (s+i * 4)
 | 1=>.int .i64 (s+i * 4+1)
 | 2=>.int .i64 (s+i * 4+1+1)
 | 3=>.int .u64 (s+i * 4+1+1+1)
 | _=>.bool false
theorem markOpS_any (v:Value) (bv:Nat) (xs:List OpE) (s:Int) (w:World) (hs0:0<=s) (hs1:s<=100000000) (hn:xs.length<=1048576) (hv:ERow eOp w bv v xs) :
  Calls Tryz.prog 17 #[v,.int .i64 s] w fun e w'=>e=.returned (.int .i64 (s+xs.length * 4))/\EHas eOp w' v xs.length (markOp s)/\w.grownBy w' v.ownBlock:=by
 obtain ⟨a,c,rfl,ha⟩:=hv.form
 by_cases h0:xs.length=0
 ·rw [h0]
  clear ha hv
  go_enter Tryz.func17,Tryz.ntmps17
  go_wp2
  go_loopw [1,5] (fun m i wr=>i=.int .i64 0/\m=.int .i64 s/\wr=w) (fun _ i _=>0)
  case atStart=>exact ⟨rfl,rfl,rfl⟩
  case round =>
   obtain ⟨rfl,rfl,rfl⟩:=hrel
   go_wp2
   go_ret
   exact ⟨by simp,⟨a,c,rfl,fun h=>absurd h (by omega)⟩,World.grownBy.refl _ _⟩
 ·obtain ⟨g,N,f,rfl,_,hr,hN,hf⟩:=ha (by omega)
  have hN':xs.length * 4<=N:=hN
  clear ha hf hv hN
  go_enter Tryz.func17,Tryz.ntmps17
  go_wp2
  go_loopw [1,5] (fun m i wr=>∃ k:Nat,k<=xs.length/\i=.int .i64 k/\m=.int .i64 (s+k * 4)/\(∃ f,wr.rowIs g 74 N f/\∀ i,i < k->∀ j,j < 4->f (i * 4+j)=markOp s i j)/\w.grownBy wr (some g)) (fun _ i _=>xs.length - (intOf i).toNat)
  case atStart=>exact ⟨0,Nat.zero_le _,rfl,by simp,⟨_,hr,fun i hi=>absurd hi (by omega)⟩,World.grownBy.refl _ _⟩
  case round =>
   obtain ⟨k,hk,rfl,rfl,⟨f,hrow,hf⟩,hb⟩:=hrel
   by_cases hlt:k < xs.length
   ·have HF:Hid _:=hf
    have HROW:Hid (wr.rowIs g _ N f):=hrow
    have HB:Hid (w.grownBy wr _):=hb
    have f0:=hrow.frozen (k * 4)
    have o0:=hrow.cell (i:=k * 4) (by omega)
    have f1:=hrow.frozen (k * 4+1)
    have o1:=hrow.cell (i:=k * 4+1) (by omega)
    have f2:=hrow.frozen (k * 4+2)
    have o2:=hrow.cell (i:=k * 4+2) (by omega)
    have f3:=hrow.frozen (k * 4+3)
    have o3:=hrow.cell (i:=k * 4+3) (by omega)
    generalize f (k * 4)=u100 at o0
    generalize f (k * 4+1)=u101 at o1
    generalize f (k * 4+2)=u102 at o2
    generalize f (k * 4+3)=u103 at o3
    have L1:(0:Int)<=(k:Int):=by omega
    have L2:(k:Int) < (xs.length:Int):=by omega
    clear hf hrow hb hr
    go_wp2
    go_roundw
    case rel =>
     refine ⟨k+1,by omega,by go_num,by go_num,⟨_,(((HROW.out.set (k * 4) _).set (k * 4+1) _).set (k * 4+2) _).set (k * 4+3) _,?_⟩,eGrown_set (eGrown_set (eGrown_set (eGrown_set (HB.out) _ _) _ _) _ _) _ _⟩
     intro i hi j hj
     by_cases e:i=k
     ·subst e
      rcases (show j=0\/j=1\/j=2\/j=3 by omega) with rfl | rfl | rfl | rfl
      ·simp [markOp]
      ·simp [markOp]
      ·simp [markOp]
      ·simp [markOp]
     ·have hik:i < k:=by omega
      rw [<- HF.out i hik j hj]
      rw [if_neg (by omega)]; rw [if_neg (by omega)]; rw [if_neg (by omega)]; rw [if_neg (by omega)]
    case measure=>simp [intOf]; omega
   ·have e:k=xs.length:=by omega
    subst e
    go_wp2
    go_ret
    exact ⟨rfl,⟨_,c,rfl,fun _=>⟨g,N,f,rfl,hrow,hN',hf⟩⟩,hb⟩
theorem heldOpS_any (v:Value) (n:Nat) (s:Int) (w:World) (hs0:0<=s) (hs1:s<=100000000) (hn:n<=1048576) (hv:EHas eOp w v n (markOp s)) :
  Calls Tryz.prog 18 #[v,.int .i64 s] w fun e w'=>e=.returned (.int .i64 (s+n * 4))/\Below w.heap.size w w':=by
 obtain ⟨a,c,rfl,ha⟩:=hv
 go_enter Tryz.func18,Tryz.ntmps18
 go_wp2
 go_loopw [1,5] (fun m i wr=>∃ k:Nat,k<=n/\i=.int .i64 k/\m=.int .i64 (s+k * 4)/\Below w.heap.size w wr) (fun _ i _=>n - (intOf i).toNat)
 case atStart=>exact ⟨0,Nat.zero_le _,rfl,by simp,Below.refl _ _⟩
 case round =>
  obtain ⟨k,hk,rfl,rfl,hb⟩:=hrel
  by_cases hlt:k < n
  ·obtain ⟨g,N,f,rfl,hr,hN,hf⟩:=ha (by omega)
   have hN':n * 4<=N:=hN
   have hr1:wr.rowIs g 74 N f:=hr.of_block (hb.block g hr.lt)
   have q0:=hr1.cell (i:=k * 4) (by omega)
   have q1:=hr1.cell (i:=k * 4+1) (by omega)
   have q2:=hr1.cell (i:=k * 4+2) (by omega)
   have q3:=hr1.cell (i:=k * 4+3) (by omega)
   rw [show f (k * 4)=_ from hf k hlt 0 (by decide)] at q0
   rw [show f (k * 4+1)=_ from hf k hlt 1 (by decide)] at q1
   rw [show f (k * 4+2)=_ from hf k hlt 2 (by decide)] at q2
   rw [show f (k * 4+3)=_ from hf k hlt 3 (by decide)] at q3
   have c0:wr.cell? ⟨g,k * 4,none⟩=some (.int .i64 (s+k * 4)):=q0
   have c1:wr.cell? ⟨g,k * 4+1,none⟩=some (.int .i64 (s+k * 4+1)):=q1
   have c2:wr.cell? ⟨g,k * 4+2,none⟩=some (.int .i64 (s+k * 4+1+1)):=q2
   have c3:wr.cell? ⟨g,k * 4+3,none⟩=some (.int .u64 (s+k * 4+1+1+1)):=q3
   clear q0 q1 q2 q3
   have L1:(0:Int)<=(k:Int):=by omega
   have L2:(k:Int) < (n:Int):=by omega
   clear hf ha hr hr1 hN
   go_wp2
   go_roundw
   case rel=>exact ⟨k+1,by omega,by go_num,by go_num,hb⟩
   case measure=>simp [intOf]; omega
  ·have e:k=n:=by omega
   subst e
   go_wp2
   go_ret
   exact ⟨rfl,hb⟩
end Go.Proofs.YtnmhkgmmpkjjeacGreat
