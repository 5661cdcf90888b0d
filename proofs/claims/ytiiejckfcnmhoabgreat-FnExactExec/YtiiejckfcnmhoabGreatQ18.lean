import Derived.Test.YtiiejckfcnmhoabGreatQ16
import Derived.Test.YtiiejckfcnmhoabGreatQ06
import Derived.Test.YtiiejckfcnmhoabGreatQ12
import Derived.Test.YtiiejckfcnmhoabGreatQ07
namespace Go.Proofs.YtiiejckfcnmhoabGreat
open Go.ChangeShapes Go.WideShapes Go.ChangeAt Go.RowKit
set_option linter.unusedVariables false
theorem Touch.none {S:Nat->Prop} (a:World):Touch S a a:=⟨rfl,rfl,rfl,Nat.le_refl _,fun _ _ _=>rfl⟩
theorem Touch.put {S:Nat->Prop} {a w:World} (h:Touch S a w) (p:Addr) (v:Value) (hp:S p.block):Touch S a (w.setCell p v) :=
 ⟨h.os,h.tape,h.output,by simpa using h.size,fun k hk hn=>(Below.heap_setCell _ _ _ _ (fun e=>hn (by rw [e]; exact hp))).trans (h.block k hk hn)⟩
theorem put4t {w wF:World} {B:Nat} {v0 v1 v2 v3:Value} (h:wF=((((w.setCell ⟨B,0,Option.none⟩ v0).setCell ⟨B,1,Option.none⟩ v1).setCell ⟨B,2,Option.none⟩ v2).setCell ⟨B,3,Option.none⟩ v3)):Touch (fun k=>k=B) w wF:=by
 subst h
 exact Touch.put (Touch.put (Touch.put (Touch.put (Touch.none _) _ _ (by rfl)) _ _ (by rfl)) _ _ (by rfl)) _ _ (by rfl)
theorem put7t {w wF:World} {B:Nat} {v0 v1 v2 v3 v4 v5 v6:Value} (h:wF=(((((((w.setCell ⟨B,0,Option.none⟩ v0).setCell ⟨B,1,Option.none⟩ v1).setCell ⟨B,2,Option.none⟩ v2).setCell ⟨B,3,Option.none⟩ v3).setCell ⟨B,4,Option.none⟩ v4).setCell ⟨B,5,Option.none⟩ v5).setCell ⟨B,6,Option.none⟩ v6)):Touch (fun k=>k=B) w wF:=by
 subst h
 exact Touch.put (Touch.put (Touch.put (Touch.put (Touch.put (Touch.put (Touch.put (Touch.none _) _ _ (by rfl)) _ _ (by rfl)) _ _ (by rfl)) _ _ (by rfl)) _ _ (by rfl)) _ _ (by rfl)) _ _ (by rfl)
def keepTo {α:Type} (E:Elt α) (c:Bool) (i:Int) (xs:List α):Nat->List α
 | 0=>[]
 | k+1=>if c && decide ((k:Int)=i) then keepTo E c i xs k else keepTo E c i xs k ++ [eAt E xs k]
theorem keepTo_skip {α:Type} (E:Elt α) (i:Int) (xs:List α) (k:Nat) (h:(k:Int)=i):keepTo E true i xs (k+1)=keepTo E true i xs k:=by
 conv=>lhs; unfold keepTo
 rw [if_pos (by simp [h])]
theorem keepTo_take {α:Type} (E:Elt α) (c:Bool) (i:Int) (xs:List α) (k:Nat) (h:c=false\/¬ (k:Int)=i):keepTo E c i xs (k+1)=keepTo E c i xs k ++ [eAt E xs k]:=by
 conv=>lhs; unfold keepTo
 rw [if_neg]
 simp only [Bool.and_eq_true,decide_eq_true_eq,not_and]
 rcases h with h | h
 ·intro h2; rw [h] at h2; cases h2
 ·intro _; exact h
theorem keepTo_len {α:Type} (E:Elt α) (c:Bool) (i:Int) (xs:List α):∀ k,(keepTo E c i xs k).length<=k
 | 0=>Nat.le_refl _
 | k+1=>by
  unfold keepTo
  have:=keepTo_len E c i xs k
  split
  ·omega
  ·simp; omega
theorem keepTo_none {α:Type} (E:Elt α) (c:Bool) (i:Int) (xs:List α):∀ k,k<=xs.length->(c=false\/i < 0\/(k:Int)<=i)->keepTo E c i xs k=xs.take k
 | 0,_,_=>by simp [keepTo]
 | k+1,hk,h=>by
  rw [keepTo_take E c i xs k (by rcases h with h | h | h <;> first | exact .inl h | (right; omega)),keepTo_none E c i xs k (by omega) (by rcases h with h | h | h <;> first | exact .inl h | (right; omega)),take_snocE E xs k (by omega)]
theorem keepTo_some {α:Type} (E:Elt α) (j:Nat) (xs:List α) (hj:j < xs.length):∀ k,j+k+1<=xs.length->keepTo E true (j:Int) xs (j+k+1)=xs.take j ++ (xs.drop (j+1)).take k
 | 0,_=>by
  rw [Nat.add_zero,keepTo_skip E _ xs j rfl,keepTo_none E true _ xs j (by omega) (by right; right; omega)]
  simp
 | k+1,h=>by
  rw [show j+(k+1)+1=(j+k+1)+1 by omega,keepTo_take E true _ xs (j+k+1) (by right; omega),keepTo_some E j xs hj k (by omega),List.append_assoc]
  congr 1
  have hk:k < (xs.drop (j+1)).length:=by rw [List.length_drop]; omega
  rw [List.take_succ_eq_append_getElem hk]
  congr 1
  simp only [List.getElem_drop,List.cons.injEq,and_true]
  have e:j+1+k=j+k+1:=by omega
  simp [eAt,e,show j+k+1 < xs.length by omega]
theorem keepTo_at {α:Type} (E:Elt α) (j:Nat) (xs:List α) (hj:j < xs.length):keepTo E true (j:Int) xs xs.length=xs.take j ++ xs.drop (j+1):=by
 obtain ⟨k,hk⟩:∃ k,xs.length=j+k+1:=⟨xs.length - j - 1,by omega⟩
 have h:=keepTo_some E j xs hj k (by omega)
 rw [<- hk] at h
 rw [h,List.take_of_length_le (l:=xs.drop (j+1)) (by rw [List.length_drop]; omega)]
theorem keepTo_all {α:Type} (E:Elt α) (c:Bool) (i:Int) (xs:List α) (h:c=false\/i < 0\/(xs.length:Int)<=i):keepTo E c i xs xs.length=xs:=by
 rw [keepTo_none E c i xs xs.length (Nat.le_refl _) h,List.take_length]
theorem ERow.snocL {α:Type} {E:Elt α} {w:World} {B:Nat} {v:Value} {ys:List α} {x:α} {m:Nat} (hm:m=ys.length+1) (h:w.ownsRow B E.T E.sz v m (ecells E ys ++ E.enc x)):ERow E w B v (ys ++ [x]):=by
 unfold ERow
 have e2:ecells E (ys ++ [x])=ecells E ys ++ E.enc x:=by
  rw [ecells_append]; simp [ecells]
 rw [List.length_append,e2]
 rw [hm] at h
 exact h
def dropM (M:Mach) (which i:Int):Mach:=if validB M then ⟨M.mem,M.pend,keepTo eTlb (decide (which=0)) i M.tlb M.tlb.length,keepTo eWc (decide (which=1)) i M.wc M.wc.length⟩ else zM
attribute [local go_sem ↓] Go.wp_at_zero Go.wp_at_succ
def covTo (M:Mach) (page:Int):Nat->List TlbE
 | 0=>[]
 | k+1=>if tlbCov (eAt eTlb M.tlb k) page then covTo M page k ++ [eAt eTlb M.tlb k] else covTo M page k
theorem covTo_yes {M:Mach} {page:Int} {k:Nat} (h:tlbCov (eAt eTlb M.tlb k) page=true):covTo M page (k+1)=covTo M page k ++ [eAt eTlb M.tlb k]:=by
 conv=>lhs; unfold covTo
 rw [if_pos h]
theorem covTo_no {M:Mach} {page:Int} {k:Nat} (h:tlbCov (eAt eTlb M.tlb k) page=false):covTo M page (k+1)=covTo M page k:=by
 conv=>lhs; unfold covTo
 rw [if_neg (by rw [h]; simp)]
theorem covTo_len (M:Mach) (page:Int):∀ k,(covTo M page k).length<=k
 | 0=>Nat.le_refl _
 | k+1=>by
  unfold covTo
  have:=covTo_len M page k
  split
  ·simp; omega
  ·omega
theorem covTo_mem {M:Mach} {page:Int} {x:TlbE}:∀ t,x ∈ covTo M page t->∃ j,j < t/\x=eAt eTlb M.tlb j/\tlbCov (eAt eTlb M.tlb j) page=true
 | 0,h=>by simp [covTo] at h
 | k+1,h=>by
  cases hc:tlbCov (eAt eTlb M.tlb k) page
  ·rw [covTo_no hc] at h
   obtain ⟨j,a,b,c⟩:=covTo_mem k h
   exact ⟨j,by omega,b,c⟩
  ·rw [covTo_yes hc,List.mem_append] at h
   rcases h with h | h
   ·obtain ⟨j,a,b,c⟩:=covTo_mem k h
    exact ⟨j,by omega,b,c⟩
   ·exact ⟨k,by omega,by simpa using h,hc⟩
theorem covTo_in {M:Mach} {page:Int} (j:Nat) (hc:tlbCov (eAt eTlb M.tlb j) page=true):∀ t,j < t->eAt eTlb M.tlb j ∈ covTo M page t
 | 0,h=>by omega
 | k+1,h=>by
  by_cases hj:j=k
  ·subst hj
   rw [covTo_yes hc]
   simp
  ·have h1:=covTo_in j hc k (by omega)
   cases hk:tlbCov (eAt eTlb M.tlb k) page
   ·rw [covTo_no hk]; exact h1
   ·rw [covTo_yes hk]; exact List.mem_append_left _ h1
theorem covTo_nil {M:Mach} {page:Int}:∀ t,(∀ j,j < t->tlbCov (eAt eTlb M.tlb j) page=false)->covTo M page t=[]
 | 0,_=>rfl
 | k+1,h=>by rw [covTo_no (h k (by omega)),covTo_nil k (fun j hj=>h j (by omega))]
theorem covTo_head {M:Mach} {page:Int} (f:Nat) (hf:tlbCov (eAt eTlb M.tlb f) page=true) (hn:∀ j,j < f->tlbCov (eAt eTlb M.tlb j) page=false):∀ t,f < t->∃ r,covTo M page t=eAt eTlb M.tlb f :: r
 | 0,h=>by omega
 | k+1,h=>by
  by_cases hj:f=k
  ·subst hj
   exact ⟨[],by rw [covTo_yes hf,covTo_nil f hn]; rfl⟩
  ·obtain ⟨r,hr⟩:=covTo_head f hf hn k (by omega)
   cases hk:tlbCov (eAt eTlb M.tlb k) page
   ·exact ⟨r,by rw [covTo_no hk,hr]⟩
   ·exact ⟨r ++ [eAt eTlb M.tlb k],by rw [covTo_yes hk,hr]; rfl⟩
structure CovAll (M:Mach) (page:Int) (cs:List TlbE):Prop where
 nil:cs.length=0->¬ firstC M page < M.tlb.length
 pos:0 < cs.length->firstC M page < M.tlb.length/\eAt eTlb cs 0=eAt eTlb M.tlb (firstC M page)
 bad:∀ i,i < cs.length->sameB (eAt eTlb cs 0) (eAt eTlb cs i)=false->clashC M page=true
 good:(∀ i,i < cs.length->sameB (eAt eTlb cs 0) (eAt eTlb cs i)=true)->0 < cs.length->clashC M page=false
theorem eAt_mem {cs:List TlbE} {i:Nat} (h:i < cs.length):eAt eTlb cs i ∈ cs:=by
 unfold eAt
 rw [List.getD_eq_getElem?_getD,List.getElem?_eq_getElem h]
 exact List.getElem_mem h
theorem mem_eAt {cs:List TlbE} {x:TlbE} (h:x ∈ cs):∃ i,i < cs.length/\eAt eTlb cs i=x:=by
 obtain ⟨i,hi,e⟩:=List.mem_iff_getElem.1 h
 exact ⟨i,hi,by unfold eAt; rw [List.getD_eq_getElem?_getD,List.getElem?_eq_getElem hi]; exact e⟩
theorem covAll (M:Mach) (page:Int):CovAll M page (covTo M page M.tlb.length):=by
 by_cases h:∀ j,j < M.tlb.length->tlbCov (eAt eTlb M.tlb j) page=false
 ·have e:=covTo_nil _ h
  have hf:=firstC_none h
  rw [e]
  exact ⟨fun _=>by omega,fun h'=>by simp at h',fun i hi=>by simp at hi,fun _ h'=>by simp at h'⟩
 ·have hlt:firstC M page < M.tlb.length:=by
   refine Nat.lt_of_not_le (fun hge=>h (fun j hj=>?_))
   cases hc:tlbCov (eAt eTlb M.tlb j) page
   ·rfl
   ·exfalso
    have hex:∃ t,t < M.tlb.length/\tlbCov (eAt eTlb M.tlb t) page=true/\∀ i,i < t->tlbCov (eAt eTlb M.tlb i) page=false:=by
     have:∀ n,(∃ t,t<=n/\t < M.tlb.length/\tlbCov (eAt eTlb M.tlb t) page=true)->∃ t,t < M.tlb.length/\tlbCov (eAt eTlb M.tlb t) page=true/\∀ i,i < t->tlbCov (eAt eTlb M.tlb i) page=false:=by
      intro n
      induction n with
      | zero =>
       rintro ⟨t,h0,h1,h2⟩
       exact ⟨t,h1,h2,fun i hi=>by omega⟩
      | succ n ih =>
       rintro ⟨t,h0,h1,h2⟩
       by_cases hx:∃ t',t'<=n/\t' < M.tlb.length/\tlbCov (eAt eTlb M.tlb t') page=true
       ·exact ih hx
       ·refine ⟨t,h1,h2,fun i hi=>?_⟩
        cases hi2:tlbCov (eAt eTlb M.tlb i) page
        ·rfl
        ·exact absurd ⟨i,by omega,by omega,hi2⟩ hx
     exact this j ⟨j,Nat.le_refl _,hj,hc⟩
    obtain ⟨t,h1,h2,h3⟩:=hex
    have:=firstC_at t h1 h3 h2
    omega
  have hcov:tlbCov (eAt eTlb M.tlb (firstC M page)) page=true:=firstR_hit (fun i=>tlbCov (eAt eTlb M.tlb i) page) M.tlb.length 0 (by simpa [firstC] using hlt)
  have hbef:∀ j,j < firstC M page->tlbCov (eAt eTlb M.tlb j) page=false:=by
   intro j hj
   cases hc:tlbCov (eAt eTlb M.tlb j) page
   ·rfl
   ·exfalso
    have:∀ n,(∃ t,t<=n/\t < firstC M page/\tlbCov (eAt eTlb M.tlb t) page=true)->False:=by
     intro n
     induction n with
     | zero =>
      rintro ⟨t,h0,h1,h2⟩
      have:=firstC_at t (by omega) (fun i hi=>by omega) h2
      omega
     | succ n ih =>
      rintro ⟨t,h0,h1,h2⟩
      by_cases hx:∃ t',t'<=n/\t' < firstC M page/\tlbCov (eAt eTlb M.tlb t') page=true
      ·exact ih hx
      ·have:=firstC_at t (by omega) (fun i hi=>by
        cases hi2:tlbCov (eAt eTlb M.tlb i) page
        ·rfl
        ·exact absurd ⟨i,by omega,by omega,hi2⟩ hx) h2
       omega
    exact this j ⟨j,Nat.le_refl _,hj,hc⟩
  obtain ⟨r,hr⟩:=covTo_head _ hcov hbef M.tlb.length hlt
  have h0:eAt eTlb (covTo M page M.tlb.length) 0=eAt eTlb M.tlb (firstC M page):=by rw [hr]; rfl
  refine ⟨fun e=>by rw [hr] at e; simp at e,fun _=>⟨hlt,h0⟩,fun i hi hs=>?_,fun hs _=>?_⟩
  ·obtain ⟨j,a,b,c⟩:=covTo_mem _ (eAt_mem hi)
   refine clash_yes j a c ?_
   rw [<- b,<- h0]
   exact hs
  ·refine clash_no (fun t ht hc=>?_)
   obtain ⟨i,hi,e⟩:=mem_eAt (covTo_in t hc _ ht)
   rw [<- h0,<- e]
   exact hs i hi
theorem allows_any (perm need:Int) (hp0:0<=perm) (hp1:perm<=7) (hn:needOk need=true) (w:World) :
  Calls Tryz.prog 90 #[.int .i64 perm,.int .i64 need] w fun e w'=>e=.returned (.bool (decide (perm / need % 2=1)))/\w'=w:=by
 have hnz:need=1\/need=2\/need=4:=by
  unfold needOk at hn
  simp only [Bool.or_eq_true,decide_eq_true_eq] at hn
  omega
 have T1:perm.tdiv need=perm / need:=Int.tdiv_eq_ediv_of_nonneg hp0
 have T2:0<=perm / need:=by rcases hnz with h | h | h <;> subst h <;> omega
 have T3:(perm / need).tmod 2=perm / need % 2:=Int.tmod_eq_emod_of_nonneg T2
 have N0:¬ need=0:=by omega
 have N0':(need == 0)=false:=by simpa using N0
 have W1:IntKind.i64.wrap (perm / need)=perm / need:=by rw [IntKind.wrap_i64]; rcases hnz with h | h | h <;> subst h <;> omega
 by_cases hx:perm / need % 2=1
 ·have hx':(perm / need % 2 == 1)=true:=by simpa using hx
  rw [decide_eq_true hx]
  clear hx hn hnz
  go_enter Tryz.func90,Tryz.ntmps90
  go_wp2
  go_ret
  exact ⟨rfl,rfl⟩
 ·have hx':(perm / need % 2 == 1)=false:=by simpa using hx
  rw [decide_eq_false hx]
  clear hx hn hnz
  go_enter Tryz.func90,Tryz.ntmps90
  go_wp2
  go_ret
  exact ⟨rfl,rfl⟩
theorem look_any (page need out perm:Int) (hp0:0<=perm) (hp1:perm<=7) (hn:needOk need=true) (w:World) :
  Calls Tryz.prog 41 #[.int .i64 page,.int .i64 need,.int .i64 out,.int .i64 perm] w fun e w'=>e=.returned (seenV (lookS page need out perm))/\Below w.heap.size w w':=by
 have ha:=allows_any perm need hp0 hp1 hn
 unfold lookS seenV
 by_cases hx:perm / need % 2=1
 ·rw [if_pos hx]
  rw [decide_eq_true hx] at ha
  clear hx hn
  go_enter Tryz.func41,Tryz.ntmps41
  go_wp2_with (go_at_call 90; refine (ha _).mono ?_; rintro e wE ⟨rfl,hwE⟩; obtain rfl:=hwE.symm)
  exact bodyPost_ret (v:=.agg #[.int .i64 page,.int .i64 need,.int .i64 1,.int .i64 out]) (by simp [results,Tryz.results41,go_sem]) rfl ⟨rfl,bal⟩
 ·rw [if_neg hx]
  rw [decide_eq_false hx] at ha
  clear hx hn
  go_enter Tryz.func41,Tryz.ntmps41
  go_wp2_with (go_at_call 90; refine (ha _).mono ?_; rintro e wE ⟨rfl,hwE⟩; obtain rfl:=hwE.symm)
  exact bodyPost_ret (v:=.agg #[.int .i64 page,.int .i64 need,.int .i64 2,.int .i64 0]) (by simp [results,Tryz.results41,go_sem]) rfl ⟨rfl,bal⟩
end Go.Proofs.YtiiejckfcnmhoabGreat
