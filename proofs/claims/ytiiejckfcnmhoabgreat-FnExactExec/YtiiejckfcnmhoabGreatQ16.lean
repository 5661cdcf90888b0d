import Derived.Test.YtiiejckfcnmhoabGreatQ12
import Derived.Test.YtiiejckfcnmhoabGreatQ10
import Derived.Test.YtiiejckfcnmhoabGreatQ15
import Derived.Deep.RegionHeld3
namespace Go.Proofs.YtiiejckfcnmhoabGreat
open Go.ChangeShapes Go.WideShapes Go.ChangeAt Go.RowKit
set_option linter.unusedVariables false
def zM:Mach:=⟨[],[],[],[]⟩
def zS:SV:=⟨none,0,none,0,none,0,none,0⟩
theorem ERow.nilz {α:Type} (E:Elt α) (w:World) (b:Nat):ERow E w b (.slice none 0 0) []:=⟨by simp [ecells],.inl ⟨rfl,rfl⟩⟩
theorem zM_row (w:World) (b:Nat):MRow w b (zS.mv zM) zM:=⟨ERow.nilz _ _ _,ERow.nilz _ _ _,ERow.nilz _ _ _,ERow.nilz _ _ _⟩
theorem zM_apart:(zS.mv zM).apart:=fun k=>⟨fun h=>(by cases h),fun h=>(by cases h),fun h=>(by cases h)⟩
theorem zM_small:zM.Small:=⟨by simp [zM],by simp [zM],by simp [zM],by simp [zM]⟩
def fillM (M:Mach) (page choice:Int):Mach:=if validB M && pageOk page && choiceOk choice then (walkM M page choice).1 else zM
theorem walkM_ok {M:Mach} (h:WOk M) (page choice:Int):WOk (walkM M page choice).1:=goM_ok page choice _ h _ _ _
def pairB (M:Mach) (i j:Nat):Bool:=meets (eAt eTlb M.tlb i).page (eAt eTlb M.tlb i).size (eAt eTlb M.tlb j).page (eAt eTlb M.tlb j).size && !sameB (eAt eTlb M.tlb i) (eAt eTlb M.tlb j)
def confT (M:Mach):Bool:=anyR (fun j=>anyR (fun i=>pairB M i j) j) M.tlb.length
def confB (M:Mach):Bool:=validB M && confT M
theorem anyR_none (f:Nat->Bool):∀ n,(∀ i,i < n->f i=false)->anyR f n=false
 | 0,_=>rfl
 | n+1,h=>by rw [anyR_succ,anyR_none f n (fun i hi=>h i (by omega)),h n (by omega)]; rfl
theorem sameB_comm (a b:TlbE):sameB a b=sameB b a:=by
 unfold sameB
 rw [Bool.eq_iff_iff]
 simp only [Bool.and_eq_true,decide_eq_true_eq]
 constructor <;> (rintro ⟨⟨⟨h1,h2⟩,h3⟩,h4⟩; exact ⟨⟨⟨h1.symm,h2.symm⟩,h3.symm⟩,h4.symm⟩)
structure TRng (e:TlbE):Prop where
 p0:0<=e.page
 p1:e.page < 4096
 s:e.size=1\/e.size=16
 m:e.page % e.size=0
theorem valid_trng {M:Mach} (hv:validB M=true) (i:Nat) (hi:i < M.tlb.length):TRng (eAt eTlb M.tlb i):=by
 have h1:=valid_tlb hv i hi
 unfold tlbOkB at h1
 simp only [Bool.and_eq_true,Bool.or_eq_true,decide_eq_true_eq] at h1
 have h2:0<=(eAt eTlb M.tlb i).page/\(eAt eTlb M.tlb i).page < 4096:=by simpa [pageOk] using h1.1.1.1.1.1.1.2
 exact ⟨h2.1,h2.2,h1.1.1.1.1.1.1.1,h1.1.1.1.1.1.2⟩
theorem cov_iff {e:TlbE} (he:TRng e) (p:Int) (hp:0<=p):tlbCov e p=true ↔ e.page<=p/\p < e.page+e.size:=by
 unfold tlbCov
 have hm:=he.m
 rcases he.s with h | h <;> rw [h] at hm ⊢ <;> simp only [decide_eq_true_eq] <;> omega
structure SeenR where
 page:Int
 need:Int
 kind:Int
 out:Int
def seenV (x:SeenR):Value:=.agg #[.int .i64 x.page,.int .i64 x.need,.int .i64 x.kind,.int .i64 x.out]
def needOk (n:Int):Bool:=decide (n=1) || decide (n=2) || decide (n=4)
def lookS (page need out perm:Int):SeenR:=if perm / need % 2=1 then ⟨page,need,1,out⟩ else ⟨page,need,2,0⟩
def seenH (page need:Int) (h:HitR):SeenR:=if h.kind=1 then lookS page need h.out h.perm else ⟨page,need,h.kind,0⟩
def firstC (M:Mach) (page:Int):Nat:=firstR (fun i=>tlbCov (eAt eTlb M.tlb i) page) M.tlb.length 0
def clashC (M:Mach) (page:Int):Bool:=anyR (fun j=>tlbCov (eAt eTlb M.tlb j) page && !sameB (eAt eTlb M.tlb (firstC M page)) (eAt eTlb M.tlb j)) M.tlb.length
def tlbHit (e:TlbE) (page:Int):HitR:=⟨1,e.out+page - e.page,e.perm,e.size⟩
def lookUpM (M:Mach) (page:Int):HitR:=if clashC M page then ⟨4,0,0,0⟩ else tlbHit (eAt eTlb M.tlb (firstC M page)) page
def useT (M:Mach) (page choice:Int):Bool:=bitI choice 7 && decide (firstC M page < M.tlb.length)
def accN (M:Mach) (page choice:Int):Mach:=if useT M page choice then M else (walkM M page choice).1
def accS (M:Mach) (page need choice:Int):SeenR:=seenH page need (if useT M page choice then lookUpM M page else (walkM M page choice).2)
def accOk (M:Mach) (page need choice:Int):Bool:=validB M && pageOk page && choiceOk choice && needOk need
def accM (M:Mach) (page need choice:Int):Mach × SeenR:=if accOk M page need choice then (accN M page choice,accS M page need choice) else (zM,⟨0,0,0,0⟩)
theorem dPerm_rng (l x:Int):0<=dPerm l x/\dPerm l x<=7:=by unfold dPerm; split <;> omega
theorem endM_perm (page choice:Int) (M:Mach) (level x:Int) (doom:Bool):0<=(endM page choice M level x doom).2.perm/\(endM page choice M level x doom).2.perm<=7:=by
 unfold endM
 have:=dPerm_rng level x
 split
 ·exact ⟨by simp,by simp⟩
 ·split
  ·exact this
  ·exact ⟨by simp,by simp⟩
theorem goM_perm (page choice:Int):∀ d M level frame doom,0<=(goM page choice d M level frame doom).2.perm/\(goM page choice d M level frame doom).2.perm<=7
 | 0,M,level,frame,doom=>endM_perm page choice M level _ doom
 | d+1,M,level,frame,doom=>by
  unfold goM
  split
  ·exact goM_perm page choice d _ _ _ _
  ·exact endM_perm page choice M level _ doom
theorem walkM_perm (M:Mach) (page choice:Int):0<=(walkM M page choice).2.perm/\(walkM M page choice).2.perm<=7:=goM_perm page choice _ _ _ _ _
theorem firstC_at {M:Mach} {page:Int} (t:Nat) (ht:t < M.tlb.length) (hf:∀ j,j < t->tlbCov (eAt eTlb M.tlb j) page=false) (h:tlbCov (eAt eTlb M.tlb t) page=true):firstC M page=t:=firstR_at _ _ _ ht hf h
theorem firstC_none {M:Mach} {page:Int} (hf:∀ j,j < M.tlb.length->tlbCov (eAt eTlb M.tlb j) page=false):firstC M page=M.tlb.length:=firstR_none _ _ hf
theorem clash_yes {M:Mach} {page:Int} (t:Nat) (ht:t < M.tlb.length) (h:tlbCov (eAt eTlb M.tlb t) page=true) (hd:sameB (eAt eTlb M.tlb (firstC M page)) (eAt eTlb M.tlb t)=false):clashC M page=true:=anyR_true _ t _ ht (by simp [h,hd])
theorem clash_no {M:Mach} {page:Int} (h:∀ t,t < M.tlb.length->tlbCov (eAt eTlb M.tlb t) page=true->sameB (eAt eTlb M.tlb (firstC M page)) (eAt eTlb M.tlb t)=true):clashC M page=false :=
 anyR_none _ _ (fun t ht=>by
  cases hc:tlbCov (eAt eTlb M.tlb t) page
  ·simp
  ·simp [h t ht hc])
theorem sameB_self (e:TlbE):sameB e e=true:=by simp [sameB]
attribute [local go_sem ↓] Go.wp_at_zero Go.wp_at_succ
def eSeen:Elt SeenR:=⟨38,4,fun x=>[.int .i64 x.page,.int .i64 x.need,.int .i64 x.kind,.int .i64 x.out],⟨0,0,0,0⟩,by omega,fun _=>rfl⟩
theorem infoSeen:(Tryz.prog.info? 38).map (fun i=>(i.zero,i.size,i.bytes))=some (some (.agg #[.int .i64 0,.int .i64 0,.int .i64 0,.int .i64 0]),4,32):=by kernel_rfl
theorem eqSeen_same (A:Int) (B:Int) (C:Int) (D:Int) (w:World) :
  Calls Tryz.prog 11 #[.agg #[.int .i64 A,.int .i64 B,.int .i64 C,.int .i64 D],.agg #[.int .i64 A,.int .i64 B,.int .i64 C,.int .i64 D]] w fun e w'=>e=.returned (.bool true)/\Below w.heap.size w w':=by
 go_enter Tryz.func11,Tryz.ntmps11
 go_wp2
 go_ret
 exact ⟨rfl,bal.alloc (by simp) _⟩
theorem eqSeenS_same (v u:Value) (bv bu:Nat) (xs:List SeenR) (w:World) (hn:xs.length<=1048576) (hv:ERow eSeen w bv v xs) (hu:ERow eSeen w bu u xs) :
  Calls Tryz.prog 80 #[v,u] w fun e w'=>e=.returned (.bool true)/\Below w.heap.size w w':=by
 obtain ⟨a,c,rfl,ha⟩:=hv.form
 obtain ⟨b,d,rfl,hb⟩:=hu.form
 clear hv hu
 go_enter Tryz.func80,Tryz.ntmps80
 go_wp2
 go_loopw [5] (fun i wr=>∃ k:Nat,k<=xs.length/\i=.int .i64 k/\Below w.heap.size w wr) (fun i _=>xs.length - (intOf i).toNat)
 case atStart=>exact ⟨0,Nat.zero_le _,rfl,Below.refl _ _⟩
 case round =>
  obtain ⟨k,hk,rfl,hbl⟩:=hrel
  by_cases hlt:k < xs.length
  ·obtain ⟨g,N,f,rfl,_,hr,hN,hf⟩:=ha (by omega)
   obtain ⟨h,M,f',rfl,_,hr',hM,hf'⟩:=hb (by omega)
   have hN':xs.length * 4<=N:=hN
   have hM':xs.length * 4<=M:=hM
   have hr1:wr.rowIs g 38 N f:=hr.of_block (hbl.block g hr.lt)
   have hr2:wr.rowIs h 38 M f':=hr'.of_block (hbl.block h hr'.lt)
   have q0:=hr1.cell (i:=k * 4) (by omega)
   have q1:=hr1.cell (i:=k * 4+1) (by omega)
   have q2:=hr1.cell (i:=k * 4+2) (by omega)
   have q3:=hr1.cell (i:=k * 4+3) (by omega)
   have r0:=hr2.cell (i:=k * 4) (by omega)
   have r1:=hr2.cell (i:=k * 4+1) (by omega)
   have r2:=hr2.cell (i:=k * 4+2) (by omega)
   have r3:=hr2.cell (i:=k * 4+3) (by omega)
   rw [show f (k * 4)=_ from hf k hlt 0 (by decide)] at q0
   rw [show f (k * 4+1)=_ from hf k hlt 1 (by decide)] at q1
   rw [show f (k * 4+2)=_ from hf k hlt 2 (by decide)] at q2
   rw [show f (k * 4+3)=_ from hf k hlt 3 (by decide)] at q3
   rw [show f' (k * 4)=_ from hf' k hlt 0 (by decide)] at r0
   rw [show f' (k * 4+1)=_ from hf' k hlt 1 (by decide)] at r1
   rw [show f' (k * 4+2)=_ from hf' k hlt 2 (by decide)] at r2
   rw [show f' (k * 4+3)=_ from hf' k hlt 3 (by decide)] at r3
   have n1:=hr1.lt
   have n2:=hr2.lt
   have HB:Hid (Below w.heap.size w wr):=hbl
   clear hf hf' ha hb hr hr' hr1 hr2 hbl hN hM
   have c0:wr.cell? ⟨g,k * 4,none⟩=some (.int .i64 (eAt eSeen xs k).page):=q0
   have d0:wr.cell? ⟨h,k * 4,none⟩=some (.int .i64 (eAt eSeen xs k).page):=r0
   have c1:wr.cell? ⟨g,k * 4+1,none⟩=some (.int .i64 (eAt eSeen xs k).need):=q1
   have d1:wr.cell? ⟨h,k * 4+1,none⟩=some (.int .i64 (eAt eSeen xs k).need):=r1
   have c2:wr.cell? ⟨g,k * 4+2,none⟩=some (.int .i64 (eAt eSeen xs k).kind):=q2
   have d2:wr.cell? ⟨h,k * 4+2,none⟩=some (.int .i64 (eAt eSeen xs k).kind):=r2
   have c3:wr.cell? ⟨g,k * 4+3,none⟩=some (.int .i64 (eAt eSeen xs k).out):=q3
   have d3:wr.cell? ⟨h,k * 4+3,none⟩=some (.int .i64 (eAt eSeen xs k).out):=r3
   clear q0 r0 q1 r1 q2 r2 q3 r3
   generalize (eAt eSeen xs k).page=A at *
   generalize (eAt eSeen xs k).need=B at *
   generalize (eAt eSeen xs k).kind=C at *
   generalize (eAt eSeen xs k).out=D at *
   have L1:(0:Int)<=(k:Int):=by omega
   have L2:(k:Int) < (xs.length:Int):=by omega
   have he:=eqSeen_same A B C D
   have HK:Hid (∀ w',Below wr.heap.size wr w'->w'.cell? ⟨g,k * 4,none⟩=some (.int .i64 A)/\w'.cell? ⟨g,k * 4+1,none⟩=some (.int .i64 B)/\w'.cell? ⟨g,k * 4+2,none⟩=some (.int .i64 C)/\w'.cell? ⟨g,k * 4+3,none⟩=some (.int .i64 D)/\w'.cell? ⟨h,k * 4,none⟩=some (.int .i64 A)/\w'.cell? ⟨h,k * 4+1,none⟩=some (.int .i64 B)/\w'.cell? ⟨h,k * 4+2,none⟩=some (.int .i64 C)/\w'.cell? ⟨h,k * 4+3,none⟩=some (.int .i64 D)) :=
    fun w' hX=>⟨(hX.cell n1).trans c0,(hX.cell n1).trans c1,(hX.cell n1).trans c2,(hX.cell n1).trans c3,(hX.cell n2).trans d0,(hX.cell n2).trans d1,(hX.cell n2).trans d2,(hX.cell n2).trans d3⟩
   go_wp2
   go_region_held3 (fun w'=>w'.cell? ⟨g,k * 4,none⟩=some (.int .i64 A)/\w'.cell? ⟨g,k * 4+1,none⟩=some (.int .i64 B)/\w'.cell? ⟨g,k * 4+2,none⟩=some (.int .i64 C)/\w'.cell? ⟨g,k * 4+3,none⟩=some (.int .i64 D)/\w'.cell? ⟨h,k * 4,none⟩=some (.int .i64 A)/\w'.cell? ⟨h,k * 4+1,none⟩=some (.int .i64 B)/\w'.cell? ⟨h,k * 4+2,none⟩=some (.int .i64 C)/\w'.cell? ⟨h,k * 4+3,none⟩=some (.int .i64 D))
    ((refine HK.out _ ?_; repeat (first | exact Below.refl _ _ | with_reducible refine Below.drew ?_ | refine Below.trans ?_ (hb1.mono (by first | omega | (simp <;> omega))))))
    (first | (go_at_call 11; refine (he _).mono ?_; rintro e w1 ⟨rfl,hb1⟩))
   go_wp2
   go_roundw
   case rel=>exact ⟨k+1,by omega,by go_num,HB.out.trans (br.drew.trans (hb1.mono HB.out.size))⟩
   case measure=>simp [intOf]; omega
  ·go_wp2
   go_ret
   exact ⟨rfl,hbl⟩
def markSeen (s:Int) (i j:Nat):Value :=
 match j with
 | 0=>.int .i64 (s+i * 4)
 | 1=>.int .i64 (s+i * 4+1)
 | 2=>.int .i64 (s+i * 4+1+1)
 | 3=>.int .i64 (s+i * 4+1+1+1)
 | _=>.bool false
theorem markSeenS_any (v:Value) (bv:Nat) (xs:List SeenR) (s:Int) (w:World) (hs0:0<=s) (hs1:s<=100000000) (hn:xs.length<=1048576) (hv:ERow eSeen w bv v xs) :
  Calls Tryz.prog 83 #[v,.int .i64 s] w fun e w'=>e=.returned (.int .i64 (s+xs.length * 4))/\EHas eSeen w' v xs.length (markSeen s)/\w.grownBy w' v.ownBlock:=by
 obtain ⟨a,c,rfl,ha⟩:=hv.form
 by_cases h0:xs.length=0
 ·rw [h0]
  clear ha hv
  go_enter Tryz.func83,Tryz.ntmps83
  go_wp2
  go_loopw [1,5] (fun m i wr=>i=.int .i64 0/\m=.int .i64 s/\wr=w) (fun _ i _=>0)
  case atStart=>exact ⟨rfl,rfl,rfl⟩
  case round =>
   obtain ⟨rfl,rfl,rfl⟩:=hrel
   go_wp2
   go_ret
   exact ⟨by simp,⟨a,c,rfl,fun h=>absurd h (by omega)⟩,World.grownBy.refl _ _⟩
 ·obtain ⟨g,N,f,rfl,_,hr,hN,hf⟩:=ha (by omega)
  have hN':xs.length * 4<=N:=hN
  clear ha hf hv hN
  go_enter Tryz.func83,Tryz.ntmps83
  go_wp2
  go_loopw [1,5] (fun m i wr=>∃ k:Nat,k<=xs.length/\i=.int .i64 k/\m=.int .i64 (s+k * 4)/\(∃ f,wr.rowIs g 38 N f/\∀ i,i < k->∀ j,j < 4->f (i * 4+j)=markSeen s i j)/\w.grownBy wr (some g)) (fun _ i _=>xs.length - (intOf i).toNat)
  case atStart=>exact ⟨0,Nat.zero_le _,rfl,by simp,⟨_,hr,fun i hi=>absurd hi (by omega)⟩,World.grownBy.refl _ _⟩
  case round =>
   obtain ⟨k,hk,rfl,rfl,⟨f,hrow,hf⟩,hb⟩:=hrel
   by_cases hlt:k < xs.length
   ·have HF:Hid _:=hf
    have HROW:Hid (wr.rowIs g _ N f):=hrow
    have HB:Hid (w.grownBy wr _):=hb
    have f0:=hrow.frozen (k * 4)
    have o0:=hrow.cell (i:=k * 4) (by omega)
    have f1:=hrow.frozen (k * 4+1)
    have o1:=hrow.cell (i:=k * 4+1) (by omega)
    have f2:=hrow.frozen (k * 4+2)
    have o2:=hrow.cell (i:=k * 4+2) (by omega)
    have f3:=hrow.frozen (k * 4+3)
    have o3:=hrow.cell (i:=k * 4+3) (by omega)
    generalize f (k * 4)=u100 at o0
    generalize f (k * 4+1)=u101 at o1
    generalize f (k * 4+2)=u102 at o2
    generalize f (k * 4+3)=u103 at o3
    have L1:(0:Int)<=(k:Int):=by omega
    have L2:(k:Int) < (xs.length:Int):=by omega
    clear hf hrow hb hr
    go_wp2
    go_roundw
    case rel =>
     refine ⟨k+1,by omega,by go_num,by go_num,⟨_,(((HROW.out.set (k * 4) _).set (k * 4+1) _).set (k * 4+2) _).set (k * 4+3) _,?_⟩,eGrown_set (eGrown_set (eGrown_set (eGrown_set (HB.out) _ _) _ _) _ _) _ _⟩
     intro i hi j hj
     by_cases e:i=k
     ·subst e
      rcases (show j=0\/j=1\/j=2\/j=3 by omega) with rfl | rfl | rfl | rfl
      ·simp [markSeen]
      ·simp [markSeen]
      ·simp [markSeen]
      ·simp [markSeen]
     ·have hik:i < k:=by omega
      rw [<- HF.out i hik j hj]
      rw [if_neg (by omega)]; rw [if_neg (by omega)]; rw [if_neg (by omega)]; rw [if_neg (by omega)]
    case measure=>simp [intOf]; omega
   ·have e:k=xs.length:=by omega
    subst e
    go_wp2
    go_ret
    exact ⟨rfl,⟨_,c,rfl,fun _=>⟨g,N,f,rfl,hrow,hN',hf⟩⟩,hb⟩
theorem heldSeenS_any (v:Value) (n:Nat) (s:Int) (w:World) (hs0:0<=s) (hs1:s<=100000000) (hn:n<=1048576) (hv:EHas eSeen w v n (markSeen s)) :
  Calls Tryz.prog 84 #[v,.int .i64 s] w fun e w'=>e=.returned (.int .i64 (s+n * 4))/\Below w.heap.size w w':=by
 obtain ⟨a,c,rfl,ha⟩:=hv
 go_enter Tryz.func84,Tryz.ntmps84
 go_wp2
 go_loopw [1,5] (fun m i wr=>∃ k:Nat,k<=n/\i=.int .i64 k/\m=.int .i64 (s+k * 4)/\Below w.heap.size w wr) (fun _ i _=>n - (intOf i).toNat)
 case atStart=>exact ⟨0,Nat.zero_le _,rfl,by simp,Below.refl _ _⟩
 case round =>
  obtain ⟨k,hk,rfl,rfl,hb⟩:=hrel
  by_cases hlt:k < n
  ·obtain ⟨g,N,f,rfl,hr,hN,hf⟩:=ha (by omega)
   have hN':n * 4<=N:=hN
   have hr1:wr.rowIs g 38 N f:=hr.of_block (hb.block g hr.lt)
   have q0:=hr1.cell (i:=k * 4) (by omega)
   have q1:=hr1.cell (i:=k * 4+1) (by omega)
   have q2:=hr1.cell (i:=k * 4+2) (by omega)
   have q3:=hr1.cell (i:=k * 4+3) (by omega)
   rw [show f (k * 4)=_ from hf k hlt 0 (by decide)] at q0
   rw [show f (k * 4+1)=_ from hf k hlt 1 (by decide)] at q1
   rw [show f (k * 4+2)=_ from hf k hlt 2 (by decide)] at q2
   rw [show f (k * 4+3)=_ from hf k hlt 3 (by decide)] at q3
   have c0:wr.cell? ⟨g,k * 4,none⟩=some (.int .i64 (s+k * 4)):=q0
   have c1:wr.cell? ⟨g,k * 4+1,none⟩=some (.int .i64 (s+k * 4+1)):=q1
   have c2:wr.cell? ⟨g,k * 4+2,none⟩=some (.int .i64 (s+k * 4+1+1)):=q2
   have c3:wr.cell? ⟨g,k * 4+3,none⟩=some (.int .i64 (s+k * 4+1+1+1)):=q3
   clear q0 q1 q2 q3
   have L1:(0:Int)<=(k:Int):=by omega
   have L2:(k:Int) < (n:Int):=by omega
   clear hf ha hr hr1 hN
   go_wp2
   go_roundw
   case rel=>exact ⟨k+1,by omega,by go_num,by go_num,hb⟩
   case measure=>simp [intOf]; omega
  ·have e:k=n:=by omega
   subst e
   go_wp2
   go_ret
   exact ⟨rfl,hb⟩
attribute [local go_sem ↓] Go.wp_at_zero Go.wp_at_succ
set_option maxHeartbeats 1000000 in
theorem agrees_any (b o:Nat) (x y:TlbE) (w:World) (hb:b < w.heap.size) (c0:w.cell? ⟨b,o,none⟩=some (.int .i64 x.page)) (c1:w.cell? ⟨b,o+1,none⟩=some (.int .i64 x.size)) (c2:w.cell? ⟨b,o+2,none⟩=some (.bool x.doom)) (c3:w.cell? ⟨b,o+3,none⟩=some (.int .i64 x.out)) (c4:w.cell? ⟨b,o+4,none⟩=some (.int .i64 x.perm)) :
  Calls Tryz.prog 130 #[.pointer (some ⟨b,o,none⟩),.agg #[.int .i64 y.page,.int .i64 y.size,.bool y.doom,.int .i64 y.out,.int .i64 y.perm]] w fun r w'=>r=.returned (.bool (sameB x y))/\Below w.heap.size w w':=by
 by_cases h0:x.page=y.page
 ·have k0:(x.page == y.page)=true:=by simpa using h0
  by_cases h1:x.size=y.size
  ·have k1:(x.size == y.size)=true:=by simpa using h1
   by_cases h2:x.out=y.out
   ·have k2:(x.out == y.out)=true:=by simpa using h2
    by_cases h3:x.perm=y.perm
    ·have k3:(x.perm == y.perm)=true:=by simpa using h3
     have hs:sameB x y=true:=by simp [sameB,h0,h1,h2,h3]
     rw [hs]
     clear hs h0 h1 h2 h3
     go_enter Tryz.func130,Tryz.ntmps130
     go_wp2_with fail
     go_quiet (fail)
     go_wp2_with fail
     go_ret
     exact ⟨rfl,bDrewN bal _⟩
    ·have k3:(x.perm == y.perm)=false:=by simpa using h3
     have hs:sameB x y=false:=by simp [sameB,h3]
     rw [hs]
     clear hs h0 h1 h2 h3
     go_enter Tryz.func130,Tryz.ntmps130
     go_wp2_with fail
     go_quiet (fail)
     go_wp2_with fail
     go_ret
     exact ⟨rfl,bDrewN bal _⟩
   ·have k2:(x.out == y.out)=false:=by simpa using h2
    have hs:sameB x y=false:=by simp [sameB,h2]
    rw [hs]
    clear hs h0 h1 h2
    go_enter Tryz.func130,Tryz.ntmps130
    go_wp2_with fail
    go_quiet (fail)
    go_wp2_with fail
    go_ret
    exact ⟨rfl,bDrewN bal _⟩
  ·have k1:(x.size == y.size)=false:=by simpa using h1
   have hs:sameB x y=false:=by simp [sameB,h1]
   rw [hs]
   clear hs h0 h1
   go_enter Tryz.func130,Tryz.ntmps130
   go_wp2_with fail
   go_quiet (fail)
   go_wp2_with fail
   go_ret
   exact ⟨rfl,bDrewN bal _⟩
 ·have k0:(x.page == y.page)=false:=by simpa using h0
  have hs:sameB x y=false:=by simp [sameB,h0]
  rw [hs]
  clear hs h0
  go_enter Tryz.func130,Tryz.ntmps130
  go_wp2_with fail
  go_quiet (fail)
  go_wp2_with fail
  go_ret
  exact ⟨rfl,bDrewN bal _⟩
end Go.Proofs.YtiiejckfcnmhoabGreat
