import Derived.Test.YtiiejckfcnmhoabGreatRows
import Derived.WalkKit
import Derived.ProofKit
import Derived.OpenShut
import Derived.Below
import Derived.Deep.OwnRows
import Derived.Deep.QuietTactic
import Derived.BigQuiet
import Derived.Test.YtiiejckfcnmhoabGreatQ01
import Derived.Deep.AppendLies
import Derived.Deep.RegionHeld3
import Derived.Deep.DrawnRows
import Derived.Test.YtiiejckfcnmhoabGreatQ00
namespace Go.Proofs.YtiiejckfcnmhoabGreat
open Go.ChangeShapes Go.WideShapes Go.ChangeAt Go.RowKit
set_option linter.unusedVariables false
theorem info_u64:(Tryz.prog.info? 46).map (fun i=>(i.zero,i.size,i.bytes))=some (some (.int .u64 0),1,8):=by kernel_rfl
def IRow (w:World) (g:Nat) (zs:List Int):Prop:=w.rowIs g 46 zs.length (fun i=>.int .u64 (zs.getD i 0))
theorem IRow.lt {w:World} {g:Nat} {zs:List Int} (h:IRow w g zs):g < w.heap.size:=World.rowIs.lt h
def Src (w:World) (v:Value) (zs:List Int):Prop :=
 ∃ (a:Option Addr) (cap:Nat),v=.slice a zs.length cap/\(0 < zs.length->∃ b o,a=some ⟨b,o,none⟩/\b < w.heap.size/\∀ i,i < zs.length->w.cell? ⟨b,o+i,none⟩=some (.int .u64 (zs.getD i 0)))
theorem sz_any (a:Option Addr) (n cap:Nat) (left:Int) (h1:n<=9223372036854775807) (h0:left=1048576) (w:World) :
  Calls Tryz.prog 85 #[.slice a n cap,.int .i64 left] w fun e w'=>e=.returned (.int .i64 (if (n:Int)<=1048576 then 1048576 - n else -1))/\w'=w:=by
 subst h0
 by_cases h:(n:Int)<=1048576
 ·rw [if_pos h]
  go_enter Tryz.func85,Tryz.ntmps85
  go_wp2
  go_ret
  exact ⟨rfl,rfl⟩
 ·rw [if_neg h]
  go_enter Tryz.func85,Tryz.ntmps85
  go_wp2
  go_ret
  exact ⟨rfl,rfl⟩
theorem szMem_any (a:Option Addr) (n cap:Nat) (h1:n<=9223372036854775807) (w:World) :
  Calls Tryz.prog 30 #[.agg #[.slice a n cap],.int .i64 1048576] w fun e w'=>e=.returned (.int .i64 (if (n:Int)<=1048576 then 1048576 - n else -1))/\Below w.heap.size w w':=by
 have hs:=sz_any a n cap 1048576 h1 rfl
 by_cases h:(n:Int)<=1048576
 ·rw [if_pos h] at hs ⊢
  go_enter Tryz.func30,Tryz.ntmps30
  go_wp2_with (go_at_call 85; refine (hs _).mono ?_; rintro e w' ⟨rfl,rfl⟩)
  go_ret
  exact ⟨rfl,(Below.refl _ _).alloc (Nat.le_refl _) _⟩
 ·rw [if_neg h] at hs ⊢
  go_enter Tryz.func30,Tryz.ntmps30
  go_wp2_with (go_at_call 85; refine (hs _).mono ?_; rintro e w' ⟨rfl,rfl⟩)
  go_ret
  exact ⟨rfl,(Below.refl _ _).alloc (Nat.le_refl _) _⟩
theorem toU64_any (v:Value) (zs:List Int) (w:World) (hv:Src w v zs) (hn:zs.length<=1048576) :
  Calls Tryz.prog 93 #[v] w fun e w'=>e=.returned (.slice (some ⟨w.heap.size,0,none⟩) zs.length zs.length)/\IRow w' w.heap.size zs/\Below w.heap.size w w':=by
 obtain ⟨a,cap,rfl,ha⟩:=hv
 have hmk:=run_make_row' (P:=Tryz.prog) 22 46 (.int .u64 0) 8 Tryz.underlying22 info_u64 rfl .i64 .i64 zs.length (by omega) (by omega)
 go_enter Tryz.func93,Tryz.ntmps93
 go_wp2
 clear hmk
 go_loopw [4] (fun i wr=>∃ k:Nat,k<=zs.length/\i=.int .i64 k/\wr.rowIs w.heap.size 46 zs.length (fun j=>if j < k then .int .u64 (zs.getD j 0) else .int .u64 0)/\Below w.heap.size w wr) (fun i _=>zs.length - (intOf i).toNat)
 case atStart=>exact ⟨0,Nat.zero_le _,rfl,(World.rowIs_made w (.int .u64 0) zs.length 46).congr (by intro i hi; simp),(Below.refl _ _).alloc (Nat.le_refl _) _⟩
 case round =>
  obtain ⟨k,hk,rfl,hrow,hb⟩:=hrel
  by_cases hlt:k < zs.length
  ·obtain ⟨b,o,rfl,hbl,hc⟩:=ha (by omega)
   have hck:wr.cell? ⟨b,o+k,none⟩=some (.int .u64 (zs.getD k 0)):=(hb.cell hbl).trans (hc k hlt)
   have hfz:=hrow.frozen k
   have hold:=hrow.cell hlt
   clear hc ha
   go_wp2
   go_roundw
   case rel =>
    refine ⟨k+1,by omega,by go_num,(hrow.set k _).congr ?_,hb.setCell (Nat.le_refl _) _⟩
    intro j hj
    by_cases e:j=k
    ·subst e; simp [List.getElem?_eq_getElem hj]
    ·simp [e,show (j < k+1)=(j < k) by simp; omega]
   case measure=>simp [intOf]; omega
  ·clear ha
   go_wp2
   go_ret
   refine ⟨rfl,hrow.congr ?_,hb⟩
   intro j hj
   rw [if_pos (by omega)]
theorem toMem_any (v:Value) (zs:List Int) (w:World) (hv:Src w v zs) (hn:zs.length<=1048576) :
  Calls Tryz.prog 43 #[.agg #[v]] w fun e w'=>∃ g,e=.returned (.agg #[.slice (some ⟨g,0,none⟩) zs.length zs.length])/\w.heap.size<=g/\IRow w' g zs/\Below w.heap.size w w':=by
 have hv':∀ w1,Below w.heap.size w w1->Src w1 v zs:=by
  intro w1 hb
  obtain ⟨a,cap,rfl,ha⟩:=hv
  refine ⟨a,cap,rfl,fun h0=>?_⟩
  obtain ⟨b,o,rfl,hbl,hc⟩:=ha h0
  exact ⟨b,o,rfl,Nat.lt_of_lt_of_le hbl hb.size,fun i hi=>(hb.cell hbl).trans (hc i hi)⟩
 obtain ⟨a,cap,rfl,ha⟩:=hv
 clear ha
 go_enter Tryz.func43,Tryz.ntmps43
 go_wp2_with fail
 refine (toU64_any _ zs _ (hv' _ ?_) hn).mono ?_
 ·exact (((Below.refl _ _).alloc (Nat.le_refl _) _).alloc (by simp) _).alloc (by simp <;> omega) _
 rintro e w1 ⟨rfl,hrow,hb⟩
 obtain ⟨hc1,hf1⟩:(∀ b o,b < w.heap.size+3->w1.cell? ⟨b,o,none⟩=(((w.alloc _).alloc _).alloc _).cell? ⟨b,o,none⟩)/\(∀ b o,b < w.heap.size+3->w1.frozen? ⟨b,o,none⟩=(((w.alloc _).alloc _).alloc _).frozen? ⟨b,o,none⟩) :=
  ⟨fun b o h=>hb.cell (p:=⟨b,o,none⟩) (by simp; omega),fun b o h=>hb.frozen (p:=⟨b,o,none⟩) (by simp; omega)⟩
 have hz:w.heap.size+2 < w1.heap.size:=by have:=hb.size; simp at this; omega
 have hl:=hrow.lt
 simp at hl
 have HR:Hid (IRow w1 _ zs):=hrow
 clear hrow hv'
 go_wp2
 have hr:=HR.out
 simp only [World.size_alloc] at hr
 refine bodyPost_ret (v:=.agg #[.slice (some ⟨w.heap.size+1+1+1,0,none⟩) zs.length zs.length]) (by simp [results,Tryz.results43,go_sem,hc1]) rfl ⟨_,rfl,by omega,?_,?_⟩
 ·exact World.rowIs.setOther (World.rowIs.setOther hr (by simp <;> omega) _) (by simp <;> omega) _
 ·exact ((((((Below.refl _ _).alloc (Nat.le_refl _) _).alloc (by simp) _).alloc (by simp <;> omega) _).trans (hb.mono (by simp; omega))).setCell (by simp <;> omega) _).setCell (by simp) _
theorem bDrewN {B:Nat} {a w:World} (h:Below B a w) (n:Nat):Below B a (w.drewN n):=⟨h.os,h.tape,h.output,h.size,h.block⟩
attribute [local go_sem ↓] Go.wp_at_zero Go.wp_at_succ
def eWord:Elt Int:=⟨46,1,fun x=>[.int .u64 x],0,by omega,fun _=>rfl⟩
theorem IRow.erow {w:World} {g base:Nat} {zs:List Int} (h:IRow w g zs) (hb:base<=g) (hn:zs.length<=1048576):ERow eWord w base (.slice (some ⟨g,0,none⟩) zs.length zs.length) zs:=by
 refine ERow.of_row (cap:=zs.length) rfl hb h (by simp [eWord]) (Nat.le_refl _) (by unfold maxLen; omega) ?_
 intro i hi j hj
 have:j=0:=by simp [eWord] at hj; omega
 subst this
 simp [eCell,eWord,eAt]
theorem eWord_form {w:World} {base:Nat} {v:Value} {zs:List Int} (h:ERow eWord w base v zs):∃ a cap,v=.slice a zs.length cap/\(0 < zs.length->∃ g N f,a=some ⟨g,0,none⟩/\base<=g/\w.rowIs g 46 N f/\zs.length<=N/\∀ i,i < zs.length->f i=.int .u64 (zs.getD i 0)):=by
 obtain ⟨a,c,e,ha⟩:=h.form
 refine ⟨a,c,e,fun h0=>?_⟩
 obtain ⟨g,N,f,p,q,r,s,t⟩:=ha h0
 refine ⟨g,N,f,p,q,r,by simpa [eWord] using s,fun i hi=>?_⟩
 have:=t i hi 0 (by decide)
 simpa [eCell,eWord,eAt] using this
theorem eqU64S_same (v u:Value) (bv bu:Nat) (zs:List Int) (w:World) (hn:zs.length<=1048576) (hv:ERow eWord w bv v zs) (hu:ERow eWord w bu u zs) :
  Calls Tryz.prog 107 #[v,u] w fun e w'=>e=.returned (.bool true)/\Below w.heap.size w w':=by
 obtain ⟨a,c,rfl,ha⟩:=eWord_form hv
 obtain ⟨b,d,rfl,hb⟩:=eWord_form hu
 clear hv hu
 go_enter Tryz.func107,Tryz.ntmps107
 go_wp2
 go_loopw [5] (fun i wr=>∃ k:Nat,k<=zs.length/\i=.int .i64 k/\Below w.heap.size w wr) (fun i _=>zs.length - (intOf i).toNat)
 case atStart=>exact ⟨0,Nat.zero_le _,rfl,Below.refl _ _⟩
 case round =>
  obtain ⟨k,hk,rfl,hbl⟩:=hrel
  by_cases hlt:k < zs.length
  ·obtain ⟨g,N,f,rfl,_,hr,hN,hf⟩:=ha (by omega)
   obtain ⟨h,M,f',rfl,_,hr',hM,hf'⟩:=hb (by omega)
   have hr1:wr.rowIs g 46 N f:=hr.of_block (hbl.block g hr.lt)
   have hr2:wr.rowIs h 46 M f':=hr'.of_block (hbl.block h hr'.lt)
   have c1:=hr1.cell (i:=k) (by omega)
   have c2:=hr2.cell (i:=k) (by omega)
   rw [hf k hlt] at c1
   rw [hf' k hlt] at c2
   generalize zs.getD k 0=Z at *
   have L1:(0:Int)<=(k:Int):=by omega
   have L2:(k:Int) < (zs.length:Int):=by omega
   have HB:Hid (Below _ _ _):=hbl
   clear ha hb hr hr' hr1 hr2 hf hf' hbl
   go_wp2
   go_quiet (fail)
   go_wp2
   go_roundw
   case rel=>exact ⟨k+1,by omega,by go_num,bDrewN HB.out _⟩
   case measure=>simp [intOf]; omega
  ·go_wp2
   go_ret
   exact ⟨rfl,hbl⟩
theorem eqMemE_same (v u:Value) (bv bu:Nat) (zs:List Int) (w:World) (hn:zs.length<=1048576) (hv:ERow eWord w bv v zs) (hu:ERow eWord w bu u zs) :
  Calls Tryz.prog 54 #[.agg #[v],.agg #[u]] w fun e w'=>e=.returned (.bool true)/\Below w.heap.size w w':=by
 have he:=fun wX (hX:Below w.heap.size w wX)=>eqU64S_same v u bv bu zs wX hn (hv.below hX) (hu.below hX)
 obtain ⟨a,c,rfl,_⟩:=eWord_form hv
 obtain ⟨b,d,rfl,_⟩:=eWord_form hu
 have HE:Hid _:=he
 clear he
 go_enter Tryz.func54,Tryz.ntmps54
 go_wp2_with fail
 refine (HE.out _ ?_).mono ?_
 ·exact bal.alloc (by simp) _
 rintro e w1 ⟨rfl,hb⟩
 go_wp2
 go_ret
 exact ⟨rfl,(bal.alloc (by simp) _).trans (hb.mono (by simp <;> omega))⟩
def markWord (s:Int) (i _j:Nat):Value:=.int .u64 (s+i)
theorem markU64S_any (v:Value) (bv:Nat) (zs:List Int) (s:Int) (w:World) (hs0:0<=s) (hs1:s<=100000000) (hn:zs.length<=1048576) (hv:ERow eWord w bv v zs) :
  Calls Tryz.prog 111 #[v,.int .i64 s] w fun e w'=>e=.returned (.int .i64 (s+zs.length))/\EHas eWord w' v zs.length (markWord s)/\w.grownBy w' v.ownBlock:=by
 obtain ⟨a,c,rfl,ha⟩:=eWord_form hv
 by_cases h0:zs.length=0
 ·rw [h0]
  clear ha hv
  go_enter Tryz.func111,Tryz.ntmps111
  go_wp2
  go_loopw [1,5] (fun m i wr=>i=.int .i64 0/\m=.int .i64 s/\wr=w) (fun _ i _=>0)
  case atStart=>exact ⟨rfl,rfl,rfl⟩
  case round =>
   obtain ⟨rfl,rfl,rfl⟩:=hrel
   go_wp2
   go_ret
   exact ⟨by simp,⟨a,c,rfl,fun h=>absurd h (by omega)⟩,World.grownBy.refl _ _⟩
 ·obtain ⟨g,N,f,rfl,_,hr,hN,hf⟩:=ha (by omega)
  clear ha hf hv
  go_enter Tryz.func111,Tryz.ntmps111
  go_wp2
  go_loopw [1,5] (fun m i wr=>∃ k:Nat,k<=zs.length/\i=.int .i64 k/\m=.int .i64 (s+k)/\(∃ f,wr.rowIs g 46 N f/\∀ i,i < k->f i=.int .u64 (s+i))/\w.grownBy wr (some g)) (fun _ i _=>zs.length - (intOf i).toNat)
  case atStart=>exact ⟨0,Nat.zero_le _,rfl,by simp,⟨_,hr,fun i hi=>absurd hi (by omega)⟩,World.grownBy.refl _ _⟩
  case round =>
   obtain ⟨k,hk,rfl,rfl,⟨f,hrow,hf⟩,hb⟩:=hrel
   by_cases hlt:k < zs.length
   ·have HF:Hid _:=hf
    have HROW:Hid (wr.rowIs g _ N f):=hrow
    have HB:Hid (w.grownBy wr _):=hb
    have f0:=hrow.frozen k
    have o0:=hrow.cell (i:=k) (by omega)
    generalize f k=u100 at o0
    have L1:(0:Int)<=(k:Int):=by omega
    have L2:(k:Int) < (zs.length:Int):=by omega
    clear hf hrow hb hr
    go_wp2
    go_roundw
    case rel =>
     refine ⟨k+1,by omega,by go_num,by go_num,⟨_,HROW.out.set k _,?_⟩,eGrown_set HB.out _ _⟩
     intro i hi
     by_cases e:i=k
     ·subst e; simp
     ·rw [if_neg e]; exact HF.out i (by omega)
    case measure=>simp [intOf]; omega
   ·have e:k=zs.length:=by omega
    subst e
    go_wp2
    go_ret
    refine ⟨rfl,⟨_,c,rfl,fun _=>⟨g,N,f,rfl,hrow,by simpa [eWord] using hN,fun i hi j hj=>?_⟩⟩,hb⟩
    have:j=0:=by simp [eWord] at hj; omega
    subst this
    simpa [eWord,markWord] using hf i hi
theorem markMemE_any (v:Value) (bv:Nat) (zs:List Int) (s:Int) (w:World) (hs0:0<=s) (hs1:s<=100000000) (hn:zs.length<=1048576) (hv:ERow eWord w bv v zs) :
  Calls Tryz.prog 58 #[.agg #[v],.int .i64 s] w fun e w'=>e=.returned (.int .i64 (s+zs.length))/\EHas eWord w' v zs.length (markWord s)/\w.grownBy w' v.ownBlock:=by
 have he:=fun wX (hX:Below w.heap.size w wX)=>markU64S_any v bv zs s wX hs0 hs1 hn (hv.below hX)
 obtain ⟨a,c,rfl,_⟩:=eWord_form hv
 have HE:Hid _:=he
 clear he
 go_enter Tryz.func58,Tryz.ntmps58
 go_wp2_with fail
 refine (HE.out _ ?_).mono ?_
 ·exact bal
 rintro e w1 ⟨rfl,hh,hb⟩
 have HH:Hid (EHas _ _ _ _ _):=hh
 clear hh
 go_wp2
 go_ret
 refine ⟨rfl,HH.out,hb.os,hb.tape,hb.output,?_,fun j hj hne=>?_⟩
 ·have:=hb.size; simp at this; omega
 ·exact (hb.block j (by simp; omega) hne).trans (Below.heap_alloc _ _ _ hj)
theorem heldU64S_any (v:Value) (n:Nat) (s:Int) (w:World) (hs0:0<=s) (hs1:s<=100000000) (hn:n<=1048576) (hv:EHas eWord w v n (markWord s)) :
  Calls Tryz.prog 112 #[v,.int .i64 s] w fun e w'=>e=.returned (.int .i64 (s+n))/\Below w.heap.size w w':=by
 obtain ⟨a,c,rfl,ha⟩:=hv
 go_enter Tryz.func112,Tryz.ntmps112
 go_wp2
 go_loopw [1,5] (fun m i wr=>∃ k:Nat,k<=n/\i=.int .i64 k/\m=.int .i64 (s+k)/\Below w.heap.size w wr) (fun _ i _=>n - (intOf i).toNat)
 case atStart=>exact ⟨0,Nat.zero_le _,rfl,by simp,Below.refl _ _⟩
 case round =>
  obtain ⟨k,hk,rfl,rfl,hb⟩:=hrel
  by_cases hlt:k < n
  ·obtain ⟨g,N,f,rfl,hr,hN,hf⟩:=ha (by omega)
   have hN':n<=N:=by simpa [eWord] using hN
   have hr1:wr.rowIs g 46 N f:=hr.of_block (hb.block g hr.lt)
   have c0:=hr1.cell (i:=k) (by omega)
   have e0:f k=.int .u64 (s+k):=by simpa [eWord,markWord] using hf k hlt 0 (by decide)
   rw [e0] at c0
   have L1:(0:Int)<=(k:Int):=by omega
   have L2:(k:Int) < (n:Int):=by omega
   clear hf ha hr hr1 hN e0
   go_wp2
   go_roundw
   case rel=>exact ⟨k+1,by omega,by go_num,by go_num,hb⟩
   case measure=>simp [intOf]; omega
  ·have e:k=n:=by omega
   subst e
   go_wp2
   go_ret
   exact ⟨rfl,hb⟩
theorem heldMemE_any (v:Value) (n:Nat) (s:Int) (w:World) (hs0:0<=s) (hs1:s<=100000000) (hn:n<=1048576) (hv:EHas eWord w v n (markWord s)) :
  Calls Tryz.prog 62 #[.agg #[v],.int .i64 s] w fun e w'=>e=.returned (.int .i64 (s+n))/\Below w.heap.size w w':=by
 have he:=fun wX (hX:Below w.heap.size w wX)=>heldU64S_any v n s wX hs0 hs1 hn (hv.below hX)
 obtain ⟨a,c,rfl,_⟩:=hv
 have HE:Hid _:=he
 clear he
 go_enter Tryz.func62,Tryz.ntmps62
 go_wp2_with fail
 refine (HE.out _ ?_).mono ?_
 ·exact bal
 rintro e w1 ⟨rfl,hb⟩
 go_wp2
 go_ret
 exact ⟨rfl,bal.trans (hb.mono (by simp))⟩
attribute [local go_sem ↓] Go.wp_at_zero Go.wp_at_succ
structure P3 where
 fr:Int
 lv:Int
 pg:Int
def P3.val (p:P3):Value:=.agg #[.int .i64 p.fr,.int .i64 p.lv,.int .i64 p.pg]
def pcells (ps:List P3):List Value:=ps.flatMap fun p=>[.int .i64 p.fr,.int .i64 p.lv,.int .i64 p.pg]
def pAt (ps:List P3) (i:Nat):P3:=ps.getD i ⟨0,0,0⟩
theorem pcells_append (a b:List P3):pcells (a ++ b)=pcells a ++ pcells b:=by simp [pcells]
theorem pcells_at (ps:List P3):∀ i,i < ps.length->(pcells ps)[i * 3]?=some (.int .i64 (pAt ps i).fr)/\(pcells ps)[i * 3+1]?=some (.int .i64 (pAt ps i).lv)/\(pcells ps)[i * 3+2]?=some (.int .i64 (pAt ps i).pg):=by
 induction ps with
 | nil=>intro i hi; simp at hi
 | cons p r ih =>
  intro i hi
  cases i with
  | zero=>exact ⟨rfl,rfl,rfl⟩
  | succ i =>
   have h:=ih i (by simpa using hi)
   have e:pcells (p :: r)=[.int .i64 p.fr,.int .i64 p.lv,.int .i64 p.pg] ++ pcells r:=rfl
   have e2:pAt (p :: r) (i+1)=pAt r i:=by simp [pAt]
   rw [e,e2]
   refine ⟨?_,?_,?_⟩
   ·rw [List.getElem?_append_right (by simp; omega),show (i+1) * 3 - List.length [Value.int .i64 p.fr,.int .i64 p.lv,.int .i64 p.pg]=i * 3 by simp; omega]; exact h.1
   ·rw [List.getElem?_append_right (by simp; omega),show (i+1) * 3+1 - List.length [Value.int .i64 p.fr,.int .i64 p.lv,.int .i64 p.pg]=i * 3+1 by simp; omega]; exact h.2.1
   ·rw [List.getElem?_append_right (by simp; omega),show (i+1) * 3+2 - List.length [Value.int .i64 p.fr,.int .i64 p.lv,.int .i64 p.pg]=i * 3+2 by simp; omega]; exact h.2.2
def PRow (w:World) (base:Nat) (v:Value) (ps:List P3):Prop:=w.ownsRow base 172 3 v ps.length (pcells ps)
theorem PRow.form {w:World} {base:Nat} {v:Value} {ps:List P3} (h:PRow w base v ps):∃ a cap,v=.slice a ps.length cap/\(0 < ps.length->∃ g N f,a=some ⟨g,0,none⟩/\base<=g/\w.rowIs g 172 N f/\ps.length * 3<=N/\∀ i,i < ps.length->f (i * 3)=.int .i64 (pAt ps i).fr/\f (i * 3+1)=.int .i64 (pAt ps i).lv/\f (i * 3+2)=.int .i64 (pAt ps i).pg):=by
 rcases h.2 with ⟨rfl,h0⟩ | ⟨g,cap,cur,rfl,hb,hg,hn,hm,hs,ht⟩
 ·rw [h0]; exact ⟨none,0,rfl,fun h=>absurd h (by omega)⟩
 ·refine ⟨_,cap,rfl,fun _=>⟨g,cur.size,fun i=>cur.getD i (.bool false),rfl,hb,⟨cur,hg,rfl,fun i hi=>by simp [hi]⟩,by rw [hs]; omega,fun i hi=>?_⟩⟩
  have hc:∀ j u,j < ps.length * 3->(pcells ps)[j]?=some u->cur.getD j (.bool false)=u:=by
   intro j u hj hu
   rw [<- ht,List.getElem?_take,if_pos hj] at hu
   simp at hu
   simp [Array.getD_eq_getD_getElem?,hu]
  obtain ⟨a,b,c⟩:=pcells_at ps i hi
  exact ⟨hc _ _ (by omega) a,hc _ _ (by omega) b,hc _ _ (by omega) c⟩
theorem below_grown {w w':World} (h:Below w.heap.size w w'):w.grownBy w' none:=⟨h.os,h.tape,h.output,h.size,fun k hk _=>h.block k hk⟩
theorem PRow.below {w w':World} {base:Nat} {v:Value} {ps:List P3} (h:PRow w base v ps) (hb:Below w.heap.size w w'):PRow w' base v ps :=
 World.ownsRow.kept h (below_grown hb) (by cases hv:v.ownBlock <;> simp)
theorem PRow.rebase {w:World} {base base':Nat} {v:Value} {ps:List P3} (h:PRow w base v ps) (hb:base'<=base):PRow w base' v ps:=by
 refine ⟨h.1,?_⟩
 rcases h.2 with hh | ⟨g,cap,cur,e,hg,r⟩
 ·exact .inl hh
 ·exact .inr ⟨g,cap,cur,e,Nat.le_trans hb hg,r⟩
def cov (l:Int):Int:=if l=1 then 256 else if l=2 then 16 else 1
theorem cov_bd (l:Int):0<=cov l/\cov l<=256:=by
 unfold cov
 by_cases a:l=1 <;> by_cases b:l=2 <;> simp [a,b]
def wordAt (zs:List Int) (f:Int) (i:Nat):Int:=zs.getD ((f * 16).toNat+i) 0
def leads (zs:List Int) (n:Int) (p:P3) (i:Nat):Bool:=decide (dKind p.lv (wordAt zs p.fr i)=1) && decide (dOut p.lv (wordAt zs p.fr i) < n)
def under (zs:List Int) (p:P3) (i:Nat):P3:=⟨dOut p.lv (wordAt zs p.fr i),p.lv+1,p.pg+i * cov p.lv⟩
def downs (zs:List Int) (n:Int) (rec:P3->List P3) (p:P3) (k:Nat):List P3:=p :: (List.range k).flatMap fun i=>if leads zs n p i then rec (under zs p i) else []
def belowL (zs:List Int) (n:Int):Nat->P3->List P3
 | 0,p=>[p]
 | d+1,p=>downs zs n (belowL zs n d) p 16
def bnd:Nat->Nat
 | 0=>1
 | d+1=>1+16 * bnd d
theorem downs_zero (zs:List Int) (n:Int) (rec:P3->List P3) (p:P3):downs zs n rec p 0=[p]:=rfl
theorem downs_succ (zs:List Int) (n:Int) (rec:P3->List P3) (p:P3) (k:Nat):downs zs n rec p (k+1)=downs zs n rec p k ++ (if leads zs n p k then rec (under zs p k) else []):=by
 simp [downs,List.range_succ]
theorem downs_length (zs:List Int) (n:Int) (rec:P3->List P3) (p:P3) (B:Nat) (h:∀ q,(rec q).length<=B):∀ k,(downs zs n rec p k).length<=1+k * B
 | 0=>by simp [downs]
 | k+1=>by
  rw [downs_succ,List.length_append]
  have:=downs_length zs n rec p B h k
  have h2:(if leads zs n p k then rec (under zs p k) else []).length<=B:=by split <;> simp [h]
  rw [Nat.add_mul]; omega
theorem belowL_length (zs:List Int) (n:Int):∀ d p,(belowL zs n d p).length<=bnd d
 | 0,p=>by simp [belowL,bnd]
 | d+1,p=>downs_length zs n _ p (bnd d) (belowL_length zs n d) 16
def nfr (m:Nat):Int:=if m < 16\/8192 < m\/¬ m % 16=0 then 0 else (m / 16:Nat)
theorem nfr_le (m:Nat):nfr m<=512:=by unfold nfr; split <;> omega
theorem nfr_mul (m:Nat) (h:nfr m ≠ 0):nfr m * 16=m/\1<=nfr m:=by unfold nfr at h ⊢; split <;> simp_all <;> omega
theorem dOut_lo (l x:Int):0<=dOut l x/\dOut l x < 65536:=by unfold dOut; split <;> omega
def soundW (zs:List Int) (n:Int) (p:P3) (i:Nat):Bool:=!(decide (dKind p.lv (wordAt zs p.fr i)=4) || (decide (dKind p.lv (wordAt zs p.fr i)=1) && decide (n<=dOut p.lv (wordAt zs p.fr i))))
def soundP (zs:List Int) (n:Int) (p:P3):Bool:=(List.range 16).all (soundW zs n p)
def freshP (ps:List P3) (i:Nat):Bool:=(List.range i).all fun j=>!decide ((pAt ps i).fr=(pAt ps j).fr)
def treeTo (zs:List Int) (n:Int) (ps:List P3) (k:Nat):Bool:=(List.range k).all fun i=>freshP ps i && soundP zs n (pAt ps i)
end Go.Proofs.YtiiejckfcnmhoabGreat
