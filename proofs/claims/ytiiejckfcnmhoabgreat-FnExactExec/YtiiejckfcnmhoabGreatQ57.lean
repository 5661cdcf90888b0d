import Derived.Test.YtiiejckfcnmhoabGreatQ55
import Derived.Test.YtiiejckfcnmhoabGreatQ48
import Derived.Test.YtiiejckfcnmhoabGreatQ46
import Derived.Test.YtiiejckfcnmhoabGreatQ47
import Derived.Test.YtiiejckfcnmhoabGreatQ28
import Derived.Test.YtiiejckfcnmhoabGreatQ06
import Derived.Test.YtiiejckfcnmhoabGreatQ45
import Derived.Test.YtiiejckfcnmhoabGreatQ24
import Derived.Lib.SmallJoins
namespace Go.Proofs.YtiiejckfcnmhoabGreat
open Go.ChangeShapes Go.WideShapes Go.ChangeAt Go.RowKit
set_option linter.unusedVariables false
attribute [local go_sem ↓] Go.wp_at_zero Go.wp_at_succ
theorem validEvent_any (K P N C:Int) (w:World) :
  Calls Tryz.prog 119 #[.agg #[.int .i64 K,.int .i64 P,.int .i64 N,.int .i64 C]] w fun e w'=>e=.returned (.bool (evOk ⟨K,P,N,C⟩))/\Below w.heap.size w w':=by
 have hpk:=validPage_any P
 have hck:=validChoice_any C
 have hnk:=validNeed_any N
 by_cases k0:K < 0
 ·have d0:decide (K < 0)=true:=by simpa using k0
  have hr:evOk ⟨K,P,N,C⟩=false:=by unfold evOk; dsimp only; rw [if_neg (by omega)]; simp; omega
  rw [hr]
  clear hr k0
  go_enter Tryz.func119,Tryz.ntmps119
  go_wp2_with (first | (go_at_call 48; refine (hpk _).mono ?_; rintro e wE ⟨rfl,hwE⟩; obtain rfl:=hwE.symm) | (go_at_call 50; refine (hck _).mono ?_; rintro e wE ⟨rfl,hwE⟩; obtain rfl:=hwE.symm) | (go_at_call 49; refine (hnk _).mono ?_; rintro e wE ⟨rfl,hwE⟩; obtain rfl:=hwE.symm))
  go_ret
  exact ⟨rfl,bal⟩
 ·have d0:decide (K < 0)=false:=by simpa using k0
  by_cases k1:4 < K
  ·have d1:decide (4 < K)=true:=by simpa using k1
   have hr:evOk ⟨K,P,N,C⟩=false:=by unfold evOk; dsimp only; rw [if_neg (by omega)]; simp; omega
   rw [hr]
   clear hr k0 k1
   go_enter Tryz.func119,Tryz.ntmps119
   go_wp2_with (first | (go_at_call 48; refine (hpk _).mono ?_; rintro e wE ⟨rfl,hwE⟩; obtain rfl:=hwE.symm) | (go_at_call 50; refine (hck _).mono ?_; rintro e wE ⟨rfl,hwE⟩; obtain rfl:=hwE.symm) | (go_at_call 49; refine (hnk _).mono ?_; rintro e wE ⟨rfl,hwE⟩; obtain rfl:=hwE.symm))
   go_ret
   exact ⟨rfl,bal⟩
  ·have d1:decide (4 < K)=false:=by simpa using k1
   cases hp:pageOk P
   ·have hr:evOk ⟨K,P,N,C⟩=false:=by unfold evOk; dsimp only; rw [hp]; simp
    rw [hr]
    rw [hp] at hpk
    clear hr k0 k1 hp
    go_enter Tryz.func119,Tryz.ntmps119
    go_wp2_with (first | (go_at_call 48; refine (hpk _).mono ?_; rintro e wE ⟨rfl,hwE⟩; obtain rfl:=hwE.symm) | (go_at_call 50; refine (hck _).mono ?_; rintro e wE ⟨rfl,hwE⟩; obtain rfl:=hwE.symm) | (go_at_call 49; refine (hnk _).mono ?_; rintro e wE ⟨rfl,hwE⟩; obtain rfl:=hwE.symm))
    go_ret
    exact ⟨rfl,bal⟩
   ·cases hc:choiceOk C
    ·have hr:evOk ⟨K,P,N,C⟩=false:=by unfold evOk; dsimp only; rw [hc]; simp
     rw [hr]
     rw [hp] at hpk
     rw [hc] at hck
     clear hr k0 k1 hp hc
     go_enter Tryz.func119,Tryz.ntmps119
     go_wp2_with (first | (go_at_call 48; refine (hpk _).mono ?_; rintro e wE ⟨rfl,hwE⟩; obtain rfl:=hwE.symm) | (go_at_call 50; refine (hck _).mono ?_; rintro e wE ⟨rfl,hwE⟩; obtain rfl:=hwE.symm) | (go_at_call 49; refine (hnk _).mono ?_; rintro e wE ⟨rfl,hwE⟩; obtain rfl:=hwE.symm))
     go_ret
     exact ⟨rfl,bal⟩
    ·by_cases k4:K=4
     ·subst k4
      have hr:evOk ⟨4,P,N,C⟩=needOk N:=by unfold evOk; dsimp only; rw [hp,hc,if_pos rfl]; simp
      rw [hr]
      rw [hp] at hpk
      rw [hc] at hck
      clear hr k0 k1 hp hc d0 d1
      go_enter Tryz.func119,Tryz.ntmps119
      go_wp2_with (first | (go_at_call 48; refine (hpk _).mono ?_; rintro e wE ⟨rfl,hwE⟩; obtain rfl:=hwE.symm) | (go_at_call 50; refine (hck _).mono ?_; rintro e wE ⟨rfl,hwE⟩; obtain rfl:=hwE.symm) | (go_at_call 49; refine (hnk _).mono ?_; rintro e wE ⟨rfl,hwE⟩; obtain rfl:=hwE.symm))
      go_ret
      exact ⟨rfl,bal⟩
     ·have d4:(K == 4)=false:=by simpa using k4
      by_cases kn:N=0
      ·have hr:evOk ⟨K,P,N,C⟩=true:=by unfold evOk; dsimp only; rw [hp,hc,if_neg k4]; simp; omega
       have d5:(N == 0)=true:=by simpa using kn
       rw [hr]
       rw [hp] at hpk
       rw [hc] at hck
       clear hr k0 k1 hp hc k4 kn
       go_enter Tryz.func119,Tryz.ntmps119
       go_wp2_with (first | (go_at_call 48; refine (hpk _).mono ?_; rintro e wE ⟨rfl,hwE⟩; obtain rfl:=hwE.symm) | (go_at_call 50; refine (hck _).mono ?_; rintro e wE ⟨rfl,hwE⟩; obtain rfl:=hwE.symm) | (go_at_call 49; refine (hnk _).mono ?_; rintro e wE ⟨rfl,hwE⟩; obtain rfl:=hwE.symm))
       go_ret
       exact ⟨rfl,bal⟩
      ·have hr:evOk ⟨K,P,N,C⟩=false:=by unfold evOk; dsimp only; rw [hp,hc,if_neg k4]; simp; omega
       have d5:(N == 0)=false:=by simpa using kn
       rw [hr]
       rw [hp] at hpk
       rw [hc] at hck
       clear hr k0 k1 hp hc k4 kn
       go_enter Tryz.func119,Tryz.ntmps119
       go_wp2_with (first | (go_at_call 48; refine (hpk _).mono ?_; rintro e wE ⟨rfl,hwE⟩; obtain rfl:=hwE.symm) | (go_at_call 50; refine (hck _).mono ?_; rintro e wE ⟨rfl,hwE⟩; obtain rfl:=hwE.symm) | (go_at_call 49; refine (hnk _).mono ?_; rintro e wE ⟨rfl,hwE⟩; obtain rfl:=hwE.symm))
       go_ret
       exact ⟨rfl,bal⟩
def evsOk (evs:List EventE):Bool:=(List.range evs.length).all (fun i=>evOk (eAt eEvent evs i))
set_option maxHeartbeats 1000000 in
theorem validScript_any (ea:Option Addr) (ec be:Nat) (evs:List EventE) (w:World) (hl:evs.length<=1048576) (hr:ERow eEvent w be (.slice ea evs.length ec) evs) :
  Calls Tryz.prog 77 #[.slice ea evs.length ec] w fun e w'=>e=.returned (.bool (decide (evs.length<=10000) && evsOk evs))/\Below w.heap.size w w':=by
 by_cases h0:10000 < evs.length
 ·have d0:decide ((10000:Int) < (evs.length:Int))=true:=by simp; omega
  have hz:(decide (evs.length<=10000) && evsOk evs)=false:=by simp; omega
  rw [hz]
  clear hz h0 hr
  go_enter Tryz.func77,Tryz.ntmps77
  go_wp2_with fail
  go_ret
  exact ⟨rfl,Below.refl _ _⟩
 ·have d0:decide ((10000:Int) < (evs.length:Int))=false:=by simp; omega
  have hz:(decide (evs.length<=10000) && evsOk evs)=evsOk evs:=by simp; omega
  rw [hz]
  obtain ⟨g,hg1,hg2⟩:=evs_cells hr
  have HG:Hid (∀ k K P N C,k < evs.length->eAt eEvent evs k=⟨K,P,N,C⟩->∀ wX:World,wX.heap[g]?=w.heap[g]?->wX.cell? ⟨g,k * 4,none⟩=some (.int .i64 K)/\wX.cell? ⟨g,k * 4+1,none⟩=some (.int .i64 P)/\wX.cell? ⟨g,k * 4+2,none⟩=some (.int .i64 N)/\wX.cell? ⟨g,k * 4+3,none⟩=some (.int .i64 C)):=hg2
  have HG1:Hid (0 < evs.length->ea=some ⟨g,0,none⟩/\g < w.heap.size):=hg1
  clear hz h0 hr hg1 hg2
  go_enter Tryz.func77,Tryz.ntmps77
  go_wp2_with fail
  go_loopw [10] (fun i wr=>∃ k:Nat,k<=evs.length/\i=.int .i64 k/\(∀ j,j < k->evOk (eAt eEvent evs j)=true)/\Below w.heap.size w wr) (fun i _=>evs.length - (intOf i).toNat)
  case atStart=>exact ⟨0,Nat.zero_le _,rfl,fun j hj=>absurd hj (by omega),Below.refl _ _⟩
  case round =>
   obtain ⟨k,hk,rfl,hall,hb⟩:=hrel
   by_cases hlt:k < evs.length
   ·obtain ⟨rfl,hgl⟩:=HG1.out (by omega)
    obtain ⟨EE,hEE⟩:∃ EE,eAt eEvent evs k=EE:=⟨_,rfl⟩
    obtain ⟨K,P,N,C⟩:=EE
    obtain ⟨c0,c1,c2,c3⟩:=HG.out k K P N C hlt hEE wr (hb.block g hgl)
    have hgr:g < wr.heap.size:=Nat.lt_of_lt_of_le hgl hb.size
    have L1:(0:Int)<=(k:Int):=by omega
    have L2:(k:Int) < (evs.length:Int):=by omega
    have HB:Hid (Below w.heap.size w wr):=hb
    have HA:Hid (∀ j,j < k->evOk (eAt eEvent evs j)=true):=hall
    have HEE:Hid (eAt eEvent evs k=⟨K,P,N,C⟩):=hEE
    clear hb hall hEE
    cases hev:evOk ⟨K,P,N,C⟩
    ·have hve:=validEvent_any K P N C
     rw [hev] at hve
     have HZ:Hid (evsOk evs=false):=hidOf <| by
      unfold evsOk
      rw [List.all_eq_false]
      exact ⟨k,List.mem_range.2 hlt,by rw [HEE.out,hev]; decide⟩
     clear hev
     go_wp2_with fail
     refine (hve _).mono ?_
     rintro e w1 ⟨rfl,hb1⟩
     have HB1:Hid (Below w.heap.size w w1):=HB.out.trans (bal.trans (hb1.mono (by simp)) |>.mono HB.out.size)
     clear hb1
     go_wp2_with fail
     go_ret
     exact ⟨by rw [HZ.out]; rfl,HB1.out⟩
    ·have hve:=validEvent_any K P N C
     rw [hev] at hve
     have HA':Hid (∀ j,j < k+1->evOk (eAt eEvent evs j)=true):=fun j hj=>by
      by_cases hjk:j=k
      ·rw [hjk,HEE.out,hev]
      ·exact HA.out j (by omega)
     clear hev
     go_wp2_with fail
     refine (hve _).mono ?_
     rintro e w1 ⟨rfl,hb1⟩
     have HB1:Hid (Below w.heap.size w w1):=HB.out.trans (bal.trans (hb1.mono (by simp)) |>.mono HB.out.size)
     clear hb1
     go_wp2_with fail
     go_roundw
     case rel=>exact ⟨k+1,by omega,by go_num,HA'.out,HB1.out⟩
     case measure=>simp [intOf]; omega
   ·have hz:evsOk evs=true:=by
     unfold evsOk
     rw [List.all_eq_true]
     exact fun j hj=>hall j (by have:=List.mem_range.1 hj; omega)
    have HZ:Hid (evsOk evs=true):=hz
    have HB:Hid (Below w.heap.size w wr):=hb
    clear hall hz hb
    go_wp2_with fail
    go_ret
    exact ⟨by rw [HZ.out]; rfl,HB.out⟩
theorem playX_stay {ops:List OpE} {evs:List EventE} {x:XS} {k:Nat} (h:¬ (playX ops evs k x).code=0):∀ j,playX ops evs (k+j) x=playX ops evs k x
 | 0=>rfl
 | j+1=>by
  rw [show k+(j+1)=(k+j)+1 by omega,playX_succ,playX_stay h j,if_neg h]
theorem xHappen_any (gx gu b0 bo:Nat) (oa:Option Addr) (oc:Nat) (ops:List OpE) (v:XV) (x:XS) (e:EventE) (w:World) (ho:∀ i,OpOk (opAt ops i)) (hn:ops.length<=20000) (hx:XOk ops x) (hops:ERow eOp w bo (.slice oa ops.length oc) ops) (hgo:∀ k,oOf oa=some k->¬ v.all gx gu k) (hB:b0<=w.heap.size) (h:XM w gx gu b0 oa oc ops v x) (he:evOk e=true) (hsl:x.seen.length<=20000) :
  Calls Tryz.prog 120 #[.pointer (some ⟨gx,0,none⟩),.agg #[.int .i64 e.kind,.int .i64 e.page,.int .i64 e.need,.int .i64 e.choice]] w fun r w'=>r=.returned (.tuple #[])/\∃ v',XStep w w' gx gu b0 oa oc ops v v' (happenX ops x e):=by
 obtain ⟨⟨p0,p1⟩,⟨c0,c1⟩,k0,k1,n0,_⟩:=evOk_page he
 obtain ⟨K,P,N,C⟩:=e
 dsimp only at p0 p1 c0 c1 k0 k1 n0 ⊢
 rcases (by omega:K=0\/K=1\/K=2\/K=3\/K=4) with rfl | rfl | rfl | rfl | rfl
 ·exact xHappen0_any gx gu b0 bo oa oc ops v x P N C w ho hn hx hops hgo hB h
 ·exact xHappen1_any gx gu b0 bo oa oc ops v x P N C w ho hn hx hops hgo hB h p0 p1 c0 c1
 ·exact xHappen2_any gx gu b0 bo oa oc ops v x P N C w ho hn hx hops hgo hB h
 ·exact xHappen3_any gx gu b0 bo oa oc ops v x P N C w ho hn hx hops hgo hB h
 ·exact xHappen4_any gx gu b0 bo oa oc ops v x P N C w ho hn hx hops hgo hB h p0 p1 c0 c1 (n0 rfl) hsl
set_option maxHeartbeats 4000000 in
theorem xPlay_any (gx gu b0 bo:Nat) (oa:Option Addr) (oc:Nat) (ops:List OpE) (v:XV) (x:XS) (ea:Option Addr) (ec be:Nat) (evs:List EventE) (w:World) (ho:∀ i,OpOk (opAt ops i)) (hn:ops.length<=20000) (hx:XOk ops x) (hops:ERow eOp w bo (.slice oa ops.length oc) ops) (hgo:∀ k,oOf oa=some k->¬ v.all gx gu k) (hB:b0<=w.heap.size) (h:XM w gx gu b0 oa oc ops v x) (hc:x.code=0) (hs:x.seen.length=0) (hel:evs.length<=10000) (he:∀ i,i < evs.length->evOk (eAt eEvent evs i)=true) (hr:ERow eEvent w be (.slice ea evs.length ec) evs) (hge:∀ k,oOf ea=some k->¬ v.all gx gu k) :
  Calls Tryz.prog 78 #[.pointer (some ⟨gx,0,none⟩),.slice ea evs.length ec] w fun r w'=>r=.returned (.tuple #[])/\∃ v',XStep w w' gx gu b0 oa oc ops v v' (playX ops evs evs.length x):=by
 obtain ⟨g,hg1,hg2⟩:=evs_cells hr
 have HG:Hid (∀ k K P N C,k < evs.length->eAt eEvent evs k=⟨K,P,N,C⟩->∀ wX:World,wX.heap[g]?=w.heap[g]?->wX.cell? ⟨g,k * 4,none⟩=some (.int .i64 K)/\wX.cell? ⟨g,k * 4+1,none⟩=some (.int .i64 P)/\wX.cell? ⟨g,k * 4+2,none⟩=some (.int .i64 N)/\wX.cell? ⟨g,k * 4+3,none⟩=some (.int .i64 C)):=hg2
 have HG1:Hid (0 < evs.length->ea=some ⟨g,0,none⟩/\g < w.heap.size/\¬ v.all gx gu g):=fun h0=>⟨(hg1 h0).1,(hg1 h0).2,hge g (by rw [(hg1 h0).1]; rfl)⟩
 have hlt0:=h.lt
 have HPK:Hid (∀ k,k<=evs.length->XOk ops (playX ops evs k x)/\(playX ops evs k x).seen.length<=20000):=fun k hk=>⟨playX_ok ho he hx k hk,by have:=playX_seen ops evs x k; omega⟩
 have HOL:Hid (∀ k,oOf oa=some k->k < w.heap.size):=fun k hk=>(hops.ownA k hk).2
 have HHP:Hid (∀ (k:Nat) (wr:World) (v':XV),k < evs.length->XStep w wr gx gu b0 oa oc ops v v' (playX ops evs k x)->∀ wX,Below wr.heap.size wr wX->Calls Tryz.prog 120 #[.pointer (some ⟨gx,0,none⟩),.agg #[.int .i64 (eAt eEvent evs k).kind,.int .i64 (eAt eEvent evs k).page,.int .i64 (eAt eEvent evs k).need,.int .i64 (eAt eEvent evs k).choice]] wX fun r w'=>r=.returned (.tuple #[])/\∃ v2,XStep wX w' gx gu b0 oa oc ops v' v2 (happenX ops (playX ops evs k x) (eAt eEvent evs k))):=fun k wr v' hk hst wX hX=>by
  have ht:=hst.tch.size
  have hXs:=hX.size
  refine xHappen_any gx gu b0 bo oa oc ops v' (playX ops evs k x) (eAt eEvent evs k) wX ho hn (HPK.out k (by omega)).1 ?_ ?_ (by omega) (hst.xm.below hX) (he k hk) (HPK.out k (by omega)).2
  ·exact (hops.touchA hst.tch hgo).below hX
  ·intro i hi hh
   rcases hst.old i hh with h' | h'
   ·exact hgo i hi h'
   ·have:=HOL.out i hi; omega
 have HX:Hid (XM w gx gu b0 oa oc ops v x):=h
 have HC0:Hid (x.code=0):=hc
 clear hr hg1 hg2 h hx hops hgo hge ho hs he hc
 go_enter Tryz.func78,Tryz.ntmps78
 go_wp2_with fail
 go_loopw [8] (fun i wr=>∃ k:Nat,k<=evs.length/\i=.int .i64 k/\(playX ops evs k x).code=0/\∃ v',XStep w wr gx gu b0 oa oc ops v v' (playX ops evs k x)) (fun i _=>evs.length - (intOf i).toNat)
 case atStart=>exact ⟨0,Nat.zero_le _,rfl,HC0.out,v,XStep.refl HX.out br⟩
 case round =>
  obtain ⟨k,hk,rfl,hcd,v',hst⟩:=hrel
  by_cases hlt:k < evs.length
  ·obtain ⟨rfl,hgl,hgn⟩:=HG1.out (by omega)
   have hH:=HHP.out k wr v' hlt hst (wr.alloc (.cells #[.int .i64 (eAt eEvent evs k).kind,.int .i64 (eAt eEvent evs k).page,.int .i64 (eAt eEvent evs k).need,.int .i64 (eAt eEvent evs k).choice] 120)) bal
   obtain ⟨EE,hEE⟩:∃ EE,eAt eEvent evs k=EE:=⟨_,rfl⟩
   have HNX:Hid (playX ops evs (k+1) x=happenX ops (playX ops evs k x) EE):=hidOf <| by
    rw [playX_succ,if_pos hcd,hEE]
   rw [hEE] at hH
   obtain ⟨K,P,N,C⟩:=EE
   dsimp only at hH
   obtain ⟨c0,c1,c2,c3⟩:=HG.out k K P N C hlt hEE wr (hst.tch.block g hgl hgn)
   have hgr:g < wr.heap.size:=Nat.lt_of_lt_of_le hgl hst.tch.size
   have L1:(0:Int)<=(k:Int):=by omega
   have L2:(k:Int) < (evs.length:Int):=by omega
   have HS:Hid (XStep w wr gx gu b0 oa oc ops v v' (playX ops evs k x)):=hst
   clear hEE hst hcd
   go_wp2_with fail
   refine hH.mono ?_
   rintro r w2 ⟨rfl,v2,hst2⟩
   have hst3:XStep w w2 gx gu b0 oa oc ops v v2 (playX ops evs (k+1) x):=by
    rw [HNX.out]
    exact (HS.out.trans (XStep.refl HS.out.xm bal)).trans hst2
   have q3:=hst3.xm.q3
   have hl2:=hst3.xm.lt
   have HST3:Hid (XStep w w2 gx gu b0 oa oc ops v v2 (playX ops evs (k+1) x)):=hst3
   obtain ⟨cd,hcd⟩:∃ cd,cd=(playX ops evs (k+1) x).code:=⟨_,rfl⟩
   rw [<- hcd] at q3
   have HCD:Hid (cd=(playX ops evs (k+1) x).code):=hcd
   clear hst3 hst2 hH hcd c0 c1 c2 c3
   by_cases hc:cd=0
   ·have dc:(cd != 0)=false:=by simpa using hc
    have HZ:Hid (cd=0):=hc
    clear hc
    go_wp2_with fail
    go_roundw
    case rel=>exact ⟨k+1,by omega,by go_num,by rw [<- HCD.out,HZ.out],v2,HST3.out⟩
    case measure=>simp [intOf]; omega
   ·have dc:(cd != 0)=true:=by simpa using hc
    have HZ:Hid (playX ops evs evs.length x=playX ops evs (k+1) x):=hidOf <| by
     have:=playX_stay (k:=k+1) (evs:=evs) (ops:=ops) (x:=x) (by rw [<- HCD.out]; exact hc) (evs.length - (k+1))
     rw [show k+1+(evs.length - (k+1))=evs.length by omega] at this
     exact this
    clear hc
    go_wp2_with fail
    exact bodyPost_ret (v:=.tuple #[]) (by simp [results,Tryz.results78,go_sem]) rfl ⟨rfl,v2,by rw [HZ.out]; exact HST3.out⟩
  ·have e:k=evs.length:=by omega
   subst e
   have HS:Hid (XStep w wr gx gu b0 oa oc ops v v' (playX ops evs evs.length x)):=hst
   clear hst hcd
   go_wp2_with fail
   exact bodyPost_end (v:=.tuple #[]) (by simp [results,Tryz.results78,go_sem]) rfl ⟨rfl,v',HS.out⟩
def measX (gx n:Nat) (w:World):Nat :=
 (match w.cell? ⟨gx,2,none⟩ with | some (.int _ a)=>2 * (n - a.toNat) | _=>0)+(match w.cell? ⟨gx,3,none⟩ with | some (.int _ c)=>if c=0 then 1 else 0 | _=>0)
theorem XM.meas {W:World} {gx gu b0:Nat} {oa:Option Addr} {oc:Nat} {ops:List OpE} {v:XV} {x:XS} (h:XM W gx gu b0 oa oc ops v x):measX gx ops.length W=2 * (ops.length - x.at')+(if x.code=0 then 1 else 0):=by
 unfold measX
 rw [h.q2,h.q3]
 simp
theorem restX_all {ops:List OpE} {x:XS} {k:Nat} (h:doneX ops (restX ops k x)):restX ops ops.length x=restX ops k x:=by
 have h1:=restX_done (ops:=ops) (x:=x)
 rcases Nat.le_total k ops.length with hk | hk
 ·have:=restX_stay h (ops.length - k)
  rw [show k+(ops.length - k)=ops.length by omega] at this
  exact this
 ·have:=restX_stay h1 (k - ops.length)
  rw [show ops.length+(k - ops.length)=k by omega] at this
  exact this.symm
set_option maxHeartbeats 4000000 in
theorem xFinish_any (gx gu b0 bo:Nat) (oa:Option Addr) (oc:Nat) (ops:List OpE) (v:XV) (x:XS) (w:World) (ho:∀ i,OpOk (opAt ops i)) (hn:ops.length<=20000) (hx:XOk ops x) (hops:ERow eOp w bo (.slice oa ops.length oc) ops) (hgo:∀ k,oOf oa=some k->¬ v.all gx gu k) (hB:b0<=w.heap.size) (h:XM w gx gu b0 oa oc ops v x) :
  Calls Tryz.prog 79 #[.pointer (some ⟨gx,0,none⟩)] w fun r w'=>r=.returned (.tuple #[])/\∃ v',XStep w w' gx gu b0 oa oc ops v v' (restX ops ops.length x):=by
 have HPK:Hid (∀ k,XOk ops (restX ops k x)):=fun k=>restX_ok ho hx k
 have HOL:Hid (∀ k,oOf oa=some k->k < w.heap.size):=fun k hk=>(hops.ownA k hk).2
 have HNX:Hid (∀ (k:Nat) (wr:World) (v':XV),XStep w wr gx gu b0 oa oc ops v v' (restX ops k x)->∀ wX,Below wr.heap.size wr wX->Calls Tryz.prog 121 #[.pointer (some ⟨gx,0,none⟩)] wX fun r w'=>r=.returned (.tuple #[])/\∃ v2,XStep wX w' gx gu b0 oa oc ops v' v2 (nextX ops (restX ops k x))):=fun k wr v' hst wX hX=>by
  have ht:=hst.tch.size
  have hXs:=hX.size
  refine xNext_any gx gu b0 bo oa oc ops v' (restX ops k x) wX ho hn (HPK.out k) ?_ ?_ (by omega) (hst.xm.below hX)
  ·exact (hops.touchA hst.tch hgo).below hX
  ·intro i hi hh
   rcases hst.old i hh with h' | h'
   ·exact hgo i hi h'
   ·have:=HOL.out i hi; omega
 have HX:Hid (XM w gx gu b0 oa oc ops v x):=h
 clear h hx hops hgo ho
 go_enter Tryz.func79,Tryz.ntmps79
 go_wp2_with fail
 go_loopw [] (fun wr=>∃ k:Nat,∃ v',XStep w wr gx gu b0 oa oc ops v v' (restX ops k x)) (fun wr=>measX gx ops.length wr)
 case atStart=>exact ⟨0,v,XStep.refl HX.out br⟩
 case round =>
  obtain ⟨k,v',hst⟩:=hrel
  have q1:=hst.xm.q1
  have q2:=hst.xm.q2
  have q3:=hst.xm.q3
  have hl:=hst.xm.lt
  have hm:=hst.xm.meas
  have hok:=HPK.out k
  have hat:=hok.at'
  obtain ⟨Y,hY⟩:∃ Y,Y=restX ops k x:=⟨_,rfl⟩
  have HY:Hid (Y=restX ops k x):=hY
  have HS:Hid (XStep w wr gx gu b0 oa oc ops v v' (restX ops k x)):=hst
  rw [<- hY] at q2 q3 hm hat
  clear hst hok hY
  by_cases hc:Y.code=0
  ·by_cases ha:Y.at' < ops.length
   ·have d1:(Y.code == 0)=true:=by simpa using hc
    have d2:decide (Y.at' < ops.length)=true:=by simpa using ha
    have hN:=HNX.out k wr v' HS.out wr.drew (br.drew)
    have HR:Hid (restX ops (k+1) x=nextX ops (restX ops k x)):=hidOf <| by
     rw [restX_succ,if_pos (by rw [<- HY.out]; exact hc)]
    have HM:Hid (measX gx ops.length wr=2 * (ops.length - Y.at')+1):=hidOf <| by rw [hm,if_pos hc]
    have HC:Hid (Y.code=0/\Y.at' < ops.length):=⟨hc,ha⟩
    clear hc hm
    go_wp2_with fail
    refine wp_region_held_drew (S:=(fun wX=>wX.cell? ⟨gx,1,none⟩=some (.slice oa ops.length oc)/\wX.cell? ⟨gx,2,none⟩=some (.int .i64 (Y.at':Int))/\wX.cell? ⟨gx,3,none⟩=some (.int .i64 Y.code))) (by kernel_rfl) (⟨q1,q2,q3⟩) (fun hHeld=>?_)
    refine tk 0 ?_
    refine tk 1 ?_
    refine tk 2 ?_
    refine tk 3 ?_
    refine tk 4 ?_
    refine tk 5 ?_
    refine tk 6 ?_
    refine tk 7 ?_
    refine tk 8 ?_
    refine tk 9 ?_
    refine tk 10 ?_
    refine tk 11 ?_
    refine tk 12 ?_
    refine tk 13 ?_
    refine tk 14 ?_
    refine tk 15 ?_
    refine tk 16 ?_
    refine wpAnyH_done (by kernel_rfl) ?_ _
    go_wp2_with fail
    refine hN.mono ?_
    rintro r w2 ⟨rfl,v2,hst2⟩
    have hst3:XStep w w2 gx gu b0 oa oc ops v v2 (restX ops (k+1) x):=by
     rw [HR.out]
     exact (HS.out.trans (XStep.refl HS.out.xm (br.drew))).trans hst2
    have hme:measX gx ops.length w2 < measX gx ops.length wr:=by
     rw [hst3.xm.meas,HM.out,HR.out,<- HY.out]
     obtain ⟨h1,h2⟩:=HC.out
     by_cases h3:(nextX ops Y).code=0
     ·rw [nextX_at h2 h3,if_pos h3]; omega
     ·rw [if_neg h3]
      have h4:(nextX ops Y).at' ≥ Y.at':=by
       unfold nextX
       repeat' split
       all_goals (dsimp only; omega)
      omega
    have HS3:Hid (XStep w w2 gx gu b0 oa oc ops v v2 (restX ops (k+1) x)):=hst3
    have HME:Hid (measX gx ops.length w2 < measX gx ops.length wr):=hme
    clear hst3 hst2 hme
    go_wp2_with fail
    go_roundw
    case rel=>exact ⟨k+1,v2,HS3.out⟩
    case measure=>exact HME.out
   ·have d1:(Y.code == 0)=true:=by simpa using hc
    have d2:decide (Y.at' < ops.length)=false:=by simpa using ha
    have HF:Hid (XStep w wr.drew gx gu b0 oa oc ops v v' (restX ops ops.length x)):=hidOf <| by
     rw [restX_all (k:=k) (.inr (by rw [<- HY.out]; exact ha))]
     exact HS.out.trans (XStep.refl HS.out.xm (br.drew))
    clear hc hm
    go_wp2_with fail
    refine wp_region_held_drew (S:=(fun wX=>wX.cell? ⟨gx,1,none⟩=some (.slice oa ops.length oc)/\wX.cell? ⟨gx,2,none⟩=some (.int .i64 (Y.at':Int))/\wX.cell? ⟨gx,3,none⟩=some (.int .i64 Y.code))) (by kernel_rfl) (⟨q1,q2,q3⟩) (fun hHeld=>?_)
    refine tk 0 ?_
    refine tk 1 ?_
    refine tk 2 ?_
    refine tk 3 ?_
    refine tk 4 ?_
    refine tk 5 ?_
    refine tk 6 ?_
    refine tk 7 ?_
    refine tk 8 ?_
    refine tk 9 ?_
    refine tk 10 ?_
    refine tk 11 ?_
    refine tk 12 ?_
    refine tk 13 ?_
    refine tk 14 ?_
    refine tk 15 ?_
    refine tk 16 ?_
    refine wpAnyH_done (by kernel_rfl) ?_ _
    go_wp2_with fail
    exact bodyPost_end (v:=.tuple #[]) (by simp [results,Tryz.results79,go_sem]) rfl ⟨rfl,v',HF.out⟩
  ·have d1:(Y.code == 0)=false:=by simpa using hc
   have HF:Hid (XStep w wr.drew gx gu b0 oa oc ops v v' (restX ops ops.length x)):=hidOf <| by
    rw [restX_all (k:=k) (.inl (by rw [<- HY.out]; exact hc))]
    exact HS.out.trans (XStep.refl HS.out.xm (br.drew))
   clear hc hm
   go_wp2_with fail
   refine wp_region_held_drew (S:=(fun wX=>wX.cell? ⟨gx,1,none⟩=some (.slice oa ops.length oc)/\wX.cell? ⟨gx,2,none⟩=some (.int .i64 (Y.at':Int))/\wX.cell? ⟨gx,3,none⟩=some (.int .i64 Y.code))) (by kernel_rfl) (⟨q1,q2,q3⟩) (fun hHeld=>?_)
   refine tk 0 ?_
   refine tk 1 ?_
   refine tk 2 ?_
   refine tk 3 ?_
   refine tk 4 ?_
   refine tk 5 ?_
   refine sk 6 ?_
   refine sk 7 ?_
   refine sk 8 ?_
   refine sk 9 ?_
   refine sk 10 ?_
   refine sk 11 ?_
   refine sk 12 ?_
   refine sk 13 ?_
   refine sk 14 ?_
   refine sk 15 ?_
   refine tk 16 ?_
   refine wpAnyH_done (by kernel_rfl) ?_ _
   go_wp2_with fail
   exact bodyPost_end (v:=.tuple #[]) (by simp [results,Tryz.results79,go_sem]) rfl ⟨rfl,v',HF.out⟩
attribute [local go_sem ↓] Go.wp_at_zero Go.wp_at_succ
theorem execOk_eq (M:Mach) (ops:List OpE) (evs:List EventE):execOk M ops evs=(validB M && decide (ops.length<=20000) && (decide (evs.length<=10000) && evsOk evs)):=by
 unfold execOk evsOk
 rw [Bool.and_assoc,Bool.and_assoc]
set_option maxRecDepth 100000 in
set_option maxHeartbeats 8000000 in
theorem implExec_gen (s:SV) (M:Mach) (b bo be:Nat) (oa ea:Option Addr) (oc ec:Nat) (ops:List OpE) (evs:List EventE) (w:World) (R:XS) (hR:R=execR M ops evs) (hk:MOk M) (hs:M.Small) (hol:ops.length<=1048576) (hel:evs.length<=1048576) (ho:∀ i,OpOk (opAt ops i)) (hm:MRow w b (s.mv M) M) (hops:ERow eOp w bo (.slice oa ops.length oc) ops) (hevs:ERow eEvent w be (.slice ea evs.length ec) evs) :
  Calls Tryz.prog 22 #[.agg #[.slice s.a1 M.mem.length s.c1,.slice s.a2 M.pend.length s.c2,.slice s.a3 M.tlb.length s.c3,.slice s.a4 M.wc.length s.c4],.slice oa ops.length oc,.slice ea evs.length ec] w fun e w'=>∃ (s':SV) (sa:Option Addr) (sc:Nat),e=.returned (.agg #[.int .i64 R.code,.int .i64 (R.at':Int),.slice s'.a1 R.M.mem.length s'.c1,.slice s'.a2 R.M.pend.length s'.c2,.slice s'.a3 R.M.tlb.length s'.c3,.slice s'.a4 R.M.wc.length s'.c4,.slice sa R.seen.length sc])/\MRow w' w.heap.size (s'.mv R.M) R.M/\ERow eSeen w' w.heap.size (.slice sa R.seen.length sc) R.seen/\(s'.mv R.M).apart/\(∀ k,oOf sa=some k->¬ (s'.mv R.M).owns k)/\Below w.heap.size w w':=by
 obtain ⟨wb,hwb⟩:∃ wb,wb=(w.alloc (.cells #[.slice s.a1 M.mem.length s.c1,.slice s.a2 M.pend.length s.c2,.slice s.a3 M.tlb.length s.c3,.slice s.a4 M.wc.length s.c4] 36)).alloc (.cells #[.int .i64 0,.int .i64 0,.slice none 0 0,.slice none 0 0,.slice none 0 0,.slice none 0 0,.slice none 0 0] 60):=⟨_,rfl⟩
 have hbb:Below w.heap.size w wb:=by rw [hwb]; exact bal.alloc (by simp) _
 have hzb:wb.heap.size=w.heap.size+2:=by rw [hwb]; simp
 have HBOX:Hid (∀ wX,Below wb.heap.size wb wX->(wX.cell? ⟨w.heap.size,0,none⟩=some (.slice s.a1 M.mem.length s.c1)/\wX.cell? ⟨w.heap.size,1,none⟩=some (.slice s.a2 M.pend.length s.c2)/\wX.cell? ⟨w.heap.size,2,none⟩=some (.slice s.a3 M.tlb.length s.c3)/\wX.cell? ⟨w.heap.size,3,none⟩=some (.slice s.a4 M.wc.length s.c4))/\(wX.cell? ⟨w.heap.size+1,0,none⟩=some (.int .i64 0)/\wX.cell? ⟨w.heap.size+1,1,none⟩=some (.int .i64 0)/\wX.cell? ⟨w.heap.size+1,2,none⟩=some (.slice none 0 0)/\wX.cell? ⟨w.heap.size+1,3,none⟩=some (.slice none 0 0)/\wX.cell? ⟨w.heap.size+1,4,none⟩=some (.slice none 0 0)/\wX.cell? ⟨w.heap.size+1,5,none⟩=some (.slice none 0 0)/\wX.cell? ⟨w.heap.size+1,6,none⟩=some (.slice none 0 0))/\(wX.frozen? ⟨w.heap.size+1,0,none⟩=false/\wX.frozen? ⟨w.heap.size+1,1,none⟩=false/\wX.frozen? ⟨w.heap.size+1,2,none⟩=false/\wX.frozen? ⟨w.heap.size+1,3,none⟩=false/\wX.frozen? ⟨w.heap.size+1,4,none⟩=false/\wX.frozen? ⟨w.heap.size+1,5,none⟩=false/\wX.frozen? ⟨w.heap.size+1,6,none⟩=false)/\w.heap.size < wX.heap.size/\w.heap.size+1 < wX.heap.size):=fun wX hX=>by
  have hsz:=hX.size
  refine ⟨⟨?_,?_,?_,?_⟩,⟨?_,?_,?_,?_,?_,?_,?_⟩,⟨?_,?_,?_,?_,?_,?_,?_⟩,by omega,by omega⟩
  iterate 11 (exact (hX.cell (by simp; omega)).trans (by rw [hwb]; simp [go_sem]))
  iterate 7 (exact (hX.frozen (by simp; omega)).trans (by rw [hwb]; simp [go_sem]))
 have hvm:=validM_any s M b wb hs (hm.below hbb)
 rw [hwb] at hvm
 have HM:Hid (∀ wX,Below wb.heap.size wb wX->MRow wX b (s.mv M) M):=fun wX hX=>hm.below (hbb.trans (hX.mono (by omega)))
 have HVS:Hid (∀ wX,Below wb.heap.size wb wX->Calls Tryz.prog 77 #[.slice ea evs.length ec] wX fun e w'=>e=.returned (.bool (decide (evs.length<=10000) && evsOk evs))/\Below wX.heap.size wX w'):=fun wX hX=>validScript_any ea ec be evs wX hel (hevs.below (hbb.trans (hX.mono (by omega))))
 have HB0:Hid (Below w.heap.size w wb):=hbb
 have HZB:Hid (wb.heap.size=w.heap.size+2):=hzb
 have HWB:Hid (wb=_):=hwb
 have HBAD:Hid (execOk M ops evs=false->R=⟨zM,0,9,[]⟩):=fun hx=>by rw [hR]; unfold execR; rw [hx]; rfl
 have HGOOD:Hid (execOk M ops evs=true->R=endX M ops evs):=fun hx=>by rw [hR]; unfold execR; rw [hx]; rfl
 clear hwb hbb hzb hR
 cases hv:validB M
 ·have HBD:Hid (R=⟨zM,0,9,[]⟩):=HBAD.out (by rw [execOk_eq,hv]; rfl)
  rw [hv] at hvm
  clear hv hm hops hevs
  go_enter Tryz.func22,Tryz.ntmps22
  go_wp2_with fail
  refine hvm.mono ?_
  rintro e w1 ⟨rfl,hb1'⟩
  have hb1:Below wb.heap.size wb w1:=by rw [HWB.out]; exact hb1'
  have HB1:Hid (Below wb.heap.size wb w1):=hb1
  clear hb1' hb1 hvm
  obtain ⟨_,⟨r0,r1,r2,r3,r4,r5,r6⟩,⟨z0,z1,z2,z3,z4,z5,z6⟩,N0,N1⟩:=HBOX.out w1 HB1.out
  go_wp2_with fail
  obtain ⟨wF,hwF⟩:∃ wF,wF=(((((((w1.setCell ⟨w.heap.size+1,0,none⟩ (.int .i64 9)).setCell ⟨w.heap.size+1,1,none⟩ (.int .i64 0)).setCell ⟨w.heap.size+1,2,none⟩ (.slice none 0 0)).setCell ⟨w.heap.size+1,3,none⟩ (.slice none 0 0)).setCell ⟨w.heap.size+1,4,none⟩ (.slice none 0 0)).setCell ⟨w.heap.size+1,5,none⟩ (.slice none 0 0)).setCell ⟨w.heap.size+1,6,none⟩ (.slice none 0 0)):=⟨_,rfl⟩
  have tF:Touch (fun k=>k=w.heap.size+1) w1 wF:=by
   rw [hwF]
   exact Touch.put (Touch.put (Touch.put (Touch.put (Touch.put (Touch.put (Touch.put (Touch.none _) _ _ (by rfl)) _ _ (by rfl)) _ _ (by rfl)) _ _ (by rfl)) _ _ (by rfl)) _ _ (by rfl)) _ _ (by rfl)
  have bF:Below w.heap.size w wF:=Touch.below (HB0.out.trans (HB1.out.mono (by have:=HZB.out; omega))) tF (by omega) (fun k hk=>by omega)
  obtain ⟨y0,y1,y2,y3,y4,y5,y6⟩:=put7c hwF r0 r1 r2 r3 r4 r5 r6
  rw [<- hwF]
  refine bodyPost_ret (v:=.agg #[.int .i64 9,.int .i64 0,.slice none 0 0,.slice none 0 0,.slice none 0 0,.slice none 0 0,.slice none 0 0]) (by simp [results,Tryz.results22,go_sem,y0,y1,y2,y3,y4,y5,y6]) rfl ⟨zS,none,0,?_,?_,?_,?_,?_,bF⟩
  ·rw [HBD.out]; rfl
  ·rw [HBD.out]; exact zM_row _ _
  ·rw [HBD.out]; exact ERow.nilz _ _ _
  ·rw [HBD.out]; exact zM_apart
  ·intro k hk; cases hk
 ·rw [hv] at hvm
  by_cases hl1:20000 < ops.length
  ·have HBD:Hid (R=⟨zM,0,9,[]⟩):=HBAD.out (by rw [execOk_eq,decide_eq_false (p:=ops.length<=20000) (by omega)]; simp)
   have d1:decide ((20000:Int) < (ops.length:Int))=true:=by simp; omega
   clear hv hm hops hevs hl1
   go_enter Tryz.func22,Tryz.ntmps22
   go_wp2_with fail
   refine hvm.mono ?_
   rintro e w1 ⟨rfl,hb1'⟩
   have hb1:Below wb.heap.size wb w1:=by rw [HWB.out]; exact hb1'
   have HB1:Hid (Below wb.heap.size wb w1):=hb1
   clear hb1' hb1 hvm
   obtain ⟨_,⟨r0,r1,r2,r3,r4,r5,r6⟩,⟨z0,z1,z2,z3,z4,z5,z6⟩,N0,N1⟩:=HBOX.out w1 HB1.out
   go_wp2_with fail
   obtain ⟨wF,hwF⟩:∃ wF,wF=(((((((w1.setCell ⟨w.heap.size+1,0,none⟩ (.int .i64 9)).setCell ⟨w.heap.size+1,1,none⟩ (.int .i64 0)).setCell ⟨w.heap.size+1,2,none⟩ (.slice none 0 0)).setCell ⟨w.heap.size+1,3,none⟩ (.slice none 0 0)).setCell ⟨w.heap.size+1,4,none⟩ (.slice none 0 0)).setCell ⟨w.heap.size+1,5,none⟩ (.slice none 0 0)).setCell ⟨w.heap.size+1,6,none⟩ (.slice none 0 0)):=⟨_,rfl⟩
   have tF:Touch (fun k=>k=w.heap.size+1) w1 wF:=by
    rw [hwF]
    exact Touch.put (Touch.put (Touch.put (Touch.put (Touch.put (Touch.put (Touch.put (Touch.none _) _ _ (by rfl)) _ _ (by rfl)) _ _ (by rfl)) _ _ (by rfl)) _ _ (by rfl)) _ _ (by rfl)) _ _ (by rfl)
   have bF:Below w.heap.size w wF:=Touch.below (HB0.out.trans (HB1.out.mono (by have:=HZB.out; omega))) tF (by omega) (fun k hk=>by omega)
   obtain ⟨y0,y1,y2,y3,y4,y5,y6⟩:=put7c hwF r0 r1 r2 r3 r4 r5 r6
   rw [<- hwF]
   refine bodyPost_ret (v:=.agg #[.int .i64 9,.int .i64 0,.slice none 0 0,.slice none 0 0,.slice none 0 0,.slice none 0 0,.slice none 0 0]) (by simp [results,Tryz.results22,go_sem,y0,y1,y2,y3,y4,y5,y6]) rfl ⟨zS,none,0,?_,?_,?_,?_,?_,bF⟩
   ·rw [HBD.out]; rfl
   ·rw [HBD.out]; exact zM_row _ _
   ·rw [HBD.out]; exact ERow.nilz _ _ _
   ·rw [HBD.out]; exact zM_apart
   ·intro k hk; cases hk
  ·have d1:decide ((20000:Int) < (ops.length:Int))=false:=by simp; omega
   cases hvs:(decide (evs.length<=10000) && evsOk evs)
   ·have HBD:Hid (R=⟨zM,0,9,[]⟩):=HBAD.out (by rw [execOk_eq,hvs]; simp)
    rw [hvs] at HVS
    clear hv hm hops hevs hl1 hvs
    go_enter Tryz.func22,Tryz.ntmps22
    go_wp2_with fail
    refine hvm.mono ?_
    rintro e w1 ⟨rfl,hb1'⟩
    have hb1:Below wb.heap.size wb w1:=by rw [HWB.out]; exact hb1'
    have HB1:Hid (Below wb.heap.size wb w1):=hb1
    clear hb1' hb1 hvm
    go_wp2_with fail
    refine (HVS.out w1 HB1.out).mono ?_
    rintro e w2 ⟨rfl,hb2⟩
    have HB2:Hid (Below wb.heap.size wb w2):=HB1.out.trans (hb2.mono HB1.out.size)
    clear hb2
    obtain ⟨_,⟨r0,r1,r2,r3,r4,r5,r6⟩,⟨z0,z1,z2,z3,z4,z5,z6⟩,N0,N1⟩:=HBOX.out w2 HB2.out
    go_wp2_with fail
    obtain ⟨wF,hwF⟩:∃ wF,wF=(((((((w2.setCell ⟨w.heap.size+1,0,none⟩ (.int .i64 9)).setCell ⟨w.heap.size+1,1,none⟩ (.int .i64 0)).setCell ⟨w.heap.size+1,2,none⟩ (.slice none 0 0)).setCell ⟨w.heap.size+1,3,none⟩ (.slice none 0 0)).setCell ⟨w.heap.size+1,4,none⟩ (.slice none 0 0)).setCell ⟨w.heap.size+1,5,none⟩ (.slice none 0 0)).setCell ⟨w.heap.size+1,6,none⟩ (.slice none 0 0)):=⟨_,rfl⟩
    have tF:Touch (fun k=>k=w.heap.size+1) w2 wF:=by
     rw [hwF]
     exact Touch.put (Touch.put (Touch.put (Touch.put (Touch.put (Touch.put (Touch.put (Touch.none _) _ _ (by rfl)) _ _ (by rfl)) _ _ (by rfl)) _ _ (by rfl)) _ _ (by rfl)) _ _ (by rfl)) _ _ (by rfl)
    have bF:Below w.heap.size w wF:=Touch.below (HB0.out.trans (HB2.out.mono (by have:=HZB.out; omega))) tF (by omega) (fun k hk=>by omega)
    obtain ⟨y0,y1,y2,y3,y4,y5,y6⟩:=put7c hwF r0 r1 r2 r3 r4 r5 r6
    rw [<- hwF]
    refine bodyPost_ret (v:=.agg #[.int .i64 9,.int .i64 0,.slice none 0 0,.slice none 0 0,.slice none 0 0,.slice none 0 0,.slice none 0 0]) (by simp [results,Tryz.results22,go_sem,y0,y1,y2,y3,y4,y5,y6]) rfl ⟨zS,none,0,?_,?_,?_,?_,?_,bF⟩
    ·rw [HBD.out]; rfl
    ·rw [HBD.out]; exact zM_row _ _
    ·rw [HBD.out]; exact ERow.nilz _ _ _
    ·rw [HBD.out]; exact zM_apart
    ·intro k hk; cases hk
   ·have HRE:Hid (R=endX M ops evs):=HGOOD.out (by rw [execOk_eq,hv,hvs,decide_eq_true (p:=ops.length<=20000) (by omega)]; rfl)
    rw [hvs] at HVS
    have hel2:evs.length<=10000:=by
     simp only [Bool.and_eq_true,decide_eq_true_eq] at hvs
     exact hvs.1
    have hev:∀ i,i < evs.length->evOk (eAt eEvent evs i)=true:=by
     simp only [Bool.and_eq_true,decide_eq_true_eq] at hvs
     have:=hvs.2
     unfold evsOk at this
     rw [List.all_eq_true] at this
     exact fun i hi=>this i (List.mem_range.2 hi)
    have hvm0:VM M:=VM.of hk hv
    have hok:=hvm0.wok
    have hxo:XOk ops (begX M):=⟨hvm0,by simp [begX],by simp [begX]⟩
    have HOP:Hid (∀ wX,Below wb.heap.size wb wX->Calls Tryz.prog 51 #[.agg #[.slice s.a1 M.mem.length s.c1,.slice s.a2 M.pend.length s.c2,.slice s.a3 M.tlb.length s.c3,.slice s.a4 M.wc.length s.c4]] wX fun r w'=>∃ gu u,r=.returned (.pointer (some ⟨gu,0,none⟩))/\wX.heap.size<=gu/\UM w' gu wX.heap.size wX.heap.size true u M/\UThree u/\Below wX.heap.size wX w'):=fun wX hX=>open_all s M b wX hok (fun i hi=>valid_pend hv i hi) (HM.out wX hX)
    have HOR:Hid (∀ wX,Below wb.heap.size wb wX->ERow eOp wX bo (.slice oa ops.length oc) ops/\ERow eEvent wX be (.slice ea evs.length ec) evs):=fun wX hX=>⟨hops.below (HB0.out.trans (hX.mono (by have:=HZB.out; omega))),hevs.below (HB0.out.trans (hX.mono (by have:=HZB.out; omega)))⟩
    have HOL:Hid ((∀ k,oOf oa=some k->k < w.heap.size)/\∀ k,oOf ea=some k->k < w.heap.size):=⟨fun k hk=>(hops.ownA k hk).2,fun k hk=>(hevs.ownA k hk).2⟩
    have HPL:Hid (∀ (gx gu b0:Nat) (v:XV) (wX:World),Below wb.heap.size wb wX->b0<=wX.heap.size->(∀ k,v.all gx gu k->wb.heap.size<=k)->XM wX gx gu b0 oa oc ops v (begX M)->Calls Tryz.prog 78 #[.pointer (some ⟨gx,0,none⟩),.slice ea evs.length ec] wX fun r w'=>r=.returned (.tuple #[])/\∃ v',XStep wX w' gx gu b0 oa oc ops v v' (playX ops evs evs.length (begX M))):=fun gx gu b0 v wX hX hB hall hXM=>xPlay_any gx gu b0 bo oa oc ops v (begX M) ea ec be evs wX ho (by omega) hxo (HOR.out wX hX).1 (fun k hk hh=>by have:=hall k hh; have:=HOL.out.1 k hk; have:=HZB.out; omega) hB hXM rfl rfl hel2 hev (HOR.out wX hX).2 (fun k hk hh=>by have:=hall k hh; have:=HOL.out.2 k hk; have:=HZB.out; omega)
    have HFI:Hid (∀ (gx gu b0:Nat) (v:XV) (wX:World),Below wb.heap.size wb wX->b0<=wX.heap.size->(∀ k,v.all gx gu k->wb.heap.size<=k)->XM wX gx gu b0 oa oc ops v (playX ops evs evs.length (begX M))->Calls Tryz.prog 79 #[.pointer (some ⟨gx,0,none⟩)] wX fun r w'=>r=.returned (.tuple #[])/\∃ v',XStep wX w' gx gu b0 oa oc ops v v' R):=fun gx gu b0 v wX hX hB hall hXM=>by
     rw [HRE.out]
     exact xFinish_any gx gu b0 bo oa oc ops v _ wX ho (by omega) (playX_ok ho hev hxo _ (Nat.le_refl _)) (HOR.out wX hX).1 (fun k hk hh=>by have:=hall k hh; have:=HOL.out.1 k hk; have:=HZB.out; omega) hB hXM
    have hRsm:R.M.Small:=by
     rw [HRE.out]
     exact (restX_ok ho (playX_ok ho hev hxo _ (Nat.le_refl _)) _).vm.small
    clear hv hm hops hevs hl1 hvs hev hvm0 hok hxo hk ho
    go_enter Tryz.func22,Tryz.ntmps22
    go_wp2_with fail
    refine hvm.mono ?_
    rintro e w1 ⟨rfl,hb1'⟩
    have hb1:Below wb.heap.size wb w1:=by rw [HWB.out]; exact hb1'
    have HB1:Hid (Below wb.heap.size wb w1):=hb1
    clear hb1' hb1 hvm
    go_wp2_with fail
    refine (HVS.out w1 HB1.out).mono ?_
    rintro e w1b ⟨rfl,hb1b⟩
    have HB1b:Hid (Below wb.heap.size wb w1b):=HB1.out.trans (hb1b.mono HB1.out.size)
    obtain ⟨⟨p0,p1,p2,p3⟩,_,_,N0,N1⟩:=HBOX.out w1b HB1b.out
    clear hb1b
    go_wp2_with fail
    refine (HOP.out w1b HB1b.out).mono ?_
    rintro e w2 ⟨gu,u,rfl,hgu,hum,hth,hb2⟩
    have s12:=hb2.size
    have b2:Below wb.heap.size wb w2:=HB1b.out.trans (hb2.mono HB1b.out.size)
    obtain ⟨wX,hwX⟩:∃ wX,wX=w2.alloc (.cells #[.pointer (some ⟨gu,0,none⟩),.slice oa ops.length oc,.int .i64 0,.int .i64 0,.slice none 0 0] 127):=⟨_,rfl⟩
    have bX2:Below w2.heap.size w2 wX:=by rw [hwX]; exact bal
    have bX:Below wb.heap.size wb wX:=b2.trans (bX2.mono b2.size)
    have hzX:wX.heap.size=w2.heap.size+1:=by rw [hwX]; simp
    have hgul:=hum.lt
    have hxm:XM wX w2.heap.size gu w1b.heap.size oa oc ops ⟨u,none,0⟩ (begX M):=by
     refine ⟨by omega,?_,?_,?_,?_,?_,?_,?_,?_,hum.below bX2,hth,ERow.nilz _ _ _,fun hh=>?_,(by intro h; cases h),(by intro k h; cases h)⟩
     iterate 5 (rw [hwX]; simp [go_sem,begX])
     iterate 3 (rw [hwX]; simp [go_sem])
     have:=hum.all_lt _ hh
     omega
    have s1b:=HB1b.out.size
    have hall:∀ k,(⟨u,none,0⟩:XV).all w2.heap.size gu k->wb.heap.size<=k:=fun k hk=>by
     rcases hk with hk | hk | hk
     ·omega
     ·rcases hk with hk | hk | hk | hk | hk | hk
      ·omega
      ·have:=(hum.w.ownA k hk).1; omega
      ·have:=((hum.l rfl).2.ownA k hk).1; omega
      ·have:=(hum.p.ownA k hk).1; omega
      ·have:=(hum.t.ownA k hk).1; omega
      ·have:=(hum.c.ownA k hk).1; omega
     ·cases hk
    have hpl:=HPL.out w2.heap.size gu w1b.heap.size ⟨u,none,0⟩ wX bX (by omega) hall hxm
    have HBX:Hid (Below wb.heap.size wb wX):=bX
    have HAL:Hid (∀ k,(⟨u,none,0⟩:XV).all w2.heap.size gu k->wb.heap.size<=k):=hall
    have HWX:Hid (wX=w2.alloc (.cells #[.pointer (some ⟨gu,0,none⟩),.slice oa ops.length oc,.int .i64 0,.int .i64 0,.slice none 0 0] 127)):=hwX
    have HS1:Hid (w1b.heap.size<=wX.heap.size/\wb.heap.size<=w1b.heap.size):=⟨by omega,s1b⟩
    clear hum hth hb2 b2 hwX bX2 bX hzX hxm hall hgu s12 hgul p0 p1 p2 p3 s1b
    go_wp2_with fail
    rw [<- HWX.out]
    refine hpl.mono ?_
    rintro e w3 ⟨rfl,v3,hst3⟩
    have hu3:=hst3.under HBX.out (HBX.out.size) HAL.out
    have hfi:=HFI.out w2.heap.size gu w1b.heap.size v3 w3 hu3.1 (by have:=HS1.out; have:=hst3.tch.size; omega) hu3.2 hst3.xm
    have HU3:Hid (Below wb.heap.size wb w3/\(∀ k,v3.all w2.heap.size gu k->wb.heap.size<=k)):=hu3
    have HS3:Hid (w1b.heap.size<=w3.heap.size):=hidOf <| by have:=HS1.out; have:=hst3.tch.size; omega
    clear hst3 hu3 hpl
    go_wp2_with fail
    refine hfi.mono ?_
    rintro e w4 ⟨rfl,v4,hst4⟩
    have hu4:=hst4.under HU3.out.1 HU3.out.1.size HU3.out.2
    have hX4:=hst4.xm
    have q0:=hX4.q0
    have q2:=hX4.q2
    have q3:=hX4.q3
    have q4:=hX4.q4
    have hl4:=hX4.lt
    have HX4:Hid (XM w4 w2.heap.size gu w1b.heap.size oa oc ops v4 R):=hX4
    have HU4:Hid (Below wb.heap.size wb w4):=hu4.1
    have HCL:Hid (∀ wX,Below w4.heap.size w4 wX->Calls Tryz.prog 53 #[.pointer (some ⟨gu,0,none⟩)] wX fun r w'=>∃ a3 c3 a4 c4,r=.returned (.agg #[.slice v4.u.a1 R.M.mem.length v4.u.c1,.slice v4.u.a3 R.M.pend.length v4.u.c3,.slice a3 R.M.tlb.length c3,.slice a4 R.M.wc.length c4])/\ERow eTlb w' wX.heap.size (.slice a3 R.M.tlb.length c3) R.M.tlb/\ERow eWc w' wX.heap.size (.slice a4 R.M.wc.length c4) R.M.wc/\(∀ k,oOf a3=some k->oOf a4 ≠ some k)/\Below wX.heap.size wX w'):=fun wX hX=>close_any gu w1b.heap.size w1b.heap.size true v4.u R.M wX hRsm (hX4.um.below hX)
    have HS4:Hid (w1b.heap.size<=w4.heap.size):=hidOf <| by have:=HS3.out; have:=hst4.tch.size; omega
    clear hst4 hu4 hX4 hfi
    go_wp2_with fail
    have HK:Hid (∀ wX,Below w4.heap.size w4 wX->wX.cell? ⟨w2.heap.size,0,none⟩=some (.pointer (some ⟨gu,0,none⟩))/\wX.cell? ⟨w2.heap.size,2,none⟩=some (.int .i64 (R.at':Int))/\wX.cell? ⟨w2.heap.size,3,none⟩=some (.int .i64 R.code)/\wX.cell? ⟨w2.heap.size,4,none⟩=some (.slice v4.sa R.seen.length v4.sc)):=fun wX hX=>⟨(hX.cell hl4).trans q0,(hX.cell hl4).trans q2,(hX.cell hl4).trans q3,(hX.cell hl4).trans q4⟩
    refine wp_region_held_drew (S:=fun wX=>wX.cell? ⟨w2.heap.size,0,none⟩=some (.pointer (some ⟨gu,0,none⟩))/\wX.cell? ⟨w2.heap.size,2,none⟩=some (.int .i64 (R.at':Int))/\wX.cell? ⟨w2.heap.size,3,none⟩=some (.int .i64 R.code)/\wX.cell? ⟨w2.heap.size,4,none⟩=some (.slice v4.sa R.seen.length v4.sc)) (by kernel_rfl) (HK.out _ (br.drew)) (fun hHeld=>?_)
    refine tk 0 ?_
    refine tk 1 ?_
    refine tk 2 ?_
    refine tk 3 ?_
    refine tk 4 ?_
    refine tk 5 ?_
    refine tk 6 ?_
    refine tk 7 ?_
    refine tk 8 ?_
    refine tk 9 ?_
    refine tk 10 ?_
    refine tk 11 ?_
    refine tk 13 ?_
    refine tk 14 ?_
    refine tk 15 ?_
    refine tk 16 ?_
    refine wpAnyH_ready (rs:=[12]) (by kernel_rfl) (by simp) ?_
    refine AllReadyH.cons rfl (fun K hK=>?_) AllReadyH.nil
    go_simp
    refine (HCL.out _ (br.drew)).mono ?_
    rintro e w5 ⟨a3,c3,a4,c4,rfl,ht5,hc5,hap5,hb5⟩
    have b45:Below w4.heap.size w4 w5:=(br.drew).trans hb5
    have b5:Below wb.heap.size wb w5:=HU4.out.trans (b45.mono HU4.out.size)
    have hKw:=HK.out w5 b45
    have hs45:=b45.size
    obtain ⟨_,⟨o0,o1,o2,o3,o4,o5,o6⟩,⟨y0,y1,y2,y3,y4,y5,y6⟩,N0,N1⟩:=HBOX.out w5 b5
    have HB5:Hid (Below wb.heap.size wb w5):=b5
    have HB45:Hid (Below w4.heap.size w4 w5):=b45
    have HT5:Hid (ERow eTlb w5 w4.heap.size (.slice a3 R.M.tlb.length c3) R.M.tlb/\ERow eWc w5 w4.heap.size (.slice a4 R.M.wc.length c4) R.M.wc/\(∀ k,oOf a3=some k->oOf a4 ≠ some k)):=⟨ht5,hc5,hap5⟩
    have hwne:w2.heap.size ≠ w.heap.size+1:=by have:=HU4.out.size; have:=HX4.out.um.lt; have:=HS1.out; have:=HZB.out; have:=HAL.out w2.heap.size (.inl rfl); omega
    clear ht5 hc5 hap5 hb5 b45 b5
    go_wp2_with fail
    refine hK.out _ _ hKw (fun hHeld=>?_)
    clear hK K
    refine tk 17 ?_
    refine wpAnyH_ready (rs:=[18]) (by kernel_rfl) (by simp) ?_
    refine AllReadyH.cons rfl (fun K hK=>?_) AllReadyH.nil
    go_simp
    obtain ⟨wF,hwF⟩:∃ wF,wF=(((((((w5.setCell ⟨w.heap.size+1,0,none⟩ (.int .i64 R.code)).setCell ⟨w.heap.size+1,1,none⟩ (.int .i64 (R.at':Int))).setCell ⟨w.heap.size+1,2,none⟩ (.slice v4.u.a1 R.M.mem.length v4.u.c1)).setCell ⟨w.heap.size+1,3,none⟩ (.slice v4.u.a3 R.M.pend.length v4.u.c3)).setCell ⟨w.heap.size+1,4,none⟩ (.slice a3 R.M.tlb.length c3)).setCell ⟨w.heap.size+1,5,none⟩ (.slice a4 R.M.wc.length c4)).setCell ⟨w.heap.size+1,6,none⟩ (.slice v4.sa R.seen.length v4.sc)):=⟨_,rfl⟩
    have tF:Touch (fun k=>k=w.heap.size+1) w5 wF:=by
     rw [hwF]
     exact Touch.put (Touch.put (Touch.put (Touch.put (Touch.put (Touch.put (Touch.put (Touch.none _) _ _ (by rfl)) _ _ (by rfl)) _ _ (by rfl)) _ _ (by rfl)) _ _ (by rfl)) _ _ (by rfl)) _ _ (by rfl)
    have hKF:wF.cell? ⟨w2.heap.size,0,none⟩=some (.pointer (some ⟨gu,0,none⟩))/\wF.cell? ⟨w2.heap.size,2,none⟩=some (.int .i64 (R.at':Int))/\wF.cell? ⟨w2.heap.size,3,none⟩=some (.int .i64 R.code)/\wF.cell? ⟨w2.heap.size,4,none⟩=some (.slice v4.sa R.seen.length v4.sc):=by
     have hk:=tF.block w2.heap.size (by omega) hwne
     exact ⟨(cob hk).trans hKw.1,(cob hk).trans hKw.2.1,(cob hk).trans hKw.2.2.1,(cob hk).trans hKw.2.2.2⟩
    obtain ⟨g0,g1,g2,g3,g4,g5,g6⟩:=put7c hwF o0 o1 o2 o3 o4 o5 o6
    rw [<- hwF]
    have HFIN:Hid (MRow wF w.heap.size ((⟨v4.u.a1,v4.u.c1,v4.u.a3,v4.u.c3,a3,c3,a4,c4⟩:SV).mv R.M) R.M/\ERow eSeen wF w.heap.size (.slice v4.sa R.seen.length v4.sc) R.seen/\((⟨v4.u.a1,v4.u.c1,v4.u.a3,v4.u.c3,a3,c3,a4,c4⟩:SV).mv R.M).apart/\(∀ k,oOf v4.sa=some k->¬ ((⟨v4.u.a1,v4.u.c1,v4.u.a3,v4.u.c3,a3,c3,a4,c4⟩:SV).mv R.M).owns k)/\Below w.heap.size w wF):=hidOf <| by
     have hb:=HB45.out
     have hx:=HX4.out
     have hS:=HS1.out
     have hZ:=HZB.out
     have hrow:MRow w5 w1b.heap.size ((⟨v4.u.a1,v4.u.c1,v4.u.a3,v4.u.c3,a3,c3,a4,c4⟩:SV).mv R.M) R.M:=⟨hx.um.w.below hb,hx.um.p.below hb,HT5.out.1.rebase (by have:=HS4.out; omega),HT5.out.2.1.rebase (by have:=HS4.out; omega)⟩
     have hsr:=hx.s.below hb
     refine ⟨MRow.rebase (base:=w1b.heap.size) (hrow.touch tF (fun k hk hh=>?_)) (by omega),ERow.rebase (base:=w1b.heap.size) (hsr.touchA tF (fun k hk hh=>?_)) (by omega),?_,?_,Touch.below (HB0.out.trans (HB5.out.mono (by omega))) tF (by omega) (fun k hk=>by omega)⟩
     ·have:=(hrow.own k hk).1
      omega
     ·have:=(hsr.ownA k hk).1
      omega
     ·intro k
      have o1:=fun h=>(hx.um.w.ownA k h).2
      have o3:=fun h=>(hx.um.p.ownA k h).2
      have ot:=fun h=>(HT5.out.1.ownA k h).1
      have oc:=fun h=>(HT5.out.2.1.ownA k h).1
      simp only [SV.mv,own_slice]
      refine ⟨fun h=>⟨hx.th.a13 k h,fun h'=>?_,fun h'=>?_⟩,fun h=>⟨fun h'=>?_,fun h'=>?_⟩,fun h h'=>HT5.out.2.2 k h h'⟩
      ·have:=o1 h; have:=ot h'; omega
      ·have:=o1 h; have:=oc h'; omega
      ·have:=o3 h; have:=ot h'; omega
      ·have:=o3 h; have:=oc h'; omega
     ·intro k hk hh
      have hlt:=(hx.s.ownA k hk).2
      simp only [MV.owns,SV.mv,own_slice] at hh
      rcases hh with h | h | h | h
      ·exact hx.nu k hk (.inr (.inl h))
      ·exact hx.nu k hk (.inr (.inr (.inr (.inl h))))
      ·have:=(HT5.out.1.ownA k h).1; omega
      ·have:=(HT5.out.2.1.ownA k h).1; omega
    clear hwF tF
    refine hK.out _ _ hKF (fun hHeld=>?_)
    clear hK K
    refine wpAnyH_done (by kernel_rfl) ?_ _
    go_wp2_with fail
    exact bodyPost_ret (v:=.agg #[.int .i64 R.code,.int .i64 (R.at':Int),.slice v4.u.a1 R.M.mem.length v4.u.c1,.slice v4.u.a3 R.M.pend.length v4.u.c3,.slice a3 R.M.tlb.length c3,.slice a4 R.M.wc.length c4,.slice v4.sa R.seen.length v4.sc]) (by simp [results,Tryz.results22,go_sem,g0,g1,g2,g3,g4,g5,g6]) rfl ⟨(⟨v4.u.a1,v4.u.c1,v4.u.a3,v4.u.c3,a3,c3,a4,c4⟩:SV),v4.sa,v4.sc,rfl,HFIN.out⟩
attribute [local go_sem ↓] Go.wp_at_zero Go.wp_at_succ
theorem fnexactexec_big (s:SV) (M:Mach) (oa ea:Option Addr) (oc ec:Nat) (ops:List OpE) (evs:List EventE) (w:World) (h1:M.mem.length<=9223372036854775807) (h2:M.pend.length<=9223372036854775807) (h3:M.tlb.length<=9223372036854775807) (h4:M.wc.length<=9223372036854775807) (h5:ops.length<=9223372036854775807) (h6:evs.length<=9223372036854775807) (hb:¬ M.mem.length+M.pend.length+M.tlb.length+M.wc.length+ops.length+evs.length<=1048576) :
  Calls Tryz.prog 5 #[.agg #[.slice s.a1 M.mem.length s.c1,.slice s.a2 M.pend.length s.c2,.slice s.a3 M.tlb.length s.c3,.slice s.a4 M.wc.length s.c4],.slice oa ops.length oc,.slice ea evs.length ec] w fun e w'=>e=.returned (.bool true)/\Below w.heap.size w w':=by
 have hsz:=szMachine_any s.a1 s.a2 s.a3 s.a4 M.mem.length M.pend.length M.tlb.length M.wc.length s.c1 s.c2 s.c3 s.c4 h1 h2 h3 h4
 by_cases k1:M.mem.length+M.pend.length+M.tlb.length+M.wc.length<=1048576
 ·rw [if_pos k1] at hsz
  have d1:decide ((1048576 - (M.mem.length:Int) - M.pend.length - M.tlb.length - M.wc.length) < 0)=false:=by simp; omega
  have hso:=szOp_any oa ops.length oc (1048576 - (M.mem.length:Int) - M.pend.length - M.tlb.length - M.wc.length) h5 (by omega) (by omega)
  by_cases k2:(ops.length:Int)<=(1048576 - (M.mem.length:Int) - M.pend.length - M.tlb.length - M.wc.length)
  ·rw [if_pos k2] at hso
   have d2:decide ((1048576 - (M.mem.length:Int) - M.pend.length - M.tlb.length - M.wc.length) - (ops.length:Int) < 0)=false:=by simp; omega
   have hse:=szEvent_any ea evs.length ec ((1048576 - (M.mem.length:Int) - M.pend.length - M.tlb.length - M.wc.length) - ops.length) h6 (by omega) (by omega)
   rw [if_neg (by omega)] at hse
   clear k1 k2 hb
   go_enter Tryz.func5,Tryz.ntmps5
   go_wp2_with (first
  | (go_at_call 6; refine (hsz _).mono ?_; rintro e w1 ⟨rfl,hb1⟩)
  | (go_at_call 17; refine (hso _).mono ?_; rintro e w2 ⟨rfl,rfl⟩)
  | (go_at_call 18; refine (hse _).mono ?_; rintro e w3 ⟨rfl,rfl⟩))
   go_ret
   exact ⟨rfl,bal.trans (hb1.mono (by simp))⟩
  ·rw [if_neg k2] at hso
   have hse:=hso
   clear k1 k2 hb hse
   go_enter Tryz.func5,Tryz.ntmps5
   go_wp2_with (first
  | (go_at_call 6; refine (hsz _).mono ?_; rintro e w1 ⟨rfl,hb1⟩)
  | (go_at_call 17; refine (hso _).mono ?_; rintro e w2 ⟨rfl,rfl⟩))
   go_ret
   exact ⟨rfl,bal.trans (hb1.mono (by simp))⟩
 ·rw [if_neg k1] at hsz
  clear k1 hb
  go_enter Tryz.func5,Tryz.ntmps5
  go_wp2_with (first
  | (go_at_call 6; refine (hsz _).mono ?_; rintro e w1 ⟨rfl,hb1⟩))
  go_ret
  exact ⟨rfl,bal.trans (hb1.mono (by simp))⟩
set_option maxHeartbeats 8000000 in
theorem fnexactexec_walk (s:SV) (M:Mach) (R:XS) (oa ea:Option Addr) (oc ec:Nat) (ops:List OpE) (evs:List EventE) (w:World) (hsm:M.Small) (z1:R.M.Small) (z2:R.seen.length<=1048576) (hsum:M.mem.length+M.pend.length+M.tlb.length+M.wc.length+ops.length+evs.length<=1048576) (hv:MSrc w (s.mv M) M) (hvo:ESrc eOp w (.slice oa ops.length oc) ops) (hve:ESrc eEvent w (.slice ea evs.length ec) evs)
  (hS:∀ (s:SV) (b bo be:Nat) (oa ea:Option Addr) (oc ec:Nat) (w:World),MRow w b (s.mv M) M->ERow eOp w bo (.slice oa ops.length oc) ops->ERow eEvent w be (.slice ea evs.length ec) evs->Calls Tryz.prog 19 #[.agg #[.slice s.a1 M.mem.length s.c1,.slice s.a2 M.pend.length s.c2,.slice s.a3 M.tlb.length s.c3,.slice s.a4 M.wc.length s.c4],.slice oa ops.length oc,.slice ea evs.length ec] w fun e w'=>∃ (s':SV) (sa:Option Addr) (sc:Nat),e=.returned (.agg #[.int .i64 R.code,.int .i64 (R.at':Int),.slice s'.a1 R.M.mem.length s'.c1,.slice s'.a2 R.M.pend.length s'.c2,.slice s'.a3 R.M.tlb.length s'.c3,.slice s'.a4 R.M.wc.length s'.c4,.slice sa R.seen.length sc])/\MRow w' w.heap.size (s'.mv R.M) R.M/\ERow eSeen w' w.heap.size (.slice sa R.seen.length sc) R.seen/\Below w.heap.size w w')
  (hI:∀ (s:SV) (b bo be:Nat) (oa ea:Option Addr) (oc ec:Nat) (w:World),MRow w b (s.mv M) M->ERow eOp w bo (.slice oa ops.length oc) ops->ERow eEvent w be (.slice ea evs.length ec) evs->Calls Tryz.prog 22 #[.agg #[.slice s.a1 M.mem.length s.c1,.slice s.a2 M.pend.length s.c2,.slice s.a3 M.tlb.length s.c3,.slice s.a4 M.wc.length s.c4],.slice oa ops.length oc,.slice ea evs.length ec] w fun e w'=>∃ (s':SV) (sa:Option Addr) (sc:Nat),e=.returned (.agg #[.int .i64 R.code,.int .i64 (R.at':Int),.slice s'.a1 R.M.mem.length s'.c1,.slice s'.a2 R.M.pend.length s'.c2,.slice s'.a3 R.M.tlb.length s'.c3,.slice s'.a4 R.M.wc.length s'.c4,.slice sa R.seen.length sc])/\MRow w' w.heap.size (s'.mv R.M) R.M/\ERow eSeen w' w.heap.size (.slice sa R.seen.length sc) R.seen/\(s'.mv R.M).apart/\(∀ k,oOf sa=some k->¬ (s'.mv R.M).owns k)/\Below w.heap.size w w') :
  Calls Tryz.prog 5 #[.agg #[.slice s.a1 M.mem.length s.c1,.slice s.a2 M.pend.length s.c2,.slice s.a3 M.tlb.length s.c3,.slice s.a4 M.wc.length s.c4],.slice oa ops.length oc,.slice ea evs.length ec] w fun e w'=>e=.returned (.bool true)/\Below w.heap.size w w':=by
 have y1:=hsm.w
 have y2:=hsm.p
 have y3:=hsm.t
 have y4:=hsm.c
 have x1:=z1.w
 have x2:=z1.p
 have x3:=z1.t
 have x4:=z1.c
 have hsz:=szMachine_any s.a1 s.a2 s.a3 s.a4 M.mem.length M.pend.length M.tlb.length M.wc.length s.c1 s.c2 s.c3 s.c4 (by omega) (by omega) (by omega) (by omega)
 rw [if_pos (by omega)] at hsz
 have d1:decide ((1048576 - (M.mem.length:Int) - M.pend.length - M.tlb.length - M.wc.length) < 0)=false:=by simp; omega
 have hso:=szOp_any oa ops.length oc (1048576 - (M.mem.length:Int) - M.pend.length - M.tlb.length - M.wc.length) (by omega) (by omega) (by omega)
 rw [if_pos (by omega)] at hso
 have d2:decide ((1048576 - (M.mem.length:Int) - M.pend.length - M.tlb.length - M.wc.length) - (ops.length:Int) < 0)=false:=by simp; omega
 have hse:=szEvent_any ea evs.length ec ((1048576 - (M.mem.length:Int) - M.pend.length - M.tlb.length - M.wc.length) - ops.length) (by omega) (by omega) (by omega)
 rw [if_pos (by omega)] at hse
 have d3:decide ((1048576 - (M.mem.length:Int) - M.pend.length - M.tlb.length - M.wc.length) - (ops.length:Int) - (evs.length:Int) < 0)=false:=by simp; omega
 obtain ⟨wb,hwb⟩:∃ wb,wb=w.alloc (.cells #[.slice s.a1 M.mem.length s.c1,.slice s.a2 M.pend.length s.c2,.slice s.a3 M.tlb.length s.c3,.slice s.a4 M.wc.length s.c4] 29):=⟨_,rfl⟩
 have hbb:Below w.heap.size w wb:=by rw [hwb]; exact bal
 have hzb:wb.heap.size=w.heap.size+1:=by rw [hwb]; simp
 have HBOX:Hid (∀ wX,Below wb.heap.size wb wX->(wX.cell? ⟨w.heap.size,0,none⟩=some (.slice s.a1 M.mem.length s.c1)/\wX.cell? ⟨w.heap.size,1,none⟩=some (.slice s.a2 M.pend.length s.c2)/\wX.cell? ⟨w.heap.size,2,none⟩=some (.slice s.a3 M.tlb.length s.c3)/\wX.cell? ⟨w.heap.size,3,none⟩=some (.slice s.a4 M.wc.length s.c4))/\w.heap.size < wX.heap.size):=fun wX hX=>by
  refine ⟨⟨?_,?_,?_,?_⟩,by have:=hX.size; omega⟩
  iterate 4 (exact (hX.cell (by simp; omega)).trans (by rw [hwb]; simp [go_sem]))
 have HTO:Hid (∀ wX,Below wb.heap.size wb wX->Calls Tryz.prog 8 #[.agg #[.slice s.a1 M.mem.length s.c1,.slice s.a2 M.pend.length s.c2,.slice s.a3 M.tlb.length s.c3,.slice s.a4 M.wc.length s.c4]] wX fun e w'=>∃ s':SV,e=.returned (.agg #[.slice s'.a1 M.mem.length s'.c1,.slice s'.a2 M.pend.length s'.c2,.slice s'.a3 M.tlb.length s'.c3,.slice s'.a4 M.wc.length s'.c4])/\MRow w' wX.heap.size (s'.mv M) M/\(s'.mv M).apart/\Below wX.heap.size wX w'):=fun wX hX=>toMachine_s s M wX hsm (hv.at (hbb.trans (hX.mono (by omega))))
 have HTP:Hid (∀ wX,Below wb.heap.size wb wX->Calls Tryz.prog 20 #[.slice oa ops.length oc] wX fun e w'=>e=.returned (.slice (some ⟨wX.heap.size,0,none⟩) ops.length ops.length)/\ERow eOp w' wX.heap.size (.slice (some ⟨wX.heap.size,0,none⟩) ops.length ops.length) ops/\Below wX.heap.size wX w'):=fun wX hX=>toOpS_any _ ops wX (hvo.at (hbb.trans (hX.mono (by omega)))) (by omega)
 have HTE:Hid (∀ wX,Below wb.heap.size wb wX->Calls Tryz.prog 21 #[.slice ea evs.length ec] wX fun e w'=>e=.returned (.slice (some ⟨wX.heap.size,0,none⟩) evs.length evs.length)/\ERow eEvent w' wX.heap.size (.slice (some ⟨wX.heap.size,0,none⟩) evs.length evs.length) evs/\Below wX.heap.size wX w'):=fun wX hX=>toEventS_any _ evs wX (hve.at (hbb.trans (hX.mono (by omega)))) (by omega)
 have HB0:Hid (Below w.heap.size w wb):=hbb
 have HZB:Hid (wb.heap.size=w.heap.size+1):=hzb
 have HWB:Hid (wb=_):=hwb
 have HS:Hid _:=hS
 have HI:Hid _:=hI
 have hs1:=hsz wb
 rw [hwb] at hs1
 clear hwb hbb hzb hv hvo hve hS hI hsz
 go_enter Tryz.func5,Tryz.ntmps5
 go_wp2_with fail
 refine hs1.mono ?_
 rintro e w1 ⟨rfl,hb1'⟩
 have hb1:Below wb.heap.size wb w1:=by rw [HWB.out]; exact hb1'
 obtain ⟨⟨p0,p1,p2,p3⟩,N0⟩:=HBOX.out w1 hb1
 have HB1:Hid (Below wb.heap.size wb w1):=hb1
 clear hb1' hb1 hs1
 go_wp2_with (first | (go_at_call 17; refine (hso _).mono ?_; rintro e w2 ⟨rfl,hw2⟩; obtain rfl:=hw2.symm) | (go_at_call 18; refine (hse _).mono ?_; rintro e w2 ⟨rfl,hw2⟩; obtain rfl:=hw2.symm))
 refine (HTO.out w1 HB1.out).mono ?_
 rintro e aQ ⟨sQ,rfl,hm,_,hb⟩
 have HBaQ:Hid (Below wb.heap.size wb aQ):=HB1.out.trans (hb.mono HB1.out.size)
 have HMaQ:Hid (MRow aQ wb.heap.size (sQ.mv M) M/\w1.heap.size<=aQ.heap.size):=⟨hm.rebase HB1.out.size,hb.size⟩
 have HDaQ:Hid (Below w1.heap.size w1 aQ):=hb
 clear hm hb
 go_wp2_with fail
 refine (HTP.out aQ HBaQ.out).mono ?_
 rintro e bQ ⟨rfl,ho,hb⟩
 have HBbQ:Hid (Below wb.heap.size wb bQ):=HBaQ.out.trans (hb.mono HBaQ.out.size)
 have HMbQ:Hid (MRow bQ wb.heap.size (sQ.mv M) M/\ERow eOp bQ aQ.heap.size (.slice (some ⟨aQ.heap.size,0,none⟩) ops.length ops.length) ops):=⟨HMaQ.out.1.below hb,ho⟩
 have HDbQ:Hid (Below w1.heap.size w1 bQ):=HDaQ.out.trans (hb.mono HDaQ.out.size)
 clear ho hb
 go_wp2_with fail
 refine (HTE.out bQ HBbQ.out).mono ?_
 rintro e cQ ⟨rfl,hv,hb⟩
 have HBcQ:Hid (Below wb.heap.size wb cQ):=HBbQ.out.trans (hb.mono HBbQ.out.size)
 have HDcQ:Hid (Below w1.heap.size w1 cQ):=HDbQ.out.trans (hb.mono HDbQ.out.size)
 have HMcQ:Hid (MRow cQ wb.heap.size (sQ.mv M) M/\ERow eOp cQ aQ.heap.size (.slice (some ⟨aQ.heap.size,0,none⟩) ops.length ops.length) ops/\ERow eEvent cQ bQ.heap.size (.slice (some ⟨bQ.heap.size,0,none⟩) evs.length evs.length) evs):=⟨HMbQ.out.1.below hb,HMbQ.out.2.below hb,hv⟩
 clear hv hb
 go_wp2_with fail
 refine (HS.out sQ _ _ _ _ _ _ _ cQ HMcQ.out.1 HMcQ.out.2.1 HMcQ.out.2.2).mono ?_
 rintro e w5 ⟨sw,wa,wc,rfl,hm,hsr,hb⟩
 obtain ⟨wS,hwS⟩:∃ x,x=w5.alloc (.cells #[.int .i64 R.code,.int .i64 (R.at':Int),.slice sw.a1 R.M.mem.length sw.c1,.slice sw.a2 R.M.pend.length sw.c2,.slice sw.a3 R.M.tlb.length sw.c3,.slice sw.a4 R.M.wc.length sw.c4,.slice wa R.seen.length wc] 60):=⟨_,rfl⟩
 have ba:Below w5.heap.size w5 wS:=by rw [hwS]; exact bal
 have hzwS:wS.heap.size=w5.heap.size+1:=by rw [hwS]; simp
 have HQwS:Hid (wS.cell? ⟨w5.heap.size,0,none⟩=some (.int .i64 R.code)/\wS.cell? ⟨w5.heap.size,1,none⟩=some (.int .i64 (R.at':Int))/\wS.cell? ⟨w5.heap.size,2,none⟩=some (.slice sw.a1 R.M.mem.length sw.c1)/\wS.cell? ⟨w5.heap.size,3,none⟩=some (.slice sw.a2 R.M.pend.length sw.c2)/\wS.cell? ⟨w5.heap.size,4,none⟩=some (.slice sw.a3 R.M.tlb.length sw.c3)/\wS.cell? ⟨w5.heap.size,5,none⟩=some (.slice sw.a4 R.M.wc.length sw.c4)/\wS.cell? ⟨w5.heap.size,6,none⟩=some (.slice wa R.seen.length wc)):=hidOf <| by
  refine ⟨?_,?_,?_,?_,?_,?_,?_⟩ <;> (rw [hwS]; simp [go_sem])
 have HRwS:Hid (MRow wS cQ.heap.size (sw.mv R.M) R.M/\ERow eSeen wS cQ.heap.size (.slice wa R.seen.length wc) R.seen):=⟨hm.below ba,hsr.below ba⟩
 have HZwS:Hid (wS.heap.size=w5.heap.size+1):=hzwS
 have HWwS:Hid (wS=w5.alloc (.cells #[.int .i64 R.code,.int .i64 (R.at':Int),.slice sw.a1 R.M.mem.length sw.c1,.slice sw.a2 R.M.pend.length sw.c2,.slice sw.a3 R.M.tlb.length sw.c3,.slice sw.a4 R.M.wc.length sw.c4,.slice wa R.seen.length wc] 60)):=hwS
 have HBS:Hid (Below wb.heap.size wb wS):=HBcQ.out.trans ((hb.trans (ba.mono hb.size)).mono HBcQ.out.size)
 have HCS:Hid (wb.heap.size<=cQ.heap.size/\cQ.heap.size<=w5.heap.size):=⟨HBcQ.out.size,hb.size⟩
 obtain ⟨⟨p0,p1,p2,p3⟩,N0⟩:=HBOX.out w5 (HBcQ.out.trans (hb.mono HBcQ.out.size))
 clear hm hsr hb ba hzwS hwS
 go_wp2_with fail
 rw [<- HWwS.out]
 refine (HTO.out wS HBS.out).mono ?_
 rintro e w6 ⟨sx,rfl,hm,hap,hb⟩
 obtain ⟨wY,hwY⟩:∃ x,x=w6.alloc (.cells #[.slice sx.a1 M.mem.length sx.c1,.slice sx.a2 M.pend.length sx.c2,.slice sx.a3 M.tlb.length sx.c3,.slice sx.a4 M.wc.length sx.c4] 36):=⟨_,rfl⟩
 have ba:Below w6.heap.size w6 wY:=by rw [hwY]; exact bal
 have hzY:wY.heap.size=w6.heap.size+1:=by rw [hwY]; simp
 have HQY:Hid (wY.cell? ⟨w6.heap.size,0,none⟩=some (.slice sx.a1 M.mem.length sx.c1)/\wY.cell? ⟨w6.heap.size,1,none⟩=some (.slice sx.a2 M.pend.length sx.c2)/\wY.cell? ⟨w6.heap.size,2,none⟩=some (.slice sx.a3 M.tlb.length sx.c3)/\wY.cell? ⟨w6.heap.size,3,none⟩=some (.slice sx.a4 M.wc.length sx.c4)):=hidOf <| by
  refine ⟨?_,?_,?_,?_⟩ <;> (rw [hwY]; simp [go_sem])
 have HRY:Hid (MRow wY wS.heap.size (sx.mv M) M/\(sx.mv M).apart/\(∀ k,(sx.mv M).owns k->wS.heap.size<=k/\k < w6.heap.size)):=⟨hm.below ba,hap,hm.own⟩
 have HDY:Hid (Below wS.heap.size wS wY):=hb.trans (ba.mono hb.size)
 have HBY:Hid (Below wb.heap.size wb wY):=HBS.out.trans (HDY.out.mono HBS.out.size)
 have HZY:Hid (wY.heap.size=w6.heap.size+1/\wS.heap.size<=w6.heap.size):=⟨hzY,hb.size⟩
 have HWY:Hid (wY=w6.alloc (.cells #[.slice sx.a1 M.mem.length sx.c1,.slice sx.a2 M.pend.length sx.c2,.slice sx.a3 M.tlb.length sx.c3,.slice sx.a4 M.wc.length sx.c4] 36)):=hwY
 obtain ⟨⟨p0,p1,p2,p3⟩,N0⟩:=HBOX.out w6 (HBS.out.trans (hb.mono HBS.out.size))
 clear hm hap hb ba hzY hwY
 go_wp2_with fail
 rw [<- HWY.out]
 refine (HTP.out wY HBY.out).mono ?_
 rintro e w7 ⟨rfl,ho,hb⟩
 have HB7:Hid (Below wb.heap.size wb w7):=HBY.out.trans (hb.mono HBY.out.size)
 have HD7:Hid (Below wY.heap.size wY w7):=hb
 have HO7:Hid (ERow eOp w7 wY.heap.size (.slice (some ⟨wY.heap.size,0,none⟩) ops.length ops.length) ops):=ho
 clear ho hb
 go_wp2_with fail
 refine (HTE.out w7 HB7.out).mono ?_
 rintro e wX ⟨rfl,hv,hb⟩
 have HBX:Hid (Below wb.heap.size wb wX):=HB7.out.trans (hb.mono HB7.out.size)
 have HDX:Hid (Below wY.heap.size wY wX):=HD7.out.trans (hb.mono HD7.out.size)
 have HE7:Hid (ERow eEvent wX w7.heap.size (.slice (some ⟨w7.heap.size,0,none⟩) evs.length evs.length) evs):=hv
 have HO7X:Hid (ERow eOp wX wY.heap.size (.slice (some ⟨wY.heap.size,0,none⟩) ops.length ops.length) ops):=HO7.out.below hb
 have HZX:Hid (wY.heap.size < w7.heap.size/\w7.heap.size < wX.heap.size):=⟨(HO7.out.own _ rfl).2,(hv.own _ rfl).2⟩
 have HMX:Hid (MRow wX wS.heap.size (sx.mv M) M):=HRY.out.1.below HDX.out
 obtain ⟨a0,a1,a2,a3⟩:=HQY.out
 have hnX:w6.heap.size < wX.heap.size:=by have:=HZY.out; have:=HZX.out; omega
 have hbY:∀ j,wX.cell? ⟨w6.heap.size,j,none⟩=wY.cell? ⟨w6.heap.size,j,none⟩:=fun j=>HDX.out.cell (by have:=HZY.out; show w6.heap.size < wY.heap.size; omega)
 have a0:=(hbY 0).trans a0
 have a1:=(hbY 1).trans a1
 have a2:=(hbY 2).trans a2
 have a3:=(hbY 3).trans a3
 clear hv hb hbY
 go_wp2_with fail
 refine (HI.out sx _ _ _ _ _ _ _ wX HMX.out HO7X.out HE7.out).mono ?_
 rintro e w8 ⟨sg,ga,gc,rfl,hm,hsr,hap,hng,hb⟩
 obtain ⟨wG,hwG⟩:∃ x,x=w8.alloc (.cells #[.int .i64 R.code,.int .i64 (R.at':Int),.slice sg.a1 R.M.mem.length sg.c1,.slice sg.a2 R.M.pend.length sg.c2,.slice sg.a3 R.M.tlb.length sg.c3,.slice sg.a4 R.M.wc.length sg.c4,.slice ga R.seen.length gc] 60):=⟨_,rfl⟩
 have ba:Below w8.heap.size w8 wG:=by rw [hwG]; exact bal
 have hzwG:wG.heap.size=w8.heap.size+1:=by rw [hwG]; simp
 have HQwG:Hid (wG.cell? ⟨w8.heap.size,0,none⟩=some (.int .i64 R.code)/\wG.cell? ⟨w8.heap.size,1,none⟩=some (.int .i64 (R.at':Int))/\wG.cell? ⟨w8.heap.size,2,none⟩=some (.slice sg.a1 R.M.mem.length sg.c1)/\wG.cell? ⟨w8.heap.size,3,none⟩=some (.slice sg.a2 R.M.pend.length sg.c2)/\wG.cell? ⟨w8.heap.size,4,none⟩=some (.slice sg.a3 R.M.tlb.length sg.c3)/\wG.cell? ⟨w8.heap.size,5,none⟩=some (.slice sg.a4 R.M.wc.length sg.c4)/\wG.cell? ⟨w8.heap.size,6,none⟩=some (.slice ga R.seen.length gc)):=hidOf <| by
  refine ⟨?_,?_,?_,?_,?_,?_,?_⟩ <;> (rw [hwG]; simp [go_sem])
 have HRwG:Hid (MRow wG wX.heap.size (sg.mv R.M) R.M/\ERow eSeen wG wX.heap.size (.slice ga R.seen.length gc) R.seen):=⟨hm.below ba,hsr.below ba⟩
 have HZwG:Hid (wG.heap.size=w8.heap.size+1):=hzwG
 have HWwG:Hid (wG=w8.alloc (.cells #[.int .i64 R.code,.int .i64 (R.at':Int),.slice sg.a1 R.M.mem.length sg.c1,.slice sg.a2 R.M.pend.length sg.c2,.slice sg.a3 R.M.tlb.length sg.c3,.slice sg.a4 R.M.wc.length sg.c4,.slice ga R.seen.length gc] 60)):=hwG
 have HDG:Hid (Below wX.heap.size wX wG):=hb.trans (ba.mono hb.size)
 have HAPG:Hid ((sg.mv R.M).apart/\(∀ k,oOf ga=some k->¬ (sg.mv R.M).owns k)):=⟨hap,hng⟩
 have HXG:Hid (wX.heap.size<=w8.heap.size):=hb.size
 have HOG:Hid ((∀ k,(sg.mv R.M).owns k->wX.heap.size<=k/\k < w8.heap.size)/\∀ k,oOf ga=some k->wX.heap.size<=k/\k < w8.heap.size):=⟨hm.own,hsr.ownA⟩
 have HSG:Hid (Below wS.heap.size wS wG):=HDY.out.trans ((HDX.out.trans (HDG.out.mono HDX.out.size)).mono HDY.out.size)
 have HBG:Hid (Below wb.heap.size wb wG):=HBX.out.trans (HDG.out.mono HBX.out.size)
 obtain ⟨g0,g1,g2,g3,g4,g5,g6⟩:=HQwG.out
 obtain ⟨u0,u1,u2,u3,u4,u5,u6⟩:=HQwS.out
 have hcu:∀ j,wG.cell? ⟨w5.heap.size,j,none⟩=wS.cell? ⟨w5.heap.size,j,none⟩:=fun j=>HSG.out.cell (by have:=HZwS.out; show w5.heap.size < wS.heap.size; omega)
 have u0:=(hcu 0).trans u0
 have u1:=(hcu 1).trans u1
 have u2:=(hcu 2).trans u2
 have u3:=(hcu 3).trans u3
 have u4:=(hcu 4).trans u4
 have u5:=(hcu 5).trans u5
 have u6:=(hcu 6).trans u6
 have hn5:w5.heap.size < wG.heap.size:=by have:=HSG.out.size; have:=HZwS.out; omega
 have hn8:w8.heap.size < wG.heap.size:=by have:=HZwG.out; omega
 have heq:=eqOutcome_same R sg sw ga wa gc wc _ _ wG z1 z2 HRwG.out.1 HRwG.out.2 (HRwS.out.1.below HSG.out) (HRwS.out.2.below HSG.out)
 rw [HWwG.out] at heq u0 u1 u2 u3 u4 u5 u6
 clear hm hsr hap hng hb ba hzwG hwG hcu a0 a1 a2 a3
 go_wp2_with fail
 refine heq.mono ?_
 rintro e w9 ⟨rfl,hb9'⟩
 have hb9:Below wG.heap.size wG w9:=by rw [HWwG.out]; exact hb9'
 have HD9:Hid (Below wG.heap.size wG w9):=hb9
 have HX9:Hid (Below wX.heap.size wX w9):=HDG.out.trans (hb9.mono HDG.out.size)
 have HB9:Hid (Below wb.heap.size wb w9):=HBG.out.trans (hb9.mono HBG.out.size)
 have HKP:Hid (∀ wZ,Below w9.heap.size w9 wZ->(wZ.cell? ⟨w6.heap.size,0,none⟩=some (.slice sx.a1 M.mem.length sx.c1)/\wZ.cell? ⟨w6.heap.size,1,none⟩=some (.slice sx.a2 M.pend.length sx.c2)/\wZ.cell? ⟨w6.heap.size,2,none⟩=some (.slice sx.a3 M.tlb.length sx.c3)/\wZ.cell? ⟨w6.heap.size,3,none⟩=some (.slice sx.a4 M.wc.length sx.c4))/\(wZ.cell? ⟨w.heap.size,0,none⟩=some (.slice s.a1 M.mem.length s.c1)/\wZ.cell? ⟨w.heap.size,1,none⟩=some (.slice s.a2 M.pend.length s.c2)/\wZ.cell? ⟨w.heap.size,2,none⟩=some (.slice s.a3 M.tlb.length s.c3)/\wZ.cell? ⟨w.heap.size,3,none⟩=some (.slice s.a4 M.wc.length s.c4))):=fun wZ hZ=>by
  have hX:=HX9.out.trans (hZ.mono HX9.out.size)
  have hbY:∀ j,wZ.cell? ⟨w6.heap.size,j,none⟩=wY.cell? ⟨w6.heap.size,j,none⟩:=fun j=>(HDX.out.trans (hX.mono HDX.out.size)).cell (by have:=HZY.out; show w6.heap.size < wY.heap.size; omega)
  obtain ⟨a0,a1,a2,a3⟩:=HQY.out
  exact ⟨⟨(hbY 0).trans a0,(hbY 1).trans a1,(hbY 2).trans a2,(hbY 3).trans a3⟩,(HBOX.out wZ (HB9.out.trans (hZ.mono HB9.out.size))).1⟩
 have HMX9:Hid (∀ wZ,Below w9.heap.size w9 wZ->MRow wZ wS.heap.size (sx.mv M) M):=fun wZ hZ=>HMX.out.below (HX9.out.trans (hZ.mono HX9.out.size))
 obtain ⟨⟨a0,a1,a2,a3⟩,p0,p1,p2,p3⟩:=HKP.out w9 br
 have hn6:w6.heap.size < w9.heap.size:=by have:=HX9.out.size; omega
 have hn9:w.heap.size < w9.heap.size:=(HBOX.out w9 HB9.out).2
 clear heq hb9' hb9 g0 g1 g2 g3 g4 g5 g6 u0 u1 u2 u3 u4 u5 u6
 go_wp2_with fail
 go_region_held3 (fun w'=>(w'.cell? ⟨w6.heap.size,0,none⟩=some (.slice sx.a1 M.mem.length sx.c1)/\w'.cell? ⟨w6.heap.size,1,none⟩=some (.slice sx.a2 M.pend.length sx.c2)/\w'.cell? ⟨w6.heap.size,2,none⟩=some (.slice sx.a3 M.tlb.length sx.c3)/\w'.cell? ⟨w6.heap.size,3,none⟩=some (.slice sx.a4 M.wc.length sx.c4))/\(w'.cell? ⟨w.heap.size,0,none⟩=some (.slice s.a1 M.mem.length s.c1)/\w'.cell? ⟨w.heap.size,1,none⟩=some (.slice s.a2 M.pend.length s.c2)/\w'.cell? ⟨w.heap.size,2,none⟩=some (.slice s.a3 M.tlb.length s.c3)/\w'.cell? ⟨w.heap.size,3,none⟩=some (.slice s.a4 M.wc.length s.c4)))
  ((refine HKP.out _ ?_; repeat (first | exact Below.refl _ _ | with_reducible refine Below.drew ?_ | refine Below.trans ?_ (hb11.mono (by first | omega | (simp <;> omega))) | refine Below.trans ?_ (hb10.mono (by first | omega | (simp <;> omega))))))
  (first
   | (go_at_call 8; refine (HTO.out _ (by first | exact HB9.out | exact HB9.out.drew)).mono ?_; rintro e w10 ⟨sy,rfl,hry,_,hb10⟩; have s10:=hb10.size; simp at s10)
   | (go_at_call 10; refine (eqMachine_same (sx.mv M) (sy.mv M) M _ _ _ hsm (HMX9.out _ (br.drew.trans (hb10.mono (by simp)))) hry).mono ?_; rintro e w11 ⟨rfl,hb11⟩))
 have b911:Below w9.heap.size w9 w11:=br.drew.trans ((hb10.mono (by simp)).trans (hb11.mono (by omega)))
 have HD11:Hid (Below w9.heap.size w9 w11):=b911
 have HB11:Hid (Below wb.heap.size wb w11):=HB9.out.trans (b911.mono HB9.out.size)
 clear hb10 hb11 b911 hry s10 a0 a1 a2 a3 p0 p1 p2 p3
 go_wp2_with fail
 refine (HTP.out w11 HB11.out).mono ?_
 rintro e w12 ⟨rfl,ho,hb⟩
 have HB12:Hid (Below wb.heap.size wb w12):=HB11.out.trans (hb.mono HB11.out.size)
 have HD12:Hid (Below w9.heap.size w9 w12):=HD11.out.trans (hb.mono HD11.out.size)
 have heo:=eqOpS_same _ _ _ _ ops w12 (by omega) (HO7X.out.below (HX9.out.trans (HD12.out.mono HX9.out.size))) ho
 clear ho hb
 go_wp2_with fail
 refine heo.mono ?_
 rintro e w13 ⟨rfl,hb⟩
 have HB13:Hid (Below wb.heap.size wb w13):=HB12.out.trans (hb.mono HB12.out.size)
 have HD13:Hid (Below w9.heap.size w9 w13):=HD12.out.trans (hb.mono HD12.out.size)
 clear heo hb
 go_wp2_with fail
 refine (HTE.out w13 HB13.out).mono ?_
 rintro e w14 ⟨rfl,ho,hb⟩
 have HB14:Hid (Below wb.heap.size wb w14):=HB13.out.trans (hb.mono HB13.out.size)
 have HD14:Hid (Below w9.heap.size w9 w14):=HD13.out.trans (hb.mono HD13.out.size)
 have hee:=eqEventS_same _ _ _ _ evs w14 (by omega) (HE7.out.below (HX9.out.trans (HD14.out.mono HX9.out.size))) ho
 clear ho hb
 go_wp2_with fail
 refine hee.mono ?_
 rintro e w15 ⟨rfl,hb⟩
 have b15:Below w9.heap.size w9 w15:=HD14.out.trans (hb.mono HD14.out.size)
 have HX15:Hid (Below wX.heap.size wX w15):=HX9.out.trans (b15.mono HX9.out.size)
 have HG15:Hid (Below wG.heap.size wG w15):=HD9.out.trans (b15.mono HD9.out.size)
 have HB15:Hid (Below wb.heap.size wb w15):=HB9.out.trans (b15.mono HB9.out.size)
 obtain ⟨⟨a0,a1,a2,a3⟩,p0,p1,p2,p3⟩:=HKP.out w15 b15
 have hn6:w6.heap.size < w15.heap.size:=by have:=HX15.out.size; omega
 have hmk:=markMachine_any (sx.mv M) M _ w15 hsm (HMX9.out w15 b15) HRY.out.2.1
 clear hee hb b15
 go_wp2_with fail
 refine hmk.mono ?_
 rintro e w16 ⟨rfl,_,ht16⟩
 have HT16:Hid (Touch (fun k=>wS.heap.size<=k/\k < wX.heap.size/\k ≠ w6.heap.size) w15 w16):=⟨ht16.os,ht16.tape,ht16.output,ht16.size,fun k hk hn=>ht16.block k hk (fun hh=>hn (by have:=HRY.out.2.2 k hh; have:=HZY.out; have:=HZX.out; omega))⟩
 have ho16:ERow eOp w16 wY.heap.size (.slice (some ⟨wY.heap.size,0,none⟩) ops.length ops.length) ops:=(HO7X.out.below HX15.out).touch ht16 (fun k hk hh=>by
  have e:wY.heap.size=k:=by simpa [Value.ownBlock] using hk
  have:=HRY.out.2.2 k hh; have:=HZY.out; omega)
 have he16:ERow eEvent w16 w7.heap.size (.slice (some ⟨w7.heap.size,0,none⟩) evs.length evs.length) evs:=(HE7.out.below HX15.out).touch ht16 (fun k hk hh=>by
  have e:w7.heap.size=k:=by simpa [Value.ownBlock] using hk
  have:=HRY.out.2.2 k hh; have:=HZY.out; have:=HZX.out; omega)
 have hmo:=markOpS_any _ _ ops (1+(M.mem.length:Int)+M.pend.length * 2+M.tlb.length * 5+M.wc.length * 4) w16 (by omega) (by omega) (by omega) ho16
 have HE16:Hid (ERow eEvent w16 w7.heap.size (.slice (some ⟨w7.heap.size,0,none⟩) evs.length evs.length) evs):=he16
 clear hmk ht16 ho16 he16 a0 a1 a2 a3 p0 p1 p2 p3
 go_wp2_with fail
 refine hmo.mono ?_
 rintro e w17 ⟨rfl,_,hg17⟩
 have ht17:Touch (fun k=>k=wY.heap.size) w16 w17:=Touch.of_grown hg17 (fun k hk=>(show wY.heap.size=k by simpa [Value.ownBlock] using hk).symm)
 have he17:ERow eEvent w17 w7.heap.size (.slice (some ⟨w7.heap.size,0,none⟩) evs.length evs.length) evs:=HE16.out.touch ht17 (fun k hk hh=>by
  have e:w7.heap.size=k:=by simpa [Value.ownBlock] using hk
  have:=HZX.out; omega)
 have hme:=markEventS_any _ _ evs ((1+(M.mem.length:Int)+M.pend.length * 2+M.tlb.length * 5+M.wc.length * 4)+ops.length * 4) w17 (by omega) (by omega) (by omega) he17
 have HT17:Hid (Touch (fun k=>wS.heap.size<=k/\k < wX.heap.size/\k ≠ w6.heap.size) w15 w17):=HT16.out.then ht17 (fun k _ e=>by have:=HZY.out; have:=HZX.out; omega)
 clear hmo hg17 ht17 he17
 go_wp2_with fail
 refine hme.mono ?_
 rintro e w18 ⟨rfl,_,hg18⟩
 have ht18:Touch (fun k=>k=w7.heap.size) w17 w18:=Touch.of_grown hg18 (fun k hk=>(show w7.heap.size=k by simpa [Value.ownBlock] using hk).symm)
 have hT18:Touch (fun k=>wS.heap.size<=k/\k < wX.heap.size/\k ≠ w6.heap.size) w15 w18:=HT17.out.then ht18 (fun k _ e=>by have:=HZY.out; have:=HZX.out; omega)
 have hb18:Below wb.heap.size wb w18:=Touch.below HB15.out hT18 HB15.out.size (fun k hk=>by have:=HBS.out.size; omega)
 have hS18:Below wS.heap.size wS w18:=Touch.below (HSG.out.trans (HG15.out.mono HSG.out.size)) hT18 (by have:=HSG.out.size; have:=HG15.out.size; omega) (fun k hk=>hk.1)
 have hK18:∀ k,wX.heap.size<=k->k < wG.heap.size->w18.heap[k]?=wG.heap[k]?:=fun k h1 h2=>(hT18.block k (by have:=HG15.out.size; omega) (by omega)).trans (HG15.out.block k h2)
 have hsz18:wG.heap.size<=w18.heap.size:=by have:=HG15.out.size; have:=hT18.size; omega
 have hrG18:MRow w18 wX.heap.size (sg.mv R.M) R.M:=(HRwG.out.1.below HG15.out).touch hT18 (fun k hk hh=>by have:=HOG.out.1 k hk; omega)
 have hsG18:ERow eSeen w18 wX.heap.size (.slice ga R.seen.length gc) R.seen:=(HRwG.out.2.below HG15.out).touchA hT18 (fun k hk hh=>by have:=HOG.out.2 k hk; omega)
 obtain ⟨g0,g1,g2,g3,g4,g5,g6⟩:=HQwG.out
 have hcg:∀ j,w18.cell? ⟨w8.heap.size,j,none⟩=wG.cell? ⟨w8.heap.size,j,none⟩:=fun j=>cob (hK18 w8.heap.size HXG.out (by have:=HZwG.out; omega))
 have g0:=(hcg 0).trans g0
 have g1:=(hcg 1).trans g1
 have g2:=(hcg 2).trans g2
 have g3:=(hcg 3).trans g3
 have g4:=(hcg 4).trans g4
 have g5:=(hcg 5).trans g5
 have g6:=(hcg 6).trans g6
 obtain ⟨u0,u1,u2,u3,u4,u5,u6⟩:=HQwS.out
 have hcu:∀ j,w18.cell? ⟨w5.heap.size,j,none⟩=wS.cell? ⟨w5.heap.size,j,none⟩:=fun j=>hS18.cell (by have:=HZwS.out; show w5.heap.size < wS.heap.size; omega)
 have u0:=(hcu 0).trans u0
 have u1:=(hcu 1).trans u1
 have u2:=(hcu 2).trans u2
 have u3:=(hcu 3).trans u3
 have u4:=(hcu 4).trans u4
 have u5:=(hcu 5).trans u5
 have u6:=(hcu 6).trans u6
 have hn5:w5.heap.size < w18.heap.size:=by omega
 have hn8:w8.heap.size < w18.heap.size:=by omega
 have heq:=eqOutcome_same R sg sw ga wa gc wc _ _ w18 z1 z2 hrG18 hsG18 (HRwS.out.1.below hS18) (HRwS.out.2.below hS18)
 have dk:decide ((1+(M.mem.length:Int)+M.pend.length * 2+M.tlb.length * 5+M.wc.length * 4)+ops.length * 4+evs.length * 4 < 0)=false:=by simp; omega
 have HB18:Hid (Below wb.heap.size wb w18):=hb18
 have HS18:Hid (Below wS.heap.size wS w18):=hS18
 have HRG18:Hid (MRow w18 wX.heap.size (sg.mv R.M) R.M/\ERow eSeen w18 wX.heap.size (.slice ga R.seen.length gc) R.seen):=⟨hrG18,hsG18⟩
 clear hme hg18 ht18 hT18 hb18 hS18 hK18 hrG18 hsG18 hcg hcu
 go_wp2_with fail
 refine heq.mono ?_
 rintro e w19 ⟨rfl,hb19⟩
 have g0:=(hb19.cell (p:=⟨w8.heap.size,0,none⟩) hn8).trans g0
 have g1:=(hb19.cell (p:=⟨w8.heap.size,1,none⟩) hn8).trans g1
 have g2:=(hb19.cell (p:=⟨w8.heap.size,2,none⟩) hn8).trans g2
 have g3:=(hb19.cell (p:=⟨w8.heap.size,3,none⟩) hn8).trans g3
 have g4:=(hb19.cell (p:=⟨w8.heap.size,4,none⟩) hn8).trans g4
 have g5:=(hb19.cell (p:=⟨w8.heap.size,5,none⟩) hn8).trans g5
 have g6:=(hb19.cell (p:=⟨w8.heap.size,6,none⟩) hn8).trans g6
 have hn8:w8.heap.size < w19.heap.size:=Nat.lt_of_lt_of_le hn8 hb19.size
 have hmo:=markOutcome_any R sg ga gc _ w19 z1 z2 (HRG18.out.1.below hb19) (HRG18.out.2.below hb19) HAPG.out.1 HAPG.out.2
 have HB19:Hid (Below wb.heap.size wb w19):=HB18.out.trans (hb19.mono HB18.out.size)
 have HS19:Hid (Below wS.heap.size wS w19):=HS18.out.trans (hb19.mono HS18.out.size)
 clear heq hb19 u0 u1 u2 u3 u4 u5 u6
 go_wp2_with fail
 refine hmo.mono ?_
 rintro e w20 ⟨rfl,hm20,hs20,ht20⟩
 have hk20:w20.heap[w8.heap.size]?=w19.heap[w8.heap.size]?:=ht20.block _ hn8 (fun hh=>hh.elim (fun hh=>by have:=HOG.out.1 _ hh; omega) (fun hh=>by have:=HOG.out.2 _ hh; omega))
 have g0:=(cob (a:=⟨w8.heap.size,0,none⟩) hk20).trans g0
 have g1:=(cob (a:=⟨w8.heap.size,1,none⟩) hk20).trans g1
 have g2:=(cob (a:=⟨w8.heap.size,2,none⟩) hk20).trans g2
 have g3:=(cob (a:=⟨w8.heap.size,3,none⟩) hk20).trans g3
 have g4:=(cob (a:=⟨w8.heap.size,4,none⟩) hk20).trans g4
 have g5:=(cob (a:=⟨w8.heap.size,5,none⟩) hk20).trans g5
 have g6:=(cob (a:=⟨w8.heap.size,6,none⟩) hk20).trans g6
 have hn8:w8.heap.size < w20.heap.size:=Nat.lt_of_lt_of_le hn8 ht20.size
 have hhe:=heldOutcome_any R sg ga gc w20 z1 z2 hm20 hs20
 have hlow:∀ k,((sg.mv R.M).owns k\/oOf ga=some k)->wX.heap.size<=k:=fun k hh=>hh.elim (fun hh=>(HOG.out.1 k hh).1) (fun hh=>(HOG.out.2 k hh).1)
 have HB20:Hid (Below wb.heap.size wb w20):=Touch.below HB19.out ht20 HB19.out.size (fun k hk=>by have:=hlow k hk; have:=HBX.out.size; omega)
 have HS20:Hid (Below wS.heap.size wS w20):=Touch.below HS19.out ht20 HS19.out.size (fun k hk=>by have:=hlow k hk; have:=HZX.out; have:=HZY.out; omega)
 clear hmo hm20 hs20 ht20 hk20 hlow
 go_wp2_with fail
 refine hhe.mono ?_
 rintro e w21 ⟨rfl,hb21⟩
 have HB21:Hid (Below wb.heap.size wb w21):=HB20.out.trans (hb21.mono HB20.out.size)
 have HS21:Hid (Below wS.heap.size wS w21):=HS20.out.trans (hb21.mono HS20.out.size)
 have dq:decide ((1+(R.M.mem.length:Int)+R.M.pend.length * 2+R.M.tlb.length * 5+R.M.wc.length * 4)+R.seen.length * 4 < 0)=false:=by simp; omega
 obtain ⟨⟨p0,p1,p2,p3⟩,N0⟩:=HBOX.out w21 HB21.out
 clear hhe hb21 g0 g1 g2 g3 g4 g5 g6
 go_wp2_with fail
 refine (HTO.out w21 HB21.out).mono ?_
 rintro e aH ⟨sH,rfl,hm,_,hb⟩
 have HBaH:Hid (Below wb.heap.size wb aH):=HB21.out.trans (hb.mono HB21.out.size)
 have HMaH:Hid (MRow aH wb.heap.size (sH.mv M) M/\w21.heap.size<=aH.heap.size):=⟨hm.rebase HB21.out.size,hb.size⟩
 have HDaH:Hid (Below w21.heap.size w21 aH):=hb
 clear hm hb
 go_wp2_with fail
 refine (HTP.out aH HBaH.out).mono ?_
 rintro e bH ⟨rfl,ho,hb⟩
 have HBbH:Hid (Below wb.heap.size wb bH):=HBaH.out.trans (hb.mono HBaH.out.size)
 have HMbH:Hid (MRow bH wb.heap.size (sH.mv M) M/\ERow eOp bH aH.heap.size (.slice (some ⟨aH.heap.size,0,none⟩) ops.length ops.length) ops):=⟨HMaH.out.1.below hb,ho⟩
 have HDbH:Hid (Below w21.heap.size w21 bH):=HDaH.out.trans (hb.mono HDaH.out.size)
 clear ho hb
 go_wp2_with fail
 refine (HTE.out bH HBbH.out).mono ?_
 rintro e cH ⟨rfl,hv,hb⟩
 have HBcH:Hid (Below wb.heap.size wb cH):=HBbH.out.trans (hb.mono HBbH.out.size)
 have HDcH:Hid (Below w21.heap.size w21 cH):=HDbH.out.trans (hb.mono HDbH.out.size)
 have HMcH:Hid (MRow cH wb.heap.size (sH.mv M) M/\ERow eOp cH aH.heap.size (.slice (some ⟨aH.heap.size,0,none⟩) ops.length ops.length) ops/\ERow eEvent cH bH.heap.size (.slice (some ⟨bH.heap.size,0,none⟩) evs.length evs.length) evs):=⟨HMbH.out.1.below hb,HMbH.out.2.below hb,hv⟩
 clear hv hb
 go_wp2_with fail
 refine (HI.out sH _ _ _ _ _ _ _ cH HMcH.out.1 HMcH.out.2.1 HMcH.out.2.2).mono ?_
 rintro e w25 ⟨sz,za,zc,rfl,hm,hsr,_,_,hb⟩
 obtain ⟨wH,hwH⟩:∃ x,x=w25.alloc (.cells #[.int .i64 R.code,.int .i64 (R.at':Int),.slice sz.a1 R.M.mem.length sz.c1,.slice sz.a2 R.M.pend.length sz.c2,.slice sz.a3 R.M.tlb.length sz.c3,.slice sz.a4 R.M.wc.length sz.c4,.slice za R.seen.length zc] 60):=⟨_,rfl⟩
 have ba:Below w25.heap.size w25 wH:=by rw [hwH]; exact bal
 have hzwH:wH.heap.size=w25.heap.size+1:=by rw [hwH]; simp
 have HQwH:Hid (wH.cell? ⟨w25.heap.size,0,none⟩=some (.int .i64 R.code)/\wH.cell? ⟨w25.heap.size,1,none⟩=some (.int .i64 (R.at':Int))/\wH.cell? ⟨w25.heap.size,2,none⟩=some (.slice sz.a1 R.M.mem.length sz.c1)/\wH.cell? ⟨w25.heap.size,3,none⟩=some (.slice sz.a2 R.M.pend.length sz.c2)/\wH.cell? ⟨w25.heap.size,4,none⟩=some (.slice sz.a3 R.M.tlb.length sz.c3)/\wH.cell? ⟨w25.heap.size,5,none⟩=some (.slice sz.a4 R.M.wc.length sz.c4)/\wH.cell? ⟨w25.heap.size,6,none⟩=some (.slice za R.seen.length zc)):=hidOf <| by
  refine ⟨?_,?_,?_,?_,?_,?_,?_⟩ <;> (rw [hwH]; simp [go_sem])
 have HRwH:Hid (MRow wH cH.heap.size (sz.mv R.M) R.M/\ERow eSeen wH cH.heap.size (.slice za R.seen.length zc) R.seen):=⟨hm.below ba,hsr.below ba⟩
 have HZwH:Hid (wH.heap.size=w25.heap.size+1):=hzwH
 have HWwH:Hid (wH=w25.alloc (.cells #[.int .i64 R.code,.int .i64 (R.at':Int),.slice sz.a1 R.M.mem.length sz.c1,.slice sz.a2 R.M.pend.length sz.c2,.slice sz.a3 R.M.tlb.length sz.c3,.slice sz.a4 R.M.wc.length sz.c4,.slice za R.seen.length zc] 60)):=hwH
 have hSH:Below wS.heap.size wS wH:=HS21.out.trans ((HDcH.out.trans ((hb.trans (ba.mono hb.size)).mono HDcH.out.size)).mono HS21.out.size)
 have HBH:Hid (Below wb.heap.size wb wH):=HBcH.out.trans ((hb.trans (ba.mono hb.size)).mono HBcH.out.size)
 obtain ⟨v0,v1,v2,v3,v4,v5,v6⟩:=HQwH.out
 obtain ⟨u0,u1,u2,u3,u4,u5,u6⟩:=HQwS.out
 have hcu:∀ j,wH.cell? ⟨w5.heap.size,j,none⟩=wS.cell? ⟨w5.heap.size,j,none⟩:=fun j=>hSH.cell (by have:=HZwS.out; show w5.heap.size < wS.heap.size; omega)
 have u0:=(hcu 0).trans u0
 have u1:=(hcu 1).trans u1
 have u2:=(hcu 2).trans u2
 have u3:=(hcu 3).trans u3
 have u4:=(hcu 4).trans u4
 have u5:=(hcu 5).trans u5
 have u6:=(hcu 6).trans u6
 have hn5:w5.heap.size < w25.heap.size:=by have:=HS21.out.size; have:=HZwS.out; have:=HDcH.out.size; have:=hb.size; omega
 have heq:=eqOutcome_same R sz sw za wa zc wc _ _ wH z1 z2 HRwH.out.1 HRwH.out.2 (HRwS.out.1.below hSH) (HRwS.out.2.below hSH)
 rw [HWwH.out] at heq u0 u1 u2 u3 u4 u5 u6
 clear hm hsr hb ba hzwH hwH hcu hSH v0 v1 v2 v3 v4 v5 v6
 go_wp2_with fail
 refine heq.mono ?_
 rintro e wF ⟨rfl,hbF'⟩
 have hbF:Below wH.heap.size wH wF:=by rw [HWwH.out]; exact hbF'
 have HBF:Hid (Below w.heap.size w wF):=HB0.out.trans ((HBH.out.trans (hbF.mono HBH.out.size)).mono (by have:=HZB.out; omega))
 clear hbF' hbF heq
 go_wp2_with fail
 go_ret
 exact ⟨rfl,HBF.out⟩
theorem opAt_ok {ops:List OpE} (h:∀ i,i < ops.length->OpOk (eAt eOp ops i)) (i:Nat):OpOk (opAt ops i):=by
 by_cases hi:i < ops.length
 ·exact h i hi
 ·have e:opAt ops i=⟨0,0,0,0⟩:=by
   unfold opAt eAt
   rw [List.getD_eq_getElem?_getD,List.getElem?_eq_none (by omega)]
   rfl
  rw [e]
  exact ⟨⟨by decide,by decide⟩,⟨by decide,by decide⟩,⟨by decide,by decide⟩,⟨by decide,by decide⟩⟩
theorem execR_small {M:Mach} (hk:MOk M) {ops:List OpE} (ho:∀ i,OpOk (opAt ops i)) (evs:List EventE):(execR M ops evs).M.Small/\(execR M ops evs).seen.length<=1048576:=by
 unfold execR
 cases hx:execOk M ops evs
 ·exact ⟨zM_small,by simp⟩
 ·unfold execOk at hx
  simp only [Bool.and_eq_true,decide_eq_true_eq,List.all_eq_true] at hx
  obtain ⟨⟨⟨hv,h1⟩,h2⟩,h3⟩:=hx
  have he:∀ i,i < evs.length->evOk (eAt eEvent evs i)=true:=fun i hi=>h3 i (List.mem_range.2 hi)
  have hb:XOk ops (begX M):=⟨VM.of hk hv,by simp [begX],by simp [begX]⟩
  refine ⟨(restX_ok ho (playX_ok ho he hb _ (Nat.le_refl _)) _).vm.small,?_⟩
  show (endX M ops evs).seen.length<=1048576
  unfold endX
  rw [restX_seen]
  have:=playX_seen ops evs (begX M) evs.length
  simp [begX] at this ⊢
  omega
theorem exec_law (s:SV) (M:Mach) (oa ea:Option Addr) (oc ec:Nat) (ops:List OpE) (evs:List EventE) (w:World) (hk:MOk M) (ho:∀ i,OpOk (opAt ops i)) (h5:ops.length<=9223372036854775807) (h6:evs.length<=9223372036854775807) (hsrc:MSrc w (s.mv M) M) (hvo:ESrc eOp w (.slice oa ops.length oc) ops) (hve:ESrc eEvent w (.slice ea evs.length ec) evs) :
  Calls Tryz.prog 5 #[.agg #[.slice s.a1 M.mem.length s.c1,.slice s.a2 M.pend.length s.c2,.slice s.a3 M.tlb.length s.c3,.slice s.a4 M.wc.length s.c4],.slice oa ops.length oc,.slice ea evs.length ec] w fun e w'=>e=.returned (.bool true)/\Below w.heap.size w w':=by
 by_cases hb:M.mem.length+M.pend.length+M.tlb.length+M.wc.length+ops.length+evs.length<=1048576
 ·have hs:M.Small:=⟨by omega,by omega,by omega,by omega⟩
  have hr:=execR_small hk ho evs
  exact fnexactexec_walk s M (execR M ops evs) oa ea oc ec ops evs w hs hr.1 hr.2 hb hsrc hvo hve
   (fun s b bo be oa ea oc ec w h1 h2 h3=>specExec_gen s M b bo be oa ea oc ec ops evs w _ rfl hk hs (by omega) (by omega) ho h1 h2 h3)
   (fun s b bo be oa ea oc ec w h1 h2 h3=>implExec_gen s M b bo be oa ea oc ec ops evs w _ rfl hk hs (by omega) (by omega) ho h1 h2 h3)
 ·exact fnexactexec_big s M oa ea oc ec ops evs w hk.w hk.p hk.t hk.c h5 h6 hb
theorem exec_own:ownKnob Tryz.prog.godebug=none:=by kernel_rfl
set_option maxRecDepth 100000 in
theorem exec_lifted (os:Os) (started:os.Started) (H:Type) (enc:TypeId × Value->H) :
  ReturnsInHanded {} Tryz.checked os 5 .any (Rows.fnExactExecSpec.pre6 enc Tryz.prog Tryz.f5 Rows.fnExactExecRow.domain false) (Rows.fnExactExecSpec.post enc Tryz.prog Tryz.f5 false true false false):=by
 refine returnsInHanded_of_change (C:=Tryz.checked) exec_own started (by kernel_rfl) Tryz.func5
  (ChangeSpec.witness6 (enc:=enc) (C:=Tryz.checked) false ⟨#[],#[.agg #[.slice none 0 0,.slice none 0 0,.slice none 0 0,.slice none 0 0],.slice none 0 0,.slice none 0 0],[]⟩ 8 (by kernel_rfl) (by kernel_rfl) (by kernel_rfl) (by kernel_rfl)) ?_
 intro W base args ds gs before hval0 hW hcnd _
 have hval:∀ (j:Nat) t v,Tryz.f5.params[j]?=some t->args[j]?=some v->Value.okWide Tryz.prog W .any base t v:=hval0
 have hW':=hW
 obtain ⟨p,q,hA0,hV,rfl,hfz,hnd⟩:=hW
 have hA:DataW.TrodAll enc Tryz.prog W 0 (fun _=>true) true Tryz.f5.params.toList args.toList ds p:=hA0
 rw [Tryz.params5] at hA hval
 obtain ⟨v0,vs0,d0,ds0,p0,q0,hargs,rfl,rfl,h0,r0⟩:=trodAll_cons hA
 obtain ⟨v1,vs1,d1,ds1,p1,q1,rfl,rfl,rfl,h1,r1⟩:=trodAll_cons r0
 obtain ⟨v2,vs2,d2,ds2,p2,q2,rfl,rfl,rfl,h2,r2⟩:=trodAll_cons r1
 obtain ⟨rfl,rfl,rfl⟩:=trodAll_nil r2
 obtain rfl:args=#[v0,v1,v2]:=by cases args; simp_all
 obtain ⟨rfl,rfl⟩:=trodVars_none hV
 have k0:=h0
 have lt0:∀ x ∈ p0,x.block < W.heap.size:=by obtain ⟨m,hm⟩:=k0; exact DataW.trod_lt m _ _ _ hm
 have k1:=h1
 have lt1:∀ x ∈ p1,x.block < W.heap.size:=by obtain ⟨m,hm⟩:=k1; exact DataW.trod_lt m _ _ _ hm
 have k2:=h2
 have lt2:∀ x ∈ p2,x.block < W.heap.size:=by obtain ⟨m,hm⟩:=k2; exact DataW.trod_lt m _ _ _ hm
 obtain ⟨a1,l1,c1,rfl⟩:=okWide_slice Tryz.underlying54 (hval 1 54 v1 rfl rfl)
 obtain ⟨m1,hm1⟩:=h1
 have hn1:DataW.trod enc Tryz.prog W 0 (fun _=>true) true m1 54 [.slice a1 l1 c1]=some (d1,p1):=hm1
 obtain ⟨ops,hsrc1,hle1,hq1⟩:=esrc_open eOp OpOk Tryz.underlying54 cellsOpL elOp hn1
 obtain ⟨a1',cap1,hsl1,hrest1⟩:=hsrc1
 simp only [Value.slice.injEq] at hsl1
 obtain ⟨rfl,rfl,rfl⟩:=hsl1
 obtain ⟨a2,l2,c2,rfl⟩:=okWide_slice Tryz.underlying55 (hval 2 55 v2 rfl rfl)
 obtain ⟨m2,hm2⟩:=h2
 have hn2:DataW.trod enc Tryz.prog W 0 (fun _=>true) true m2 55 [.slice a2 l2 c2]=some (d2,p2):=hm2
 obtain ⟨evs,hsrc2,hle2,hq2⟩:=esrc_open eEvent EvRng Tryz.underlying55 cellsEventL elEvent hn2
 obtain ⟨a2',cap2,hsl2,hrest2⟩:=hsrc2
 simp only [Value.slice.injEq] at hsl2
 obtain ⟨rfl,rfl,rfl⟩:=hsl2
 obtain ⟨s,M,rfl,hok,hsrc⟩:=mach_open (hval 0 29 v0 rfl rfl) h0
 clear hA0 hval0
 refine (exec_law s M _ _ _ _ ops evs W hok (opAt_ok hq1) hle1 hle2 hsrc ⟨_,_,rfl,hrest1⟩ ⟨_,_,rfl,hrest2⟩).mono fun e W' ⟨he,bel⟩=>?_
 subst he
 exact ⟨_,rfl,_,_,_,[],_,[],hW',trodAll_mk1 (shut_bool Tryz.underlying4 _),(trodAll_cons_mk (Below.trod mach_laidOut (by kernel_rfl) (of_decide_eq_true (by kernel_rfl)) k0 bel lt0) (trodAll_cons_mk (Below.trod mach_laidOut (by kernel_rfl) (of_decide_eq_true (by kernel_rfl)) k1 bel lt1) (trodAll_cons_mk (Below.trod mach_laidOut (by kernel_rfl) (of_decide_eq_true (by kernel_rfl)) k2 bel lt2) trodAll_mk0))),rfl,bel.frame _,fun h=>by cases h⟩
theorem exec_proved:Rows.FnExactExecSaid :=
 OpenClaim.holds_of_wide 5 Tryz.f5 rfl rfl rfl rfl rfl rfl rfl ⟨rfl,rfl,rfl,rfl,rfl⟩ rfl rfl rfl rfl rfl (by kernel_rfl) Tryz.func5 (by kernel_rfl)
  (of_decide_eq_true (by kernel_rfl)) (by unfold Func.isWrapper; first | (rw [if_pos (by decide +kernel)]; kernel_rfl) | (rw [if_neg (by decide +kernel)]; exact ⟨rfl,rfl⟩))
  (fun os started H enc _=>exec_lifted os started H enc)
#print axioms exec_proved
end Go.Proofs.YtiiejckfcnmhoabGreat
