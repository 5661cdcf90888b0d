import Derived.Test.YtnmhkgmmpkjjeacGreatG09
import Derived.Test.YtnmhkgmmpkjjeacGreatG05
import Derived.Deep.DeepCutAuto
namespace Go.Proofs.YtnmhkgmmpkjjeacGreat
open Go.ChangeShapes Go.WideShapes Go.ChangeAt Go.RowKit
set_option linter.unusedVariables false
attribute [local go_sem ↓] Go.wp_at_zero Go.wp_at_succ
theorem bcellS {W w1:World} (hb:Below W.heap.size W w1):(∀ b o,b < W.heap.size->w1.cell? ⟨b,o,none⟩=W.cell? ⟨b,o,none⟩)/\(∀ b o,b < W.heap.size->w1.frozen? ⟨b,o,none⟩=W.frozen? ⟨b,o,none⟩) :=
 ⟨fun b o h=>hb.cell (p:=⟨b,o,none⟩) h,fun b o h=>hb.frozen (p:=⟨b,o,none⟩) h⟩
theorem hitClo_any (ba bx g cap:Nat) (n k:Nat) (page P C O R:Int) (G:Bool) (w:World) (hk:k < n) (hn:n<=1048576) (hok:spanOk ⟨P,C,O,R,G⟩=true)
  (HK:Hid (∀ wX,Below w.heap.size w wX->(wX.cell? ⟨ba,0,none⟩=some (.slice (some ⟨g,0,none⟩) n cap)/\wX.cell? ⟨bx,0,none⟩=some (.int .i64 page))/\(wX.cell? ⟨g,k * 5,none⟩=some (.int .i64 P)/\wX.cell? ⟨g,k * 5+1,none⟩=some (.int .i64 C)/\wX.cell? ⟨g,k * 5+2,none⟩=some (.int .i64 O)/\wX.cell? ⟨g,k * 5+3,none⟩=some (.int .i64 R)/\wX.cell? ⟨g,k * 5+4,none⟩=some (.bool G)))) :
  Calls Tryz.prog 89 #[.int .i64 k,.pointer (some ⟨ba,0,none⟩),.pointer (some ⟨bx,0,none⟩)] w fun e w'=>e=.returned (.bool (decide (page < P+C)))/\Below w.heap.size w w':=by
 have hk7:=spanOk_iff.1 hok
 dsimp only at hk7
 obtain ⟨t1,t2,t3,_⟩:=hk7
 have hse:=spanEnd_any P C O R G (by omega) (by omega) (by omega) (by omega)
 have L1:(0:Int)<=(k:Int):=by omega
 have L2:(k:Int) < (n:Int):=by omega
 clear hok
 go_enter Tryz.func89,Tryz.ntmps89
 go_wp2_with fail
 go_region_held3 (fun wX=>(wX.cell? ⟨ba,0,none⟩=some (.slice (some ⟨g,0,none⟩) n cap)/\wX.cell? ⟨bx,0,none⟩=some (.int .i64 page))/\(wX.cell? ⟨g,k * 5,none⟩=some (.int .i64 P)/\wX.cell? ⟨g,k * 5+1,none⟩=some (.int .i64 C)/\wX.cell? ⟨g,k * 5+2,none⟩=some (.int .i64 O)/\wX.cell? ⟨g,k * 5+3,none⟩=some (.int .i64 R)/\wX.cell? ⟨g,k * 5+4,none⟩=some (.bool G)))
  ((refine HK.out _ ?_; repeat (first | exact Below.refl _ _ | with_reducible refine Below.drew ?_ | refine Below.trans ?_ (hb1.mono (by first | omega | (simp <;> omega))))))
  (first | (go_at_call 67; refine (hse _).mono ?_; rintro e w1 ⟨rfl,hb1⟩))
 all_goals
  go_wp2_with fail
  go_ret
  exact ⟨rfl,(Below.refl _ _).drew.trans (hb1.mono (by simp))⟩
set_option maxHeartbeats 2000000 in
theorem search_any (ba bx:Nat) (n:Nat) (p:Nat->Bool) (w:World) (hn:n<=1048576)
  (hf:∀ wX,Below w.heap.size w wX->∀ i:Nat,i < n->Calls Tryz.prog 89 #[.int .i64 i,.pointer (some ⟨ba,0,none⟩),.pointer (some ⟨bx,0,none⟩)] wX fun e w'=>e=.returned (.bool (p i))/\Below wX.heap.size wX w')
  (hmono:∀ a b,a<=b->b < n->p a=true->p b=true) :
  Calls Tryz.prog 88 #[.int .i64 n,.func (.func 89) #[] #[.pointer (some ⟨ba,0,none⟩),.pointer (some ⟨bx,0,none⟩)]] w fun e w'=>∃ r:Nat,e=.returned (.int .i64 r)/\r<=n/\(∀ t,t < r->p t=false)/\(∀ t,r<=t->t < n->p t=true)/\Below w.heap.size w w':=by
 have HF:Hid _:=hf
 have HM:Hid _:=hmono
 clear hf hmono
 go_enter Tryz.func88,Tryz.ntmps88
 go_wp2_with fail
 go_loopw [5,6] (fun s5 s6 wr=>∃ (lo hi:Nat),s5=.int .i64 lo/\s6=.int .i64 hi/\lo<=hi/\hi<=n/\Hid ((∀ t,t < lo->p t=false)/\(∀ t,hi<=t->t < n->p t=true))/\Below w.heap.size w wr) (fun s5 s6 _=>(intOf s6).toNat - (intOf s5).toNat)
 case atStart=>exact ⟨0,n,rfl,rfl,Nat.zero_le _,Nat.le_refl _,⟨fun t ht=>absurd ht (Nat.not_lt_zero _),fun t h1 h2=>by omega⟩,Below.refl _ _⟩
 case round =>
  obtain ⟨lo,hi,rfl,rfl,hlh,hin,I,hb⟩:=hrel
  by_cases hlt:lo < hi
  ·have hc:=HF.out wr hb ((lo+hi) / 2) (by omega)
   rw [show (((lo+hi) / 2:Nat):Int)=((lo:Int)+(hi:Int)) / 2 by omega] at hc
   have HB:Hid (Below w.heap.size w wr):=hb
   clear hb
   cases hp:p ((lo+hi) / 2) <;> rw [hp] at hc
   ·have HP:Hid (p ((lo+hi) / 2)=false):=hp
    clear hp
    go_wp2_with (go_at_call 89; refine hc.mono ?_; rintro e w' ⟨rfl,hb1⟩)
    go_roundw
    case rel =>
     refine ⟨(lo+hi) / 2+1,hi,by rw [show ((lo:Int)+(hi:Int)) / 2+1=(((lo+hi) / 2+1:Nat):Int) by omega],rfl,by omega,hin,⟨fun t ht=>?_,I.out.2⟩,HB.out.trans (hb1.mono HB.out.size)⟩
     cases h:p t with
     | false=>rfl
     | true=>have:=HM.out t ((lo+hi) / 2) (by omega) (by omega) h; rw [HP.out] at this; cases this
    case measure=>simp [intOf]; omega
   ·have HP:Hid (p ((lo+hi) / 2)=true):=hp
    clear hp
    go_wp2_with (go_at_call 89; refine hc.mono ?_; rintro e w' ⟨rfl,hb1⟩)
    go_roundw
    case rel =>
     exact ⟨lo,(lo+hi) / 2,rfl,by rw [show ((lo:Int)+(hi:Int)) / 2=(((lo+hi) / 2:Nat):Int) by omega],by omega,by omega,⟨I.out.1,fun t ht htn=>HM.out ((lo+hi) / 2) t ht htn HP.out⟩,HB.out.trans (hb1.mono HB.out.size)⟩
    case measure=>simp [intOf]; omega
  ·obtain rfl:hi=lo:=by omega
   go_wp2_with fail
   go_ret
   exact ⟨hi,rfl,hin,I.out.1,I.out.2,hb⟩
theorem big_any (P C O R:Int) (G:Bool) (page:Int) (w:World) (hok:spanOk ⟨P,C,O,R,G⟩=true) (hp0:0<=page) (hp1:page < 4096) :
  Calls Tryz.prog 90 #[.agg #[.int .i64 P,.int .i64 C,.int .i64 O,.int .i64 R,.bool G],.int .i64 page] w fun e w'=>e=.returned (.bool (bigB ⟨P,C,O,R,G⟩ page))/\Below w.heap.size w w':=by
 have hk7:=spanOk_iff.1 hok
 dsimp only at hk7
 obtain ⟨t1,t2,t3,t4,t5,_⟩:=hk7
 have hse:=spanEnd_any P C O R G (by omega) (by omega) (by omega) (by omega)
 have hm0:0<=page % 16:=by omega
 have hm1:page % 16 < 16:=by omega
 clear hok
 cases G
 ·have hr:bigB ⟨P,C,O,R,false⟩ page=false:=rfl
  rw [hr]
  clear hr hse
  go_enter Tryz.func90,Tryz.ntmps90
  go_wp2_with fail
  go_ret
  exact ⟨rfl,(Below.refl _ _).alloc (Nat.le_refl _) _⟩
 ·by_cases h1:P<=page - page % 16
  ·have d1:decide (P<=page - page % 16)=true:=decide_eq_true h1
   by_cases h2:page - page % 16+16<=P+C
   ·have d2:decide (page - page % 16+16<=P+C)=true:=decide_eq_true h2
    by_cases h3:(O+(page - page % 16) - P) % 16=0
    ·have d3:((O+(page - page % 16) - P) % 16 == 0)=true:=by rw [h3]; rfl
     have hr:bigB ⟨P,C,O,R,true⟩ page=true:=by unfold bigB; dsimp only; rw [decide_eq_true ⟨h1,h2,h3⟩]; rfl
     rw [hr]
     clear hr h3
     go_enter Tryz.func90,Tryz.ntmps90
     go_wp2_with (go_at_call 67; refine (hse _).mono ?_; rintro e w1 ⟨rfl,hb1⟩; obtain ⟨hc1,hf1⟩:=bcellS hb1)
     go_ret
     exact ⟨rfl,((Below.refl _ _).alloc (Nat.le_refl _) _).trans (hb1.mono (by simp))⟩
    ·have d3:((O+(page - page % 16) - P) % 16 == 0)=false:=by simpa using h3
     have hr:bigB ⟨P,C,O,R,true⟩ page=false:=by unfold bigB; dsimp only; rw [decide_eq_false (fun h=>h3 h.2.2)]; rfl
     rw [hr]
     clear hr h3
     go_enter Tryz.func90,Tryz.ntmps90
     go_wp2_with (go_at_call 67; refine (hse _).mono ?_; rintro e w1 ⟨rfl,hb1⟩; obtain ⟨hc1,hf1⟩:=bcellS hb1)
     go_ret
     exact ⟨rfl,((Below.refl _ _).alloc (Nat.le_refl _) _).trans (hb1.mono (by simp))⟩
   ·have d2:decide (page - page % 16+16<=P+C)=false:=decide_eq_false h2
    have hr:bigB ⟨P,C,O,R,true⟩ page=false:=by unfold bigB; dsimp only; rw [decide_eq_false (fun h=>h2 h.2.1)]; rfl
    rw [hr]
    clear hr h2
    go_enter Tryz.func90,Tryz.ntmps90
    go_wp2_with (go_at_call 67; refine (hse _).mono ?_; rintro e w1 ⟨rfl,hb1⟩; obtain ⟨hc1,hf1⟩:=bcellS hb1)
    go_ret
    exact ⟨rfl,((Below.refl _ _).alloc (Nat.le_refl _) _).trans (hb1.mono (by simp))⟩
  ·have d1:decide (P<=page - page % 16)=false:=decide_eq_false h1
   have hr:bigB ⟨P,C,O,R,true⟩ page=false:=by unfold bigB; dsimp only; rw [decide_eq_false (fun h=>h1 h.1)]; rfl
   rw [hr]
   clear hr h1 hse
   go_enter Tryz.func90,Tryz.ntmps90
   go_wp2_with fail
   go_ret
   exact ⟨rfl,(Below.refl _ _).alloc (Nat.le_refl _) _⟩
set_option maxHeartbeats 2000000 in
theorem l4Big_any (P C O R:Int) (G:Bool) (page:Int) (w:World) (hok:spanOk ⟨P,C,O,R,G⟩=true) (hp0:0<=page) (hp1:page < 4096) :
  Calls Tryz.prog 84 #[.agg #[.int .i64 P,.int .i64 C,.int .i64 O,.int .i64 R,.bool G],.int .i64 page] w fun e w'=>e=.returned (.bool (bigB ⟨P,C,O,R,G⟩ page))/\Below w.heap.size w w':=by
 have hk7:=spanOk_iff.1 hok
 dsimp only at hk7
 obtain ⟨t1,t2,t3,t4,t5,_⟩:=hk7
 have hm0:0<=page % 16:=by omega
 have hm1:page % 16 < 16:=by omega
 clear hok
 cases G
 ·have hr:bigB ⟨P,C,O,R,false⟩ page=false:=rfl
  rw [hr]
  clear hr
  go_enter Tryz.func84,Tryz.ntmps84
  go_wp2_with fail
  go_ret
  exact ⟨rfl,(Below.refl _ _).alloc (Nat.le_refl _) _⟩
 ·obtain ⟨wb,hwb⟩:∃ wb,wb=w.alloc (.cells #[.int .i64 P,.int .i64 C,.int .i64 O,.int .i64 R,.bool true] 81):=⟨_,rfl⟩
  have hbb:Below w.heap.size w wb:=by rw [hwb]; exact (Below.refl _ _).alloc (Nat.le_refl _) _
  have q0:wb.cell? ⟨w.heap.size,0,none⟩=some (.int .i64 P):=by rw [hwb]; simp [go_sem]
  have q1:wb.cell? ⟨w.heap.size,1,none⟩=some (.int .i64 C):=by rw [hwb]; simp [go_sem]
  have q2:wb.cell? ⟨w.heap.size,2,none⟩=some (.int .i64 O):=by rw [hwb]; simp [go_sem]
  have HWB:Hid (wb=_):=hwb
  have HBB:Hid (Below w.heap.size w wb):=hbb
  clear hwb hbb
  obtain ⟨F,hF⟩:∃ F,F=page - page % 16:=⟨_,rfl⟩
  have f0:0<=F:=by omega
  have f1:F < 4096:=by omega
  have HBG:Hid (bigB ⟨P,C,O,R,true⟩ page=decide (P<=F/\F+16<=P+C/\(O+F - P) % 16=0)):=by rw [hF]; rfl
  go_enter Tryz.func84,Tryz.ntmps84
  go_wp2_with fail
  rw [<- HWB.out]
  rw [<- hF]
  clear hF
  go_loopw [6] (fun i wr=>∃ k:Nat,k<=16/\i=.int .i64 k/\Hid (∀ j:Nat,j < k->P<=F+j/\F+j < P+C)/\wr=wb) (fun i _=>16 - (intOf i).toNat)
  case atStart=>exact ⟨0,by omega,rfl,fun j hj=>absurd hj (by omega),rfl⟩
  case round =>
   obtain ⟨k,hk,rfl,hall,rfl⟩:=hrel
   by_cases hlt:k < 16
   ·have L1:(k:Int) < 16:=by omega
    have L2:(0:Int)<=(k:Int):=by omega
    by_cases h1:F+k < P
    ·have d1:decide (F+(k:Int) < P)=true:=decide_eq_true h1
     have hr:bigB ⟨P,C,O,R,true⟩ page=false:=by rw [HBG.out]; exact decide_eq_false (by omega)
     have HR:Hid _:=hr
     clear hr
     go_wp2_with fail
     go_ret
     exact ⟨by rw [HR.out]; rfl,HBB.out⟩
    ·have d1:decide (F+(k:Int) < P)=false:=decide_eq_false h1
     by_cases h2:P+C<=F+k
     ·have d2:decide (P+C<=F+(k:Int))=true:=decide_eq_true h2
      have hr:bigB ⟨P,C,O,R,true⟩ page=false:=by rw [HBG.out]; exact decide_eq_false (by omega)
      have HR:Hid _:=hr
      clear hr
      go_wp2_with fail
      go_ret
      exact ⟨by rw [HR.out]; rfl,HBB.out⟩
     ·have d2:decide (P+C<=F+(k:Int))=false:=decide_eq_false h2
      go_wp2_with fail
      go_roundw
      case rel =>
       refine ⟨k+1,by omega,by go_num,fun j hj=>?_,by first | rfl | trivial⟩
       by_cases e:j=k
       ·rw [e]; omega
       ·exact hall.out j (by omega)
      case measure=>simp [intOf]; omega
   ·obtain rfl:k=16:=by omega
    have a0:=hall.out 0 (by omega)
    have a15:=hall.out 15 (by omega)
    have hP:P<=F:=by omega
    have hE:F+16<=P+C:=by omega
    by_cases h3:(O+F - P) % 16=0
    ·have d3:((O+F - P) % 16 == 0)=true:=by rw [h3]; rfl
     have hr:bigB ⟨P,C,O,R,true⟩ page=true:=by rw [HBG.out]; exact decide_eq_true ⟨hP,hE,h3⟩
     have HR:Hid _:=hr
     clear hr hall a0 a15
     go_wp2_with fail
     go_ret
     exact ⟨by rw [HR.out]; rfl,HBB.out⟩
    ·have d3:((O+F - P) % 16 == 0)=false:=by simpa using h3
     have hr:bigB ⟨P,C,O,R,true⟩ page=false:=by rw [HBG.out]; exact decide_eq_false (fun h=>h3 h.2.2)
     have HR:Hid _:=hr
     clear hr hall a0 a15
     go_wp2_with fail
     go_ret
     exact ⟨by rw [HR.out]; rfl,HBB.out⟩
set_option maxHeartbeats 4000000 in
theorem l4At_any (a:Option Addr) (cap b:Nat) (xs:List SpanE) (page:Int) (w:World) (hn:xs.length<=1048576) (hvs:VS xs) (hp0:0<=page) (hp1:page < 4096) (h:ERow eSpan w b (.slice a xs.length cap) xs) :
  Calls Tryz.prog 60 #[.slice a xs.length cap,.int .i64 page] w fun e w'=>e=.returned (.agg #[.int .i64 (atL xs page).k,.int .i64 (atL xs page).o,.int .i64 (atL xs page).p,.int .i64 (atL xs page).s])/\Below w.heap.size w w':=by
 obtain ⟨g,hg,hcs⟩:=spCells h
 obtain ⟨wb,hwb⟩:∃ wb,wb=w.alloc (.cells #[.int .i64 0,.int .i64 0,.int .i64 0,.int .i64 0] 110):=⟨_,rfl⟩
 have hbb:Below w.heap.size w wb:=by rw [hwb]; exact (Below.refl _ _).alloc (Nat.le_refl _) _
 have hzb:wb.heap.size=w.heap.size+1:=by rw [hwb]; simp
 have HRS:Hid (∀ wX,Below wb.heap.size wb wX->(wX.cell? ⟨w.heap.size,0,none⟩=some (.int .i64 0)/\wX.cell? ⟨w.heap.size,1,none⟩=some (.int .i64 0)/\wX.cell? ⟨w.heap.size,2,none⟩=some (.int .i64 0)/\wX.cell? ⟨w.heap.size,3,none⟩=some (.int .i64 0))/\wX.frozen? ⟨w.heap.size,0,none⟩=false/\wX.frozen? ⟨w.heap.size,1,none⟩=false/\wX.frozen? ⟨w.heap.size,2,none⟩=false/\wX.frozen? ⟨w.heap.size,3,none⟩=false):=fun wX hX=>by
  refine ⟨⟨?_,?_,?_,?_⟩,?_,?_,?_,?_⟩
  iterate 4 (exact (hX.cell (by simp; omega)).trans (by rw [hwb]; simp [go_sem]))
  iterate 4 (exact (hX.frozen (by simp; omega)).trans (by rw [hwb]; simp [go_sem]))
 have HG:Hid _:=hg
 have HCS:Hid _:=hcs
 have HVS:Hid _:=hvs
 have HWB:Hid (wb=_):=hwb
 have HBB:Hid (Below w.heap.size w wb):=hbb
 have HZ:Hid (wb.heap.size=w.heap.size+1):=hzb
 clear h hg hcs hvs hwb hbb hzb
 go_enter Tryz.func60,Tryz.ntmps60
 go_wp2_with fail
 rw [<- HWB.out]
 go_loopw [5] (fun i wr=>∃ k:Nat,k<=xs.length/\i=.int .i64 k/\Hid (∀ j,j < k->inS (eAt eSpan xs j) page=false)/\Below wb.heap.size wb wr) (fun i _=>xs.length - (intOf i).toNat)
 case atStart=>exact ⟨0,Nat.zero_le _,rfl,fun j hj=>absurd hj (by omega),Below.refl _ _⟩
 case round =>
  obtain ⟨k,hk,rfl,hall,hbw⟩:=hrel
  by_cases hlt:k < xs.length
  ·obtain ⟨rfl,hgl⟩:=HG.out (by omega)
   obtain ⟨E,hE⟩:∃ E,eAt eSpan xs k=E:=⟨_,rfl⟩
   obtain ⟨P,C,O,R,G⟩:=E
   have hok:spanOk ⟨P,C,O,R,G⟩=true:=by rw [<- hE]; exact HVS.out.1 k hlt
   have hk7:=spanOk_iff.1 hok
   dsimp only at hk7
   obtain ⟨t1,t2,t3,t4,t5,_⟩:=hk7
   have HK:Hid (∀ wX,Below wr.heap.size wr wX->wX.cell? ⟨g,k * 5,none⟩=some (.int .i64 P)/\wX.cell? ⟨g,k * 5+1,none⟩=some (.int .i64 C)/\wX.cell? ⟨g,k * 5+2,none⟩=some (.int .i64 O)/\wX.cell? ⟨g,k * 5+3,none⟩=some (.int .i64 R)/\wX.cell? ⟨g,k * 5+4,none⟩=some (.bool G)):=fun wX hX=>HCS.out k P C O R G hlt hE wX (HBB.out.trans ((hbw.trans (hX.mono hbw.size)).mono (by have:=HZ.out; omega)))
   have HE:Hid (eAt eSpan xs k=_):=hE
   have HOK:Hid (spanOk ⟨P,C,O,R,G⟩=true):=hok
   have HBW:Hid (Below wb.heap.size wb wr):=hbw
   have L1:(0:Int)<=(k:Int):=by omega
   have L2:(k:Int) < (xs.length:Int):=by omega
   have W0:IntKind.i64.wrap (P+C)=P+C:=by rw [IntKind.wrap_i64]; omega
   have W1:IntKind.i64.wrap (O+page)=O+page:=by rw [IntKind.wrap_i64]; omega
   have W2:IntKind.i64.wrap (O+page - P)=O+page - P:=by rw [IntKind.wrap_i64]; omega
   clear hE hok hbw
   by_cases h1:P<=page
   ·have d1:decide (P<=page)=true:=decide_eq_true h1
    by_cases h2:page < P+C
    ·have d2:decide (page < P+C)=true:=decide_eq_true h2
     have HHIT:Hid (atL xs page=hitS ⟨P,C,O,R,G⟩ page):=by
      have:=at_hit page xs k hlt hall.out (by rw [HE.out]; unfold inS; exact decide_eq_true ⟨h1,h2⟩)
      rwa [HE.out] at this
     go_wp2_with fail
     refine wp_region_held_drew (S:=(fun wX=>wX.cell? ⟨g,k * 5,none⟩=some (.int .i64 P)/\wX.cell? ⟨g,k * 5+1,none⟩=some (.int .i64 C)/\wX.cell? ⟨g,k * 5+2,none⟩=some (.int .i64 O)/\wX.cell? ⟨g,k * 5+3,none⟩=some (.int .i64 R)/\wX.cell? ⟨g,k * 5+4,none⟩=some (.bool G))) (by kernel_rfl) (HK.out _ ((Below.refl _ _).drew)) (fun hHeld=>?_)
     refine tk 0 ?_
     refine tk 1 ?_
     refine tk 2 ?_
     refine tk 3 ?_
     refine tk 4 ?_
     refine tk 5 ?_
     refine tk 6 ?_
     refine tk 7 ?_
     refine tk 8 ?_
     refine tk 9 ?_
     refine tk 10 ?_
     refine tk 11 ?_
     refine tk 12 ?_
     refine tk 13 ?_
     refine tk 14 ?_
     refine tk 15 ?_
     refine tk 16 ?_
     refine tk 17 ?_
     refine tk 18 ?_
     refine tk 19 ?_
     refine tk 20 ?_
     refine tk 21 ?_
     refine wpAnyH_done (by kernel_rfl) ?_ _
     go_wp2_with fail
     obtain ⟨wa,hwa⟩:∃ wa,wa=wr.drew:=⟨_,rfl⟩
     rw [<- hwa]
     have HAR:Hid (Below wr.heap.size wr wa):=by rw [hwa]; exact (Below.refl _ _).drew
     have HKA:Hid (∀ wX,Below wa.heap.size wa wX->wX.cell? ⟨g,k * 5,none⟩=some (.int .i64 P)/\wX.cell? ⟨g,k * 5+1,none⟩=some (.int .i64 C)/\wX.cell? ⟨g,k * 5+2,none⟩=some (.int .i64 O)/\wX.cell? ⟨g,k * 5+3,none⟩=some (.int .i64 R)/\wX.cell? ⟨g,k * 5+4,none⟩=some (.bool G)):=fun wX hX=>HK.out wX (HAR.out.trans (hX.mono HAR.out.size))
     have HBA:Hid (Below wb.heap.size wb wa):=HBW.out.trans (HAR.out.mono HBW.out.size)
     clear hwa hHeld
     go_cut [6] (fun d wx=>∃ Z,d=.pointer (some ⟨Z,0,none⟩)/\(wx.cell? ⟨Z,0,none⟩=some (.int .i64 1)/\wx.cell? ⟨Z,1,none⟩=some (.int .i64 (O+page - P))/\wx.cell? ⟨Z,2,none⟩=some (.int .i64 R)/\wx.cell? ⟨Z,3,none⟩=some (.int .i64 1))/\wx.frozen? ⟨Z,3,none⟩=false/\wa.heap.size<=Z/\Z < wx.heap.size/\Below wa.heap.size wa wx)
     case first =>
      go_region_held3 (fun wX=>wX.cell? ⟨g,k * 5,none⟩=some (.int .i64 P)/\wX.cell? ⟨g,k * 5+1,none⟩=some (.int .i64 C)/\wX.cell? ⟨g,k * 5+2,none⟩=some (.int .i64 O)/\wX.cell? ⟨g,k * 5+3,none⟩=some (.int .i64 R)/\wX.cell? ⟨g,k * 5+4,none⟩=some (.bool G))
       ((refine HKA.out _ ?_; repeat (first | exact Below.refl _ _ | with_reducible refine Below.drew ?_ | with_reducible refine Below.setCell ?_ (by first | omega | (simp <;> omega)) _ | with_reducible refine Below.alloc ?_ (by first | omega | (simp <;> omega)) _))) (fail)
      all_goals
       go_wp2_with fail
       go_meet
       case rel =>
        refine ⟨_,rfl,⟨?_,?_,?_,?_⟩,?_,?_,?_,?_⟩
        ·simp [go_sem]
        ·simp [go_sem]
        ·simp [go_sem]
        ·simp [go_sem]
        ·simp [go_sem]
        ·first | omega | (simp <;> omega)
        ·first | omega | (simp <;> omega)
        ·repeat (first | exact Below.refl _ _ | with_reducible refine Below.drew ?_ | with_reducible refine Below.setCell ?_ (by first | omega | (simp <;> omega)) _ | with_reducible refine Below.alloc ?_ (by first | omega | (simp <;> omega)) _)
     case rest =>
      obtain ⟨wx,rfl⟩:∃ wx:World,wx=wc:=⟨_,rfl⟩
      obtain ⟨Z,rfl,hzc,hzf,hZ1,hZ2,hbx⟩:=hcut
      have HZC:Hid (∀ wX,Below wx.heap.size wx wX->(wX.cell? ⟨Z,0,none⟩=some (.int .i64 1)/\wX.cell? ⟨Z,1,none⟩=some (.int .i64 (O+page - P))/\wX.cell? ⟨Z,2,none⟩=some (.int .i64 R)/\wX.cell? ⟨Z,3,none⟩=some (.int .i64 1))/\wX.frozen? ⟨Z,3,none⟩=false):=fun wX hX=>⟨⟨(hX.cell hZ2).trans hzc.1,(hX.cell hZ2).trans hzc.2.1,(hX.cell hZ2).trans hzc.2.2.1,(hX.cell hZ2).trans hzc.2.2.2⟩,(hX.frozen hZ2).trans hzf⟩
      have HBX:Hid (Below wb.heap.size wb wx):=HBA.out.trans (hbx.mono HBA.out.size)
      have N0:w.heap.size < wx.heap.size:=by have:=HBX.out.size; have:=HZ.out; omega
      have N1:w.heap.size ≠ Z:=by have:=HBA.out.size; have:=HZ.out; omega
      have hbig:=l4Big_any P C O R G page
      have hbg:=fun wX=>hbig wX HOK.out hp0 hp1
      clear hzc hzf hbig
      obtain ⟨c0,c1,c2,c3,c4⟩:=HK.out wx (HAR.out.trans (hbx.mono HAR.out.size))
      have HX2:Hid True:=trivial
      cases hbb2:bigB ⟨P,C,O,R,G⟩ page <;> simp only [hbb2] at hbg
      ·go_wp2_with fail
       refine (hbg _).mono ?_
       rintro e w2 ⟨rfl,hb2⟩
       have HB2:Hid (Below wb.heap.size wb w2):=HBX.out.trans (hb2.mono HBX.out.size)
       obtain ⟨⟨z0,z1,z2,z3⟩,zf⟩:=HZC.out w2 hb2
       obtain ⟨⟨r0,r1,r2,r3⟩,f0,f1,f2,f3⟩:=HRS.out w2 HB2.out
       have HSZ:Hid (Z < w2.heap.size):=Nat.lt_of_lt_of_le hZ2 hb2.size
       have HAT:Hid (atL xs page=⟨1,O+page - P,R,1⟩):=by rw [HHIT.out]; unfold hitS; rw [hbb2]; rfl
       clear hb2 hbb2
       go_wp2_with fail
       refine bodyPost_ret (v:=.agg #[.int .i64 1,.int .i64 (O+page - P),.int .i64 R,.int .i64 1]) (by simp [results,Tryz.results60,go_sem,r0,r1,r2,r3]) rfl ⟨by rw [HAT.out],?_⟩
       have B2:Below w.heap.size w w2:=HBB.out.trans (HB2.out.mono (by have:=HZ.out; omega))
       have zl:w.heap.size<=Z:=by have:=HBA.out.size; have:=HZ.out; omega
       repeat (first | exact B2 | refine Below.setCell ?_ (by first | exact zl | exact Nat.le_refl _ | (dsimp only; omega)) _)
      ·go_wp2_with fail
       refine (hbg _).mono ?_
       rintro e w2 ⟨rfl,hb2⟩
       have HB2:Hid (Below wb.heap.size wb w2):=HBX.out.trans (hb2.mono HBX.out.size)
       obtain ⟨⟨z0,z1,z2,z3⟩,zf⟩:=HZC.out w2 hb2
       obtain ⟨⟨r0,r1,r2,r3⟩,f0,f1,f2,f3⟩:=HRS.out w2 HB2.out
       have HSZ:Hid (Z < w2.heap.size):=Nat.lt_of_lt_of_le hZ2 hb2.size
       have HAT:Hid (atL xs page=⟨1,O+page - P,R,16⟩):=by rw [HHIT.out]; unfold hitS; rw [hbb2]; rfl
       clear hb2 hbb2
       go_wp2_with fail
       refine bodyPost_ret (v:=.agg #[.int .i64 1,.int .i64 (O+page - P),.int .i64 R,.int .i64 16]) (by simp [results,Tryz.results60,go_sem,r0,r1,r2,r3]) rfl ⟨by rw [HAT.out],?_⟩
       have B2:Below w.heap.size w w2:=HBB.out.trans (HB2.out.mono (by have:=HZ.out; omega))
       have zl:w.heap.size<=Z:=by have:=HBA.out.size; have:=HZ.out; omega
       repeat (first | exact B2 | refine Below.setCell ?_ (by first | exact zl | exact Nat.le_refl _ | (dsimp only; omega)) _)
    ·have d2:decide (page < P+C)=false:=decide_eq_false h2
     have HIN:Hid (inS (eAt eSpan xs k) page=false):=by rw [HE.out]; unfold inS; exact decide_eq_false (fun h=>h2 h.2)
     go_wp2_with fail
     refine wp_region_held_drew (S:=(fun wX=>wX.cell? ⟨g,k * 5,none⟩=some (.int .i64 P)/\wX.cell? ⟨g,k * 5+1,none⟩=some (.int .i64 C)/\wX.cell? ⟨g,k * 5+2,none⟩=some (.int .i64 O)/\wX.cell? ⟨g,k * 5+3,none⟩=some (.int .i64 R)/\wX.cell? ⟨g,k * 5+4,none⟩=some (.bool G))) (by kernel_rfl) (HK.out _ ((Below.refl _ _).drew)) (fun hHeld=>?_)
     refine tk 0 ?_
     refine tk 1 ?_
     refine tk 2 ?_
     refine tk 3 ?_
     refine tk 4 ?_
     refine tk 5 ?_
     refine tk 6 ?_
     refine tk 7 ?_
     refine tk 8 ?_
     refine tk 9 ?_
     refine tk 10 ?_
     refine tk 11 ?_
     refine tk 12 ?_
     refine tk 13 ?_
     refine tk 14 ?_
     refine tk 15 ?_
     refine tk 16 ?_
     refine tk 17 ?_
     refine tk 18 ?_
     refine tk 19 ?_
     refine tk 20 ?_
     refine tk 21 ?_
     refine wpAnyH_done (by kernel_rfl) ?_ _
     go_wp2_with fail
     go_roundw
     case rel =>
      refine ⟨k+1,by omega,by go_num,fun j hj=>?_,HBW.out.trans ((Below.refl _ _).drew.mono HBW.out.size)⟩
      by_cases e:j=k
      ·rw [e]; exact HIN.out
      ·exact hall.out j (by omega)
     case measure=>simp [intOf]; omega
   ·have d1:decide (P<=page)=false:=decide_eq_false h1
    have HIN:Hid (inS (eAt eSpan xs k) page=false):=by rw [HE.out]; unfold inS; exact decide_eq_false (fun h=>h1 h.1)
    go_wp2_with fail
    refine wp_region_held_drew (S:=(fun wX=>wX.cell? ⟨g,k * 5,none⟩=some (.int .i64 P)/\wX.cell? ⟨g,k * 5+1,none⟩=some (.int .i64 C)/\wX.cell? ⟨g,k * 5+2,none⟩=some (.int .i64 O)/\wX.cell? ⟨g,k * 5+3,none⟩=some (.int .i64 R)/\wX.cell? ⟨g,k * 5+4,none⟩=some (.bool G))) (by kernel_rfl) (HK.out _ ((Below.refl _ _).drew)) (fun hHeld=>?_)
    refine tk 0 ?_
    refine tk 1 ?_
    refine tk 2 ?_
    refine tk 3 ?_
    refine tk 4 ?_
    refine tk 5 ?_
    refine tk 6 ?_
    refine tk 7 ?_
    refine sk 8 ?_
    refine sk 9 ?_
    refine sk 10 ?_
    refine sk 11 ?_
    refine sk 12 ?_
    refine sk 13 ?_
    refine sk 14 ?_
    refine sk 15 ?_
    refine sk 16 ?_
    refine sk 17 ?_
    refine sk 18 ?_
    refine sk 19 ?_
    refine sk 20 ?_
    refine tk 21 ?_
    refine wpAnyH_done (by kernel_rfl) ?_ _
    go_wp2_with fail
    go_roundw
    case rel =>
     refine ⟨k+1,by omega,by go_num,fun j hj=>?_,HBW.out.trans ((Below.refl _ _).drew.mono HBW.out.size)⟩
     by_cases e:j=k
     ·rw [e]; exact HIN.out
     ·exact hall.out j (by omega)
    case measure=>simp [intOf]; omega
  ·have e:k=xs.length:=by omega
   subst e
   have HAT:Hid (atL xs page=zHt):=at_none page xs hall.out
   obtain ⟨⟨r0,r1,r2,r3⟩,f0,f1,f2,f3⟩:=HRS.out wr hbw
   have N0:w.heap.size < wr.heap.size:=by have:=hbw.size; have:=HZ.out; omega
   have HB2:Hid (Below w.heap.size w wr):=HBB.out.trans (hbw.mono (by have:=HZ.out; omega))
   clear hall hbw
   go_wp2_with fail
   refine bodyPost_ret (v:=.agg #[.int .i64 0,.int .i64 0,.int .i64 0,.int .i64 0]) (by simp [results,Tryz.results60,go_sem,r0,r1,r2,r3]) rfl ⟨by rw [HAT.out]; rfl,?_⟩
   exact (((HB2.out.setCell (by simp) _).setCell (by simp) _).setCell (by simp) _).setCell (by simp) _
end Go.Proofs.YtnmhkgmmpkjjeacGreat
