import Derived.Test.YtnmhkgmmpkjjeacGreatG05
import Derived.Test.YtnmhkgmmpkjjeacGreatG08
namespace Go.Proofs.YtnmhkgmmpkjjeacGreat
open Go.ChangeShapes Go.WideShapes Go.ChangeAt Go.RowKit
set_option linter.unusedVariables false
attribute [local go_sem ↓] Go.wp_at_zero Go.wp_at_succ
theorem l4SpanOk_any (p c o r:Int) (g:Bool) (w:World) (hw:wfS ⟨p,c,o,r,g⟩) :
  Calls Tryz.prog 58 #[.agg #[.int .i64 p,.int .i64 c,.int .i64 o,.int .i64 r,.bool g]] w fun e w'=>e=.returned (.bool (spanOk ⟨p,c,o,r,g⟩))/\Below w.heap.size w w':=by
 obtain ⟨hp1,hp2,hc1,hc2,ho1,ho2,hr1,hr2⟩:=hw
 dsimp only at hp1 hp2 hc1 hc2 ho1 ho2 hr1 hr2
 by_cases h0:c < 1
 ·have d0:decide (c < 1)=true:=by simpa using h0
  have hr:spanOk ⟨p,c,o,r,g⟩=false:=decide_eq_false (by dsimp only; omega)
  rw [hr]
  clear hr
  go_enter Tryz.func58,Tryz.ntmps58
  go_wp2_with fail
  go_ret
  exact ⟨rfl,(Below.refl _ _).alloc (Nat.le_refl _) _⟩
 ·have d0:decide (c < 1)=false:=by simpa using h0
  by_cases h1:4096 < c
  ·have d1:decide (4096 < c)=true:=by simpa using h1
   have hr:spanOk ⟨p,c,o,r,g⟩=false:=decide_eq_false (by dsimp only; omega)
   rw [hr]
   clear hr
   go_enter Tryz.func58,Tryz.ntmps58
   go_wp2_with fail
   go_ret
   exact ⟨rfl,(Below.refl _ _).alloc (Nat.le_refl _) _⟩
  ·have d1:decide (4096 < c)=false:=by simpa using h1
   by_cases h2:r < 1
   ·have d2:decide (r < 1)=true:=by simpa using h2
    have hr:spanOk ⟨p,c,o,r,g⟩=false:=decide_eq_false (by dsimp only; omega)
    rw [hr]
    clear hr
    go_enter Tryz.func58,Tryz.ntmps58
    go_wp2_with fail
    go_ret
    exact ⟨rfl,(Below.refl _ _).alloc (Nat.le_refl _) _⟩
   ·have d2:decide (r < 1)=false:=by simpa using h2
    by_cases h3:7 < r
    ·have d3:decide (7 < r)=true:=by simpa using h3
     have hr:spanOk ⟨p,c,o,r,g⟩=false:=decide_eq_false (by dsimp only; omega)
     rw [hr]
     clear hr
     go_enter Tryz.func58,Tryz.ntmps58
     go_wp2_with fail
     go_ret
     exact ⟨rfl,(Below.refl _ _).alloc (Nat.le_refl _) _⟩
    ·have d3:decide (7 < r)=false:=by simpa using h3
     by_cases h4:p < 0
     ·have d4:decide (p < 0)=true:=by simpa using h4
      have hr:spanOk ⟨p,c,o,r,g⟩=false:=decide_eq_false (by dsimp only; omega)
      rw [hr]
      clear hr
      go_enter Tryz.func58,Tryz.ntmps58
      go_wp2_with fail
      go_ret
      exact ⟨rfl,(Below.refl _ _).alloc (Nat.le_refl _) _⟩
     ·have d4:decide (p < 0)=false:=by simpa using h4
      by_cases h5:4096<=p
      ·have d5:decide (4096<=p)=true:=by simpa using h5
       have hr:spanOk ⟨p,c,o,r,g⟩=false:=decide_eq_false (by dsimp only; omega)
       rw [hr]
       clear hr
       go_enter Tryz.func58,Tryz.ntmps58
       go_wp2_with fail
       go_ret
       exact ⟨rfl,(Below.refl _ _).alloc (Nat.le_refl _) _⟩
      ·have d5:decide (4096<=p)=false:=by simpa using h5
       by_cases h6:4096 < p+c
       ·have d6:decide (4096 < p+c)=true:=by simpa using h6
        have hr:spanOk ⟨p,c,o,r,g⟩=false:=decide_eq_false (by dsimp only; omega)
        rw [hr]
        clear hr
        go_enter Tryz.func58,Tryz.ntmps58
        go_wp2_with fail
        go_ret
        exact ⟨rfl,(Below.refl _ _).alloc (Nat.le_refl _) _⟩
       ·have d6:decide (4096 < p+c)=false:=by simpa using h6
        by_cases h7:0<=o
        ·have d7:decide (0<=o)=true:=by simpa using h7
         by_cases h8:o < 65536
         ·have d8:decide (o < 65536)=true:=by simpa using h8
          by_cases h9:o+c<=65536
          ·have d9:decide (o+c<=65536)=true:=by simpa using h9
           have hr:spanOk ⟨p,c,o,r,g⟩=true:=decide_eq_true (by dsimp only; omega)
           rw [hr]
           clear hr
           go_enter Tryz.func58,Tryz.ntmps58
           go_wp2_with fail
           go_ret
           exact ⟨rfl,(Below.refl _ _).alloc (Nat.le_refl _) _⟩
          ·have d9:decide (o+c<=65536)=false:=by simpa using h9
           have hr:spanOk ⟨p,c,o,r,g⟩=false:=decide_eq_false (by dsimp only; omega)
           rw [hr]
           clear hr
           go_enter Tryz.func58,Tryz.ntmps58
           go_wp2_with fail
           go_ret
           exact ⟨rfl,(Below.refl _ _).alloc (Nat.le_refl _) _⟩
         ·have d8:decide (o < 65536)=false:=by simpa using h8
          have hr:spanOk ⟨p,c,o,r,g⟩=false:=decide_eq_false (by dsimp only; omega)
          rw [hr]
          clear hr
          go_enter Tryz.func58,Tryz.ntmps58
          go_wp2_with fail
          go_ret
          exact ⟨rfl,(Below.refl _ _).alloc (Nat.le_refl _) _⟩
        ·have d7:decide (0<=o)=false:=by simpa using h7
         have hr:spanOk ⟨p,c,o,r,g⟩=false:=decide_eq_false (by dsimp only; omega)
         rw [hr]
         clear hr
         go_enter Tryz.func58,Tryz.ntmps58
         go_wp2_with fail
         go_ret
         exact ⟨rfl,(Below.refl _ _).alloc (Nat.le_refl _) _⟩
theorem validSpan_any (p c o r:Int) (g:Bool) (w:World) (hw:wfS ⟨p,c,o,r,g⟩) :
  Calls Tryz.prog 66 #[.agg #[.int .i64 p,.int .i64 c,.int .i64 o,.int .i64 r,.bool g]] w fun e w'=>e=.returned (.bool (spanOk ⟨p,c,o,r,g⟩))/\Below w.heap.size w w':=by
 obtain ⟨hp1,hp2,hc1,hc2,ho1,ho2,hr1,hr2⟩:=hw
 dsimp only at hp1 hp2 hc1 hc2 ho1 ho2 hr1 hr2
 by_cases h0:1<=c
 ·have d0:decide (1<=c)=true:=by simpa using h0
  by_cases h1:0<=p
  ·have d1:decide (0<=p)=true:=by simpa using h1
   by_cases h2:p<=4096 - c
   ·have d2:decide (p<=4096 - c)=true:=by simpa using h2
    by_cases h3:0<=o
    ·have d3:decide (0<=o)=true:=by simpa using h3
     by_cases h4:o<=65536 - c
     ·have d4:decide (o<=65536 - c)=true:=by simpa using h4
      by_cases h5:1<=r
      ·have d5:decide (1<=r)=true:=by simpa using h5
       by_cases h6:r<=7
       ·have d6:decide (r<=7)=true:=by simpa using h6
        have hr:spanOk ⟨p,c,o,r,g⟩=true:=decide_eq_true (by dsimp only; omega)
        rw [hr]
        clear hr
        go_enter Tryz.func66,Tryz.ntmps66
        go_wp2_with fail
        go_ret
        exact ⟨rfl,(Below.refl _ _).alloc (Nat.le_refl _) _⟩
       ·have d6:decide (r<=7)=false:=by simpa using h6
        have hr:spanOk ⟨p,c,o,r,g⟩=false:=decide_eq_false (by dsimp only; omega)
        rw [hr]
        clear hr
        go_enter Tryz.func66,Tryz.ntmps66
        go_wp2_with fail
        go_ret
        exact ⟨rfl,(Below.refl _ _).alloc (Nat.le_refl _) _⟩
      ·have d5:decide (1<=r)=false:=by simpa using h5
       have hr:spanOk ⟨p,c,o,r,g⟩=false:=decide_eq_false (by dsimp only; omega)
       rw [hr]
       clear hr
       go_enter Tryz.func66,Tryz.ntmps66
       go_wp2_with fail
       go_ret
       exact ⟨rfl,(Below.refl _ _).alloc (Nat.le_refl _) _⟩
     ·have d4:decide (o<=65536 - c)=false:=by simpa using h4
      have hr:spanOk ⟨p,c,o,r,g⟩=false:=decide_eq_false (by dsimp only; omega)
      rw [hr]
      clear hr
      go_enter Tryz.func66,Tryz.ntmps66
      go_wp2_with fail
      go_ret
      exact ⟨rfl,(Below.refl _ _).alloc (Nat.le_refl _) _⟩
    ·have d3:decide (0<=o)=false:=by simpa using h3
     have hr:spanOk ⟨p,c,o,r,g⟩=false:=decide_eq_false (by dsimp only; omega)
     rw [hr]
     clear hr
     go_enter Tryz.func66,Tryz.ntmps66
     go_wp2_with fail
     go_ret
     exact ⟨rfl,(Below.refl _ _).alloc (Nat.le_refl _) _⟩
   ·have d2:decide (p<=4096 - c)=false:=by simpa using h2
    have hr:spanOk ⟨p,c,o,r,g⟩=false:=decide_eq_false (by dsimp only; omega)
    rw [hr]
    clear hr
    go_enter Tryz.func66,Tryz.ntmps66
    go_wp2_with fail
    go_ret
    exact ⟨rfl,(Below.refl _ _).alloc (Nat.le_refl _) _⟩
  ·have d1:decide (0<=p)=false:=by simpa using h1
   have hr:spanOk ⟨p,c,o,r,g⟩=false:=decide_eq_false (by dsimp only; omega)
   rw [hr]
   clear hr
   go_enter Tryz.func66,Tryz.ntmps66
   go_wp2_with fail
   go_ret
   exact ⟨rfl,(Below.refl _ _).alloc (Nat.le_refl _) _⟩
 ·have d0:decide (1<=c)=false:=by simpa using h0
  have hr:spanOk ⟨p,c,o,r,g⟩=false:=decide_eq_false (by dsimp only; omega)
  rw [hr]
  clear hr
  go_enter Tryz.func66,Tryz.ntmps66
  go_wp2_with fail
  go_ret
  exact ⟨rfl,(Below.refl _ _).alloc (Nat.le_refl _) _⟩
theorem vs_bad1 {xs:List SpanE} (k:Nat) (hk:k < xs.length) (h:spanOk (eAt eSpan xs k)=false):vsB xs=false :=
 vsB_false (fun hv=>by have:=hv.1 k hk; rw [h] at this; cases this)
theorem vs_bad2 {xs:List SpanE} (k:Nat) (hk:k+1 < xs.length) (h:pairOk (eAt eSpan xs k) (eAt eSpan xs (k+1))=false):vsB xs=false :=
 vsB_false (fun hv=>by have:=hv.2 k hk; rw [h] at this; cases this)
set_option maxHeartbeats 4000000 in
theorem specVS_any (a:Option Addr) (cap b:Nat) (xs:List SpanE) (w:World) (hn:xs.length<=1048576) (hwf:∀ i,i < xs.length->wfS (eAt eSpan xs i)) (h:ERow eSpan w b (.slice a xs.length cap) xs) :
  Calls Tryz.prog 27 #[.slice a xs.length cap] w fun e w'=>e=.returned (.bool (vsB xs))/\Below w.heap.size w w':=by
 obtain ⟨g,hg,hcs⟩:=spCells h
 have HG:Hid _:=hg
 have HCS:Hid _:=hcs
 have HWF:Hid _:=hwf
 clear h hg hcs hwf
 go_enter Tryz.func27,Tryz.ntmps27
 go_wp2_with fail
 go_loopw [3] (fun i wr=>∃ k:Nat,k<=xs.length/\i=.int .i64 k/\Hid (∀ j,j < k->spanOk (eAt eSpan xs j)=true)/\Below w.heap.size w wr) (fun i _=>xs.length - (intOf i).toNat)
 case atStart=>exact ⟨0,Nat.zero_le _,rfl,fun j hj=>absurd hj (by omega),Below.refl _ _⟩
 case round =>
  obtain ⟨k,hk,rfl,hall,hbw⟩:=hrel
  by_cases hlt:k < xs.length
  ·obtain ⟨rfl,hgl⟩:=HG.out (by omega)
   obtain ⟨E,hE⟩:∃ E,eAt eSpan xs k=E:=⟨_,rfl⟩
   obtain ⟨P,C,O,R,G⟩:=E
   obtain ⟨c0,c1,c2,c3,c4⟩:=HCS.out k P C O R G hlt hE wr hbw
   have hv:=l4SpanOk_any P C O R G wr (by rw [<- hE]; exact HWF.out k hlt)
   have HE:Hid (eAt eSpan xs k=_):=hE
   have HBW:Hid (Below w.heap.size w wr):=hbw
   have L1:(0:Int)<=(k:Int):=by omega
   have L2:(k:Int) < (xs.length:Int):=by omega
   clear hE hbw
   cases hok:spanOk ⟨P,C,O,R,G⟩ <;> rw [hok] at hv
   ·have HV:Hid (vsB xs=false):=vs_bad1 k hlt (by rw [HE.out]; exact hok)
    clear hok
    go_wp2_with (go_at_call 58; refine hv.mono ?_; rintro e w1 ⟨rfl,hb1⟩)
    go_ret
    exact ⟨by rw [HV.out]; rfl,HBW.out.trans (hb1.mono HBW.out.size)⟩
   ·have HOK:Hid (spanOk ⟨P,C,O,R,G⟩=true):=hok
    clear hok
    go_wp2_with (go_at_call 58; refine hv.mono ?_; rintro e w1 ⟨rfl,hb1⟩)
    go_roundw
    case rel =>
     refine ⟨k+1,by omega,by go_num,fun j hj=>?_,HBW.out.trans (hb1.mono HBW.out.size)⟩
     by_cases e:j=k
     ·rw [e,HE.out]; exact HOK.out
     ·exact hall.out j (by omega)
    case measure=>simp [intOf]; omega
  ·have e:k=xs.length:=by omega
   subst e
   obtain ⟨wA,rfl⟩:∃ wA:World,wA=wr:=⟨_,rfl⟩
   have HBA:Hid (Below w.heap.size w wA):=hbw
   have HALL:Hid (∀ j,j < xs.length->spanOk (eAt eSpan xs j)=true):=hall
   clear hall hbw
   go_wp2_with fail
   go_loopw [4] (fun i wr=>∃ k:Nat,1<=k/\(k<=xs.length\/k=1)/\i=.int .i64 k/\Hid (∀ j,j+1 < k->pairOk (eAt eSpan xs j) (eAt eSpan xs (j+1))=true)/\Below w.heap.size w wr) (fun i _=>xs.length - (intOf i).toNat)
   case atStart=>exact ⟨1,Nat.le_refl _,.inr rfl,rfl,fun j hj=>absurd hj (by omega),HBA.out⟩
   case round =>
    obtain ⟨k,hk1,hk2,rfl,hall,hbw⟩:=hrel
    by_cases hlt:k < xs.length
    ·obtain ⟨m,rfl⟩:∃ m,k=m+1:=⟨k - 1,by omega⟩
     obtain ⟨rfl,hgl⟩:=HG.out (by omega)
     obtain ⟨E,hE⟩:∃ E,eAt eSpan xs m=E:=⟨_,rfl⟩
     obtain ⟨P,C,O,R,G⟩:=E
     obtain ⟨F,hF⟩:∃ F,eAt eSpan xs (m+1)=F:=⟨_,rfl⟩
     obtain ⟨P2,C2,O2,R2,G2⟩:=F
     have hok:spanOk ⟨P,C,O,R,G⟩=true:=by rw [<- hE]; exact HALL.out m (by omega)
     have hj:=l4Joins_any P C O R G P2 C2 O2 R2 G2
     have HK:Hid (∀ wX,Below wr.heap.size wr wX->(wX.cell? ⟨g,m * 5,none⟩=some (.int .i64 P)/\wX.cell? ⟨g,m * 5+1,none⟩=some (.int .i64 C)/\wX.cell? ⟨g,m * 5+2,none⟩=some (.int .i64 O)/\wX.cell? ⟨g,m * 5+3,none⟩=some (.int .i64 R)/\wX.cell? ⟨g,m * 5+4,none⟩=some (.bool G))/\(wX.cell? ⟨g,(m+1) * 5,none⟩=some (.int .i64 P2)/\wX.cell? ⟨g,(m+1) * 5+1,none⟩=some (.int .i64 C2)/\wX.cell? ⟨g,(m+1) * 5+2,none⟩=some (.int .i64 O2)/\wX.cell? ⟨g,(m+1) * 5+3,none⟩=some (.int .i64 R2)/\wX.cell? ⟨g,(m+1) * 5+4,none⟩=some (.bool G2))):=fun wX hX =>
      ⟨HCS.out m P C O R G (by omega) hE wX (hbw.trans (hX.mono hbw.size)),HCS.out (m+1) P2 C2 O2 R2 G2 hlt hF wX (hbw.trans (hX.mono hbw.size))⟩
     have HE:Hid (eAt eSpan xs m=_):=hE
     have HF:Hid (eAt eSpan xs (m+1)=_):=hF
     have HBW:Hid (Below w.heap.size w wr):=hbw
     have hk7:=spanOk_iff.1 hok
     dsimp only at hk7
     obtain ⟨t1,t2,t3,_⟩:=hk7
     have HOK:Hid (spanOk ⟨P,C,O,R,G⟩=true):=hok
     have L1:(0:Int)<=(m:Int):=by omega
     have L0:(0:Int)<=(m:Int)+1:=by omega
     have L2:(m:Int)+1 < (xs.length:Int):=by omega
     have L3:(m:Int) < (xs.length:Int):=by omega
     have W1:IntKind.i64.wrap ((m:Int)+1 - 1)=m:=by rw [IntKind.wrap_i64]; omega
     have W2:IntKind.i64.wrap (P+C)=P+C:=by rw [IntKind.wrap_i64]; omega
     have W3:IntKind.i64.wrap (m:Int)=m:=by rw [IntKind.wrap_i64]; omega
     clear hE hF hbw hok
     by_cases hlp:P2 < P+C
     ·have dl:decide (P2 < P+C)=true:=by simpa using hlp
      have HV:Hid (vsB xs=false):=vs_bad2 m hlt (by rw [HE.out,HF.out]; unfold pairOk; simp; intro h; omega)
      go_wp2_with fail
      refine wp_region_held_drew (S:=(fun wX=>(wX.cell? ⟨g,m * 5,none⟩=some (.int .i64 P)/\wX.cell? ⟨g,m * 5+1,none⟩=some (.int .i64 C)/\wX.cell? ⟨g,m * 5+2,none⟩=some (.int .i64 O)/\wX.cell? ⟨g,m * 5+3,none⟩=some (.int .i64 R)/\wX.cell? ⟨g,m * 5+4,none⟩=some (.bool G))/\(wX.cell? ⟨g,(m+1) * 5,none⟩=some (.int .i64 P2)/\wX.cell? ⟨g,(m+1) * 5+1,none⟩=some (.int .i64 C2)/\wX.cell? ⟨g,(m+1) * 5+2,none⟩=some (.int .i64 O2)/\wX.cell? ⟨g,(m+1) * 5+3,none⟩=some (.int .i64 R2)/\wX.cell? ⟨g,(m+1) * 5+4,none⟩=some (.bool G2)))) (by kernel_rfl) (HK.out _ ((Below.refl _ _).drew)) (fun hHeld=>?_)
      refine tk 0 ?_
      refine tk 1 ?_
      refine tk 2 ?_
      refine tk 3 ?_
      refine tk 4 ?_
      refine tk 5 ?_
      refine tk 6 ?_
      refine tk 7 ?_
      refine tk 8 ?_
      refine tk 9 ?_
      refine tk 10 ?_
      refine tk 11 ?_
      refine tk 12 ?_
      refine tk 13 ?_
      refine tk 14 ?_
      refine tk 15 ?_
      refine tk 16 ?_
      refine tk 17 ?_
      refine tk 18 ?_
      refine tk 19 ?_
      refine sk 20 ?_
      refine sk 21 ?_
      refine sk 22 ?_
      refine sk 23 ?_
      refine sk 24 ?_
      refine sk 25 ?_
      refine sk 26 ?_
      refine sk 27 ?_
      refine sk 28 ?_
      refine sk 29 ?_
      refine tk 30 ?_
      refine wpAnyH_done (by kernel_rfl) ?_ _
      go_wp2_with fail
      go_ret
      exact ⟨by rw [HV.out]; rfl,HBW.out.trans (((Below.refl _ _).drew).mono HBW.out.size)⟩
     ·have dl:decide (P2 < P+C)=false:=by simpa using hlp
      have hj':=fun wX=>hj wX HOK.out
      clear hj
      cases hjj:joinsB ⟨P,C,O,R,G⟩ ⟨P2,C2,O2,R2,G2⟩ <;> rw [hjj] at hj'
      ·have hj:=hj'
       have HPO:Hid (pairOk (eAt eSpan xs m) (eAt eSpan xs (m+1))=true):=by rw [HE.out,HF.out]; unfold pairOk; rw [hjj]; simp only [Bool.not_false,Bool.and_true,decide_eq_true_eq]; exact Int.not_lt.1 hlp
       clear hj' hjj
       go_wp2_with fail
       refine wp_region_held_drew (S:=(fun wX=>(wX.cell? ⟨g,m * 5,none⟩=some (.int .i64 P)/\wX.cell? ⟨g,m * 5+1,none⟩=some (.int .i64 C)/\wX.cell? ⟨g,m * 5+2,none⟩=some (.int .i64 O)/\wX.cell? ⟨g,m * 5+3,none⟩=some (.int .i64 R)/\wX.cell? ⟨g,m * 5+4,none⟩=some (.bool G))/\(wX.cell? ⟨g,(m+1) * 5,none⟩=some (.int .i64 P2)/\wX.cell? ⟨g,(m+1) * 5+1,none⟩=some (.int .i64 C2)/\wX.cell? ⟨g,(m+1) * 5+2,none⟩=some (.int .i64 O2)/\wX.cell? ⟨g,(m+1) * 5+3,none⟩=some (.int .i64 R2)/\wX.cell? ⟨g,(m+1) * 5+4,none⟩=some (.bool G2)))) (by kernel_rfl) (HK.out _ ((Below.refl _ _).drew)) (fun hHeld=>?_)
       refine tk 0 ?_
       refine tk 1 ?_
       refine tk 2 ?_
       refine tk 3 ?_
       refine tk 4 ?_
       refine tk 5 ?_
       refine tk 6 ?_
       refine tk 7 ?_
       refine tk 8 ?_
       refine tk 9 ?_
       refine tk 10 ?_
       refine tk 11 ?_
       refine tk 12 ?_
       refine tk 13 ?_
       refine tk 14 ?_
       refine tk 15 ?_
       refine tk 16 ?_
       refine tk 17 ?_
       refine tk 18 ?_
       refine tk 19 ?_
       refine tk 20 ?_
       refine tk 21 ?_
       refine tk 22 ?_
       refine tk 23 ?_
       refine tk 24 ?_
       refine tk 25 ?_
       refine tk 26 ?_
       refine tk 27 ?_
       refine tk 28 ?_
       refine wpAnyH_ready (rs:=[29]) (by kernel_rfl) (by simp) ?_
       refine AllReadyH.cons rfl (fun K hK=>?_) AllReadyH.nil
       go_simp
       go_at_call 59
       refine (hj _).mono ?_
       rintro e w1 ⟨rfl,hb1⟩
       go_wp2_with fail
       refine hK.out _ _ (by refine HK.out _ ?_; exact (Below.refl _ _).drew.trans (hb1.mono (by simp))) (fun hHeld2=>?_)
       clear hK K
       refine tk 30 ?_
       refine wpAnyH_done (by kernel_rfl) ?_ _
       go_wp2_with fail
       go_roundw
       case rel =>
        refine ⟨m+1+1,by omega,by omega,by go_num,fun j hj=>?_,HBW.out.trans (Below.mono ?_ HBW.out.size)⟩
        ·by_cases e:j=m
         ·rw [e]; exact HPO.out
         ·exact hall.out j (by omega)
        ·exact (Below.refl _ _).drew.trans (hb1.mono (by simp))
       case measure=>simp [intOf]; omega
      ·have hj:=hj'
       have HV:Hid (vsB xs=false):=vs_bad2 m hlt (by rw [HE.out,HF.out]; unfold pairOk; rw [hjj]; simp)
       clear hj' hjj
       go_wp2_with fail
       refine wp_region_held_drew (S:=(fun wX=>(wX.cell? ⟨g,m * 5,none⟩=some (.int .i64 P)/\wX.cell? ⟨g,m * 5+1,none⟩=some (.int .i64 C)/\wX.cell? ⟨g,m * 5+2,none⟩=some (.int .i64 O)/\wX.cell? ⟨g,m * 5+3,none⟩=some (.int .i64 R)/\wX.cell? ⟨g,m * 5+4,none⟩=some (.bool G))/\(wX.cell? ⟨g,(m+1) * 5,none⟩=some (.int .i64 P2)/\wX.cell? ⟨g,(m+1) * 5+1,none⟩=some (.int .i64 C2)/\wX.cell? ⟨g,(m+1) * 5+2,none⟩=some (.int .i64 O2)/\wX.cell? ⟨g,(m+1) * 5+3,none⟩=some (.int .i64 R2)/\wX.cell? ⟨g,(m+1) * 5+4,none⟩=some (.bool G2)))) (by kernel_rfl) (HK.out _ ((Below.refl _ _).drew)) (fun hHeld=>?_)
       refine tk 0 ?_
       refine tk 1 ?_
       refine tk 2 ?_
       refine tk 3 ?_
       refine tk 4 ?_
       refine tk 5 ?_
       refine tk 6 ?_
       refine tk 7 ?_
       refine tk 8 ?_
       refine tk 9 ?_
       refine tk 10 ?_
       refine tk 11 ?_
       refine tk 12 ?_
       refine tk 13 ?_
       refine tk 14 ?_
       refine tk 15 ?_
       refine tk 16 ?_
       refine tk 17 ?_
       refine tk 18 ?_
       refine tk 19 ?_
       refine tk 20 ?_
       refine tk 21 ?_
       refine tk 22 ?_
       refine tk 23 ?_
       refine tk 24 ?_
       refine tk 25 ?_
       refine tk 26 ?_
       refine tk 27 ?_
       refine tk 28 ?_
       refine wpAnyH_ready (rs:=[29]) (by kernel_rfl) (by simp) ?_
       refine AllReadyH.cons rfl (fun K hK=>?_) AllReadyH.nil
       go_simp
       go_at_call 59
       refine (hj _).mono ?_
       rintro e w1 ⟨rfl,hb1⟩
       go_wp2_with fail
       refine hK.out _ _ (by refine HK.out _ ?_; exact (Below.refl _ _).drew.trans (hb1.mono (by simp))) (fun hHeld2=>?_)
       clear hK K
       refine tk 30 ?_
       refine wpAnyH_done (by kernel_rfl) ?_ _
       go_wp2_with fail
       go_ret
       exact ⟨by rw [HV.out]; rfl,HBW.out.trans (((Below.refl _ _).drew.trans (hb1.mono (by simp))).mono HBW.out.size)⟩
    ·have HV:Hid (vsB xs=true):=vsB_true ⟨HALL.out,fun i hi=>hall.out i (by omega)⟩
     go_wp2_with fail
     go_ret
     exact ⟨by rw [HV.out]; rfl,hbw⟩
set_option maxHeartbeats 4000000 in
theorem implVS_any (a:Option Addr) (cap b:Nat) (xs:List SpanE) (w:World) (hn:xs.length<=1048576) (hwf:∀ i,i < xs.length->wfS (eAt eSpan xs i)) (h:ERow eSpan w b (.slice a xs.length cap) xs) :
  Calls Tryz.prog 44 #[.slice a xs.length cap] w fun e w'=>e=.returned (.bool (vsB xs))/\Below w.heap.size w w':=by
 obtain ⟨g,hg,hcs⟩:=spCells h
 have HG:Hid _:=hg
 have HCS:Hid _:=hcs
 have HWF:Hid _:=hwf
 clear h hg hcs hwf
 go_enter Tryz.func44,Tryz.ntmps44
 go_wp2_with fail
 go_loopw [7] (fun i wr=>∃ k:Nat,k<=xs.length/\i=.int .i64 k/\Hid (∀ j,j < k->spanOk (eAt eSpan xs j)=true)/\Hid (∀ j,j+1 < k->pairOk (eAt eSpan xs j) (eAt eSpan xs (j+1))=true)/\Below w.heap.size w wr) (fun i _=>xs.length - (intOf i).toNat)
 case atStart=>exact ⟨0,Nat.zero_le _,rfl,fun j hj=>absurd hj (by omega),fun j hj=>absurd hj (by omega),Below.refl _ _⟩
 case round =>
  obtain ⟨k,hk,rfl,hall,hpair,hbw⟩:=hrel
  by_cases hlt:k < xs.length
  ·obtain ⟨rfl,hgl⟩:=HG.out (by omega)
   obtain ⟨F,hF⟩:∃ F,eAt eSpan xs k=F:=⟨_,rfl⟩
   obtain ⟨P2,C2,O2,R2,G2⟩:=F
   obtain ⟨c0,c1,c2,c3,c4⟩:=HCS.out k P2 C2 O2 R2 G2 hlt hF wr hbw
   have hsw:=hbw.size
   obtain ⟨wb,hwb⟩:∃ wb,wb=wr.alloc (.cells #[.int .i64 P2,.int .i64 C2,.int .i64 O2,.int .i64 R2,.bool G2] 81):=⟨_,rfl⟩
   have hzb:wb.heap.size=wr.heap.size+1:=by rw [hwb]; simp
   have hbb:Below w.heap.size w wb:=by rw [hwb]; exact hbw.alloc hsw _
   have hv:=validSpan_any P2 C2 O2 R2 G2 wb (by rw [<- hF]; exact HWF.out k hlt)
   have HBX:Hid (∀ wX,Below wb.heap.size wb wX->wX.cell? ⟨wr.heap.size,0,none⟩=some (.int .i64 P2)/\wX.cell? ⟨wr.heap.size,1,none⟩=some (.int .i64 C2)/\wX.cell? ⟨wr.heap.size,2,none⟩=some (.int .i64 O2)/\wX.cell? ⟨wr.heap.size,3,none⟩=some (.int .i64 R2)/\wX.cell? ⟨wr.heap.size,4,none⟩=some (.bool G2)):=fun wX hX=>by
    refine ⟨?_,?_,?_,?_,?_⟩
    iterate 5 (exact (hX.cell (by simp; omega)).trans (by rw [hwb]; simp [go_sem]))
   rw [hwb] at hv
   have HWB:Hid (wb=_):=hwb
   have HBB:Hid (Below w.heap.size w wb):=hbb
   have HZ:Hid (wb.heap.size=_):=hzb
   have HF:Hid (eAt eSpan xs k=_):=hF
   have L1:(0:Int)<=(k:Int):=by omega
   have L2:(k:Int) < (xs.length:Int):=by omega
   clear hF hbw hwb hbb hzb
   cases hok2:spanOk ⟨P2,C2,O2,R2,G2⟩ <;> rw [hok2] at hv
   ·have HV:Hid (vsB xs=false):=vs_bad1 k hlt (by rw [HF.out]; exact hok2)
    clear hok2
    go_wp2_with (go_at_call 66; refine hv.mono ?_; rintro e w1 ⟨rfl,hb1⟩)
    go_ret
    refine ⟨by rw [HV.out]; rfl,?_⟩
    rw [<- HWB.out] at hb1
    exact HBB.out.trans (hb1.mono HBB.out.size)
   ·have HOK2:Hid (spanOk ⟨P2,C2,O2,R2,G2⟩=true):=hok2
    clear hok2
    go_wp2_with (go_at_call 66; refine hv.mono ?_; rintro e w1 ⟨rfl,hb1⟩)
    rw [<- HWB.out] at hb1
    have b1:Below w.heap.size w w1:=HBB.out.trans (hb1.mono HBB.out.size)
    have HB1:Hid (Below w.heap.size w w1):=b1
    have HK1:Hid (∀ wX,Below w1.heap.size w1 wX->wX.cell? ⟨wr.heap.size,0,none⟩=some (.int .i64 P2)/\wX.cell? ⟨wr.heap.size,1,none⟩=some (.int .i64 C2)/\wX.cell? ⟨wr.heap.size,2,none⟩=some (.int .i64 O2)/\wX.cell? ⟨wr.heap.size,3,none⟩=some (.int .i64 R2)/\wX.cell? ⟨wr.heap.size,4,none⟩=some (.bool G2)):=fun wX hX=>HBX.out wX (hb1.trans (hX.mono hb1.size))
    have hs1:=b1.size
    clear hv c0 c1 c2 c3 c4
    rcases Nat.eq_zero_or_pos k with hk0 | hk0
    ·subst hk0
     have HK:Hid (∀ wX,Below w1.heap.size w1 wX->wX.cell? ⟨wr.heap.size,0,none⟩=some (.int .i64 P2)/\wX.cell? ⟨wr.heap.size,1,none⟩=some (.int .i64 C2)/\wX.cell? ⟨wr.heap.size,2,none⟩=some (.int .i64 O2)/\wX.cell? ⟨wr.heap.size,3,none⟩=some (.int .i64 R2)/\wX.cell? ⟨wr.heap.size,4,none⟩=some (.bool G2)):=HK1
     clear hb1 b1
     refine wp_region_held_drew (S:=(fun wX=>wX.cell? ⟨wr.heap.size,0,none⟩=some (.int .i64 P2)/\wX.cell? ⟨wr.heap.size,1,none⟩=some (.int .i64 C2)/\wX.cell? ⟨wr.heap.size,2,none⟩=some (.int .i64 O2)/\wX.cell? ⟨wr.heap.size,3,none⟩=some (.int .i64 R2)/\wX.cell? ⟨wr.heap.size,4,none⟩=some (.bool G2))) (by kernel_rfl) (HK.out _ ((Below.refl _ _).drew)) (fun hHeld=>?_)
     refine tk 0 ?_
     refine tk 1 ?_
     refine tk 2 ?_
     refine sk 3 ?_
     refine sk 4 ?_
     refine sk 5 ?_
     refine sk 6 ?_
     refine sk 7 ?_
     refine sk 8 ?_
     refine sk 9 ?_
     refine sk 10 ?_
     refine sk 11 ?_
     refine sk 12 ?_
     refine sk 13 ?_
     refine sk 14 ?_
     refine sk 15 ?_
     refine sk 16 ?_
     refine sk 17 ?_
     refine sk 18 ?_
     refine sk 19 ?_
     refine sk 20 ?_
     refine tk 21 ?_
     refine wpAnyH_done (by kernel_rfl) ?_ _
     go_wp2_with fail
     go_roundw
     case rel =>
      refine ⟨0+1,by omega,by go_num,fun j hj=>?_,fun j hj=>absurd hj (by omega),HB1.out.trans ((Below.refl _ _).drew.mono hs1)⟩
      obtain rfl:j=0:=by omega
      rw [HF.out]; exact HOK2.out
     case measure=>simp [intOf]; omega
    ·obtain ⟨m,rfl⟩:∃ m,k=m+1:=⟨k - 1,by omega⟩
     obtain ⟨E,hE⟩:∃ E,eAt eSpan xs m=E:=⟨_,rfl⟩
     obtain ⟨P,C,O,R,G⟩:=E
     have hok:spanOk ⟨P,C,O,R,G⟩=true:=by rw [<- hE]; exact hall.out m (by omega)
     have hk7:=spanOk_iff.1 hok
     dsimp only at hk7
     obtain ⟨t1,t2,t3,_⟩:=hk7
     have hse:=spanEnd_any P C O R G (by omega) (by omega) (by omega) (by omega)
     have hj0:=fun wX=>joins_any P C O R G P2 C2 O2 R2 G2 wX hok
     have HK:Hid (∀ wX,Below w1.heap.size w1 wX->(wX.cell? ⟨wr.heap.size,0,none⟩=some (.int .i64 P2)/\wX.cell? ⟨wr.heap.size,1,none⟩=some (.int .i64 C2)/\wX.cell? ⟨wr.heap.size,2,none⟩=some (.int .i64 O2)/\wX.cell? ⟨wr.heap.size,3,none⟩=some (.int .i64 R2)/\wX.cell? ⟨wr.heap.size,4,none⟩=some (.bool G2))/\(wX.cell? ⟨g,m * 5,none⟩=some (.int .i64 P)/\wX.cell? ⟨g,m * 5+1,none⟩=some (.int .i64 C)/\wX.cell? ⟨g,m * 5+2,none⟩=some (.int .i64 O)/\wX.cell? ⟨g,m * 5+3,none⟩=some (.int .i64 R)/\wX.cell? ⟨g,m * 5+4,none⟩=some (.bool G))):=fun wX hX =>
      ⟨HK1.out wX hX,HCS.out m P C O R G (by omega) hE wX (b1.trans (hX.mono hs1))⟩
     have HE:Hid (eAt eSpan xs m=_):=hE
     have HOK:Hid (spanOk ⟨P,C,O,R,G⟩=true):=hok
     have L0:(0:Int)<=(m:Int)+1:=by omega
     have L3:(0:Int)<=(m:Int):=by omega
     have L4:(m:Int) < (xs.length:Int):=by omega
     have L5:(0:Int) < (m:Int)+1:=by omega
     have D5:decide ((0:Int) < (m:Int)+1)=true:=decide_eq_true L5
     have W1:IntKind.i64.wrap ((m:Int)+1 - 1)=m:=by rw [IntKind.wrap_i64]; omega
     have W3:IntKind.i64.wrap (m:Int)=m:=by rw [IntKind.wrap_i64]; omega
     clear hE hok hb1 b1
     by_cases hlp:P2 < P+C
     ·have dl:decide (P2 < P+C)=true:=by simpa using hlp
      have HV:Hid (vsB xs=false):=vs_bad2 m hlt (by rw [HE.out,HF.out]; unfold pairOk; simp; intro h; omega)
      clear hj0
      refine wp_region_held_drew (S:=(fun wX=>(wX.cell? ⟨wr.heap.size,0,none⟩=some (.int .i64 P2)/\wX.cell? ⟨wr.heap.size,1,none⟩=some (.int .i64 C2)/\wX.cell? ⟨wr.heap.size,2,none⟩=some (.int .i64 O2)/\wX.cell? ⟨wr.heap.size,3,none⟩=some (.int .i64 R2)/\wX.cell? ⟨wr.heap.size,4,none⟩=some (.bool G2))/\(wX.cell? ⟨g,m * 5,none⟩=some (.int .i64 P)/\wX.cell? ⟨g,m * 5+1,none⟩=some (.int .i64 C)/\wX.cell? ⟨g,m * 5+2,none⟩=some (.int .i64 O)/\wX.cell? ⟨g,m * 5+3,none⟩=some (.int .i64 R)/\wX.cell? ⟨g,m * 5+4,none⟩=some (.bool G)))) (by kernel_rfl) (HK.out _ ((Below.refl _ _).drew)) (fun hHeld=>?_)
      refine tk 0 ?_
      refine tk 1 ?_
      refine tk 2 ?_
      refine tk 3 ?_
      refine tk 4 ?_
      refine tk 5 ?_
      refine tk 6 ?_
      refine tk 7 ?_
      refine tk 8 ?_
      refine tk 9 ?_
      refine wpAnyH_ready (rs:=[10]) (by kernel_rfl) (by simp) ?_
      refine AllReadyH.cons rfl (fun K hK=>?_) AllReadyH.nil
      go_simp
      go_at_call 67
      refine (hse _).mono ?_
      rintro e w2 ⟨rfl,hb2⟩
      go_wp2_with fail
      refine hK.out _ _ (by refine HK.out _ ?_; exact (Below.refl _ _).drew.trans (hb2.mono (by simp))) (fun hHeld2=>?_)
      clear hK K
      refine tk 11 ?_
      refine tk 12 ?_
      refine sk 13 ?_
      refine sk 14 ?_
      refine sk 15 ?_
      refine sk 16 ?_
      refine sk 17 ?_
      refine sk 18 ?_
      refine sk 19 ?_
      refine tk 20 ?_
      refine tk 21 ?_
      refine wpAnyH_done (by kernel_rfl) ?_ _
      go_wp2_with fail
      go_ret
      exact ⟨by rw [HV.out]; rfl,HB1.out.trans (((Below.refl _ _).drew.trans (hb2.mono (by simp))).mono hs1)⟩
     ·have dl:decide (P2 < P+C)=false:=by simpa using hlp
      cases hjj:joinsB ⟨P,C,O,R,G⟩ ⟨P2,C2,O2,R2,G2⟩ <;> rw [hjj] at hj0
      ·have hj:=hj0
       have HPO:Hid (pairOk (eAt eSpan xs m) (eAt eSpan xs (m+1))=true):=by rw [HE.out,HF.out]; unfold pairOk; rw [hjj]; simp only [Bool.not_false,Bool.and_true,decide_eq_true_eq]; exact Int.not_lt.1 hlp
       clear hj0 hjj
       refine wp_region_held_drew (S:=(fun wX=>(wX.cell? ⟨wr.heap.size,0,none⟩=some (.int .i64 P2)/\wX.cell? ⟨wr.heap.size,1,none⟩=some (.int .i64 C2)/\wX.cell? ⟨wr.heap.size,2,none⟩=some (.int .i64 O2)/\wX.cell? ⟨wr.heap.size,3,none⟩=some (.int .i64 R2)/\wX.cell? ⟨wr.heap.size,4,none⟩=some (.bool G2))/\(wX.cell? ⟨g,m * 5,none⟩=some (.int .i64 P)/\wX.cell? ⟨g,m * 5+1,none⟩=some (.int .i64 C)/\wX.cell? ⟨g,m * 5+2,none⟩=some (.int .i64 O)/\wX.cell? ⟨g,m * 5+3,none⟩=some (.int .i64 R)/\wX.cell? ⟨g,m * 5+4,none⟩=some (.bool G)))) (by kernel_rfl) (HK.out _ ((Below.refl _ _).drew)) (fun hHeld=>?_)
       refine tk 0 ?_
       refine tk 1 ?_
       refine tk 2 ?_
       refine tk 3 ?_
       refine tk 4 ?_
       refine tk 5 ?_
       refine tk 6 ?_
       refine tk 7 ?_
       refine tk 8 ?_
       refine tk 9 ?_
       refine wpAnyH_ready (rs:=[10]) (by kernel_rfl) (by simp) ?_
       refine AllReadyH.cons rfl (fun K hK=>?_) AllReadyH.nil
       go_simp
       go_at_call 67
       refine (hse _).mono ?_
       rintro e w2 ⟨rfl,hb2⟩
       go_wp2_with fail
       refine hK.out _ _ (by refine HK.out _ ?_; exact (Below.refl _ _).drew.trans (hb2.mono (by simp))) (fun hHeld2=>?_)
       clear hK K
       refine tk 11 ?_
       refine tk 12 ?_
       refine tk 13 ?_
       refine tk 14 ?_
       refine tk 15 ?_
       refine tk 16 ?_
       refine tk 17 ?_
       refine tk 18 ?_
       refine wpAnyH_ready (rs:=[19]) (by kernel_rfl) (by simp) ?_
       refine AllReadyH.cons rfl (fun K hK=>?_) AllReadyH.nil
       go_simp
       go_at_call 68
       refine (hj _).mono ?_
       rintro e w3 ⟨rfl,hb3⟩
       go_wp2_with fail
       refine hK.out _ _ (by refine HK.out _ ?_; exact ((Below.refl _ _).drew.trans (hb2.mono (by simp))).trans (hb3.mono (by have:=hb2.size; simp at this; omega))) (fun hHeld2=>?_)
       clear hK K
       refine tk 20 ?_
       refine tk 21 ?_
       refine wpAnyH_done (by kernel_rfl) ?_ _
       go_wp2_with fail
       go_roundw
       case rel =>
        refine ⟨m+1+1,by omega,by go_num,fun j hj=>?_,fun j hj=>?_,HB1.out.trans (Below.mono ?_ hs1)⟩
        ·by_cases e:j=m+1
         ·rw [e,HF.out]; exact HOK2.out
         ·exact hall.out j (by omega)
        ·by_cases e:j=m
         ·rw [e]; exact HPO.out
         ·exact hpair.out j (by omega)
        ·exact ((Below.refl _ _).drew.trans (hb2.mono (by simp))).trans (hb3.mono (by have:=hb2.size; simp at this; omega))
       case measure=>simp [intOf]; omega
      ·have hj:=hj0
       have HV:Hid (vsB xs=false):=vs_bad2 m hlt (by rw [HE.out,HF.out]; unfold pairOk; rw [hjj]; simp)
       clear hj0 hjj
       refine wp_region_held_drew (S:=(fun wX=>(wX.cell? ⟨wr.heap.size,0,none⟩=some (.int .i64 P2)/\wX.cell? ⟨wr.heap.size,1,none⟩=some (.int .i64 C2)/\wX.cell? ⟨wr.heap.size,2,none⟩=some (.int .i64 O2)/\wX.cell? ⟨wr.heap.size,3,none⟩=some (.int .i64 R2)/\wX.cell? ⟨wr.heap.size,4,none⟩=some (.bool G2))/\(wX.cell? ⟨g,m * 5,none⟩=some (.int .i64 P)/\wX.cell? ⟨g,m * 5+1,none⟩=some (.int .i64 C)/\wX.cell? ⟨g,m * 5+2,none⟩=some (.int .i64 O)/\wX.cell? ⟨g,m * 5+3,none⟩=some (.int .i64 R)/\wX.cell? ⟨g,m * 5+4,none⟩=some (.bool G)))) (by kernel_rfl) (HK.out _ ((Below.refl _ _).drew)) (fun hHeld=>?_)
       refine tk 0 ?_
       refine tk 1 ?_
       refine tk 2 ?_
       refine tk 3 ?_
       refine tk 4 ?_
       refine tk 5 ?_
       refine tk 6 ?_
       refine tk 7 ?_
       refine tk 8 ?_
       refine tk 9 ?_
       refine wpAnyH_ready (rs:=[10]) (by kernel_rfl) (by simp) ?_
       refine AllReadyH.cons rfl (fun K hK=>?_) AllReadyH.nil
       go_simp
       go_at_call 67
       refine (hse _).mono ?_
       rintro e w2 ⟨rfl,hb2⟩
       go_wp2_with fail
       refine hK.out _ _ (by refine HK.out _ ?_; exact (Below.refl _ _).drew.trans (hb2.mono (by simp))) (fun hHeld2=>?_)
       clear hK K
       refine tk 11 ?_
       refine tk 12 ?_
       refine tk 13 ?_
       refine tk 14 ?_
       refine tk 15 ?_
       refine tk 16 ?_
       refine tk 17 ?_
       refine tk 18 ?_
       refine wpAnyH_ready (rs:=[19]) (by kernel_rfl) (by simp) ?_
       refine AllReadyH.cons rfl (fun K hK=>?_) AllReadyH.nil
       go_simp
       go_at_call 68
       refine (hj _).mono ?_
       rintro e w3 ⟨rfl,hb3⟩
       go_wp2_with fail
       refine hK.out _ _ (by refine HK.out _ ?_; exact ((Below.refl _ _).drew.trans (hb2.mono (by simp))).trans (hb3.mono (by have:=hb2.size; simp at this; omega))) (fun hHeld2=>?_)
       clear hK K
       refine tk 20 ?_
       refine tk 21 ?_
       refine wpAnyH_done (by kernel_rfl) ?_ _
       go_wp2_with fail
       go_ret
       exact ⟨by rw [HV.out]; rfl,HB1.out.trans ((((Below.refl _ _).drew.trans (hb2.mono (by simp))).trans (hb3.mono (by have:=hb2.size; simp at this; omega))).mono hs1)⟩
  ·have HV:Hid (vsB xs=true):=vsB_true ⟨fun i hi=>hall.out i (by omega),fun i hi=>hpair.out i (by omega)⟩
   go_wp2_with fail
   go_ret
   exact ⟨by rw [HV.out]; rfl,hbw⟩
end Go.Proofs.YtnmhkgmmpkjjeacGreat
