import Derived.Test.YtnmhkgmmpkjjeaaGreatG04
import Derived.Deep.DeepCutAuto
namespace Go.Proofs.YtnmhkgmmpkjjeaaGreat
open Go.ChangeShapes Go.WideShapes Go.ChangeAt Go.RowKit
set_option linter.unusedVariables false
attribute [local go_sem ↓] Go.wp_at_zero Go.wp_at_succ
set_option maxHeartbeats 4000000 in
theorem l4At_any (a:Option Addr) (cap b:Nat) (xs:List SpanE) (page:Int) (w:World) (hn:xs.length<=1048576) (hvs:VS xs) (hp0:0<=page) (hp1:page < 4096) (h:ERow eSpan w b (.slice a xs.length cap) xs) :
  Calls Tryz.prog 60 #[.slice a xs.length cap,.int .i64 page] w fun e w'=>e=.returned (.agg #[.int .i64 (atL xs page).k,.int .i64 (atL xs page).o,.int .i64 (atL xs page).p,.int .i64 (atL xs page).s])/\Below w.heap.size w w':=by
 obtain ⟨g,hg,hcs⟩:=spCells h
 obtain ⟨wb,hwb⟩:∃ wb,wb=w.alloc (.cells #[.int .i64 0,.int .i64 0,.int .i64 0,.int .i64 0] 56):=⟨_,rfl⟩
 have hbb:Below w.heap.size w wb:=by rw [hwb]; exact (Below.refl _ _).alloc (Nat.le_refl _) _
 have hzb:wb.heap.size=w.heap.size+1:=by rw [hwb]; simp
 have HRS:Hid (∀ wX,Below wb.heap.size wb wX->(wX.cell? ⟨w.heap.size,0,none⟩=some (.int .i64 0)/\wX.cell? ⟨w.heap.size,1,none⟩=some (.int .i64 0)/\wX.cell? ⟨w.heap.size,2,none⟩=some (.int .i64 0)/\wX.cell? ⟨w.heap.size,3,none⟩=some (.int .i64 0))/\wX.frozen? ⟨w.heap.size,0,none⟩=false/\wX.frozen? ⟨w.heap.size,1,none⟩=false/\wX.frozen? ⟨w.heap.size,2,none⟩=false/\wX.frozen? ⟨w.heap.size,3,none⟩=false):=fun wX hX=>by
  refine ⟨⟨?_,?_,?_,?_⟩,?_,?_,?_,?_⟩
  iterate 4 (exact (hX.cell (by simp; omega)).trans (by rw [hwb]; simp [go_sem]))
  iterate 4 (exact (hX.frozen (by simp; omega)).trans (by rw [hwb]; simp [go_sem]))
 have HG:Hid _:=hg
 have HCS:Hid _:=hcs
 have HVS:Hid _:=hvs
 have HWB:Hid (wb=_):=hwb
 have HBB:Hid (Below w.heap.size w wb):=hbb
 have HZ:Hid (wb.heap.size=w.heap.size+1):=hzb
 clear h hg hcs hvs hwb hbb hzb
 go_enter Tryz.func60,Tryz.ntmps60
 go_wp2_with fail
 rw [<- HWB.out]
 go_loopw [5] (fun i wr=>∃ k:Nat,k<=xs.length/\i=.int .i64 k/\Hid (∀ j,j < k->inS (eAt eSpan xs j) page=false)/\Below wb.heap.size wb wr) (fun i _=>xs.length - (intOf i).toNat)
 case atStart=>exact ⟨0,Nat.zero_le _,rfl,fun j hj=>absurd hj (by omega),Below.refl _ _⟩
 case round =>
  obtain ⟨k,hk,rfl,hall,hbw⟩:=hrel
  by_cases hlt:k < xs.length
  ·obtain ⟨rfl,hgl⟩:=HG.out (by omega)
   obtain ⟨E,hE⟩:∃ E,eAt eSpan xs k=E:=⟨_,rfl⟩
   obtain ⟨P,C,O,R,G⟩:=E
   have hok:spanOk ⟨P,C,O,R,G⟩=true:=by rw [<- hE]; exact HVS.out.1 k hlt
   have hk7:=spanOk_iff.1 hok
   dsimp only at hk7
   obtain ⟨t1,t2,t3,t4,t5,_⟩:=hk7
   have HK:Hid (∀ wX,Below wr.heap.size wr wX->wX.cell? ⟨g,k * 5,none⟩=some (.int .i64 P)/\wX.cell? ⟨g,k * 5+1,none⟩=some (.int .i64 C)/\wX.cell? ⟨g,k * 5+2,none⟩=some (.int .i64 O)/\wX.cell? ⟨g,k * 5+3,none⟩=some (.int .i64 R)/\wX.cell? ⟨g,k * 5+4,none⟩=some (.bool G)):=fun wX hX=>HCS.out k P C O R G hlt hE wX (HBB.out.trans ((hbw.trans (hX.mono hbw.size)).mono (by have:=HZ.out; omega)))
   have HE:Hid (eAt eSpan xs k=_):=hE
   have HOK:Hid (spanOk ⟨P,C,O,R,G⟩=true):=hok
   have HBW:Hid (Below wb.heap.size wb wr):=hbw
   have L1:(0:Int)<=(k:Int):=by omega
   have L2:(k:Int) < (xs.length:Int):=by omega
   have W0:IntKind.i64.wrap (P+C)=P+C:=by rw [IntKind.wrap_i64]; omega
   have W1:IntKind.i64.wrap (O+page)=O+page:=by rw [IntKind.wrap_i64]; omega
   have W2:IntKind.i64.wrap (O+page - P)=O+page - P:=by rw [IntKind.wrap_i64]; omega
   clear hE hok hbw
   by_cases h1:P<=page
   ·have d1:decide (P<=page)=true:=decide_eq_true h1
    by_cases h2:page < P+C
    ·have d2:decide (page < P+C)=true:=decide_eq_true h2
     have HHIT:Hid (atL xs page=hitS ⟨P,C,O,R,G⟩ page):=by
      have:=at_hit page xs k hlt hall.out (by rw [HE.out]; unfold inS; exact decide_eq_true ⟨h1,h2⟩)
      rwa [HE.out] at this
     go_wp2_with fail
     refine wp_region_held_drew (S:=(fun wX=>wX.cell? ⟨g,k * 5,none⟩=some (.int .i64 P)/\wX.cell? ⟨g,k * 5+1,none⟩=some (.int .i64 C)/\wX.cell? ⟨g,k * 5+2,none⟩=some (.int .i64 O)/\wX.cell? ⟨g,k * 5+3,none⟩=some (.int .i64 R)/\wX.cell? ⟨g,k * 5+4,none⟩=some (.bool G))) (by kernel_rfl) (HK.out _ ((Below.refl _ _).drew)) (fun hHeld=>?_)
     refine tk 0 ?_
     refine tk 1 ?_
     refine tk 2 ?_
     refine tk 3 ?_
     refine tk 4 ?_
     refine tk 5 ?_
     refine tk 6 ?_
     refine tk 7 ?_
     refine tk 8 ?_
     refine tk 9 ?_
     refine tk 10 ?_
     refine tk 11 ?_
     refine tk 12 ?_
     refine tk 13 ?_
     refine tk 14 ?_
     refine tk 15 ?_
     refine tk 16 ?_
     refine tk 17 ?_
     refine tk 18 ?_
     refine tk 19 ?_
     refine tk 20 ?_
     refine tk 21 ?_
     refine wpAnyH_done (by kernel_rfl) ?_ _
     go_wp2_with fail
     obtain ⟨wa,hwa⟩:∃ wa,wa=wr.drew:=⟨_,rfl⟩
     rw [<- hwa]
     have HAR:Hid (Below wr.heap.size wr wa):=by rw [hwa]; exact (Below.refl _ _).drew
     have HKA:Hid (∀ wX,Below wa.heap.size wa wX->wX.cell? ⟨g,k * 5,none⟩=some (.int .i64 P)/\wX.cell? ⟨g,k * 5+1,none⟩=some (.int .i64 C)/\wX.cell? ⟨g,k * 5+2,none⟩=some (.int .i64 O)/\wX.cell? ⟨g,k * 5+3,none⟩=some (.int .i64 R)/\wX.cell? ⟨g,k * 5+4,none⟩=some (.bool G)):=fun wX hX=>HK.out wX (HAR.out.trans (hX.mono HAR.out.size))
     have HBA:Hid (Below wb.heap.size wb wa):=HBW.out.trans (HAR.out.mono HBW.out.size)
     clear hwa hHeld
     go_cut [6] (fun d wx=>∃ Z,d=.pointer (some ⟨Z,0,none⟩)/\(wx.cell? ⟨Z,0,none⟩=some (.int .i64 1)/\wx.cell? ⟨Z,1,none⟩=some (.int .i64 (O+page - P))/\wx.cell? ⟨Z,2,none⟩=some (.int .i64 R)/\wx.cell? ⟨Z,3,none⟩=some (.int .i64 1))/\wx.frozen? ⟨Z,3,none⟩=false/\wa.heap.size<=Z/\Z < wx.heap.size/\Below wa.heap.size wa wx)
     case first =>
      go_region_held3 (fun wX=>wX.cell? ⟨g,k * 5,none⟩=some (.int .i64 P)/\wX.cell? ⟨g,k * 5+1,none⟩=some (.int .i64 C)/\wX.cell? ⟨g,k * 5+2,none⟩=some (.int .i64 O)/\wX.cell? ⟨g,k * 5+3,none⟩=some (.int .i64 R)/\wX.cell? ⟨g,k * 5+4,none⟩=some (.bool G))
       ((refine HKA.out _ ?_; repeat (first | exact Below.refl _ _ | with_reducible refine Below.drew ?_ | with_reducible refine Below.setCell ?_ (by first | omega | (simp <;> omega)) _ | with_reducible refine Below.alloc ?_ (by first | omega | (simp <;> omega)) _))) (fail)
      all_goals
       go_wp2_with fail
       go_meet
       case rel =>
        refine ⟨_,rfl,⟨?_,?_,?_,?_⟩,?_,?_,?_,?_⟩
        ·simp [go_sem]
        ·simp [go_sem]
        ·simp [go_sem]
        ·simp [go_sem]
        ·simp [go_sem]
        ·first | omega | (simp <;> omega)
        ·first | omega | (simp <;> omega)
        ·repeat (first | exact Below.refl _ _ | with_reducible refine Below.drew ?_ | with_reducible refine Below.setCell ?_ (by first | omega | (simp <;> omega)) _ | with_reducible refine Below.alloc ?_ (by first | omega | (simp <;> omega)) _)
     case rest =>
      obtain ⟨wx,rfl⟩:∃ wx:World,wx=wc:=⟨_,rfl⟩
      obtain ⟨Z,rfl,hzc,hzf,hZ1,hZ2,hbx⟩:=hcut
      have HZC:Hid (∀ wX,Below wx.heap.size wx wX->(wX.cell? ⟨Z,0,none⟩=some (.int .i64 1)/\wX.cell? ⟨Z,1,none⟩=some (.int .i64 (O+page - P))/\wX.cell? ⟨Z,2,none⟩=some (.int .i64 R)/\wX.cell? ⟨Z,3,none⟩=some (.int .i64 1))/\wX.frozen? ⟨Z,3,none⟩=false):=fun wX hX=>⟨⟨(hX.cell hZ2).trans hzc.1,(hX.cell hZ2).trans hzc.2.1,(hX.cell hZ2).trans hzc.2.2.1,(hX.cell hZ2).trans hzc.2.2.2⟩,(hX.frozen hZ2).trans hzf⟩
      have HBX:Hid (Below wb.heap.size wb wx):=HBA.out.trans (hbx.mono HBA.out.size)
      have N0:w.heap.size < wx.heap.size:=by have:=HBX.out.size; have:=HZ.out; omega
      have N1:w.heap.size ≠ Z:=by have:=HBA.out.size; have:=HZ.out; omega
      have hbig:=l4Big_any P C O R G page
      have hbg:=fun wX=>hbig wX HOK.out hp0 hp1
      clear hzc hzf hbig
      obtain ⟨c0,c1,c2,c3,c4⟩:=HK.out wx (HAR.out.trans (hbx.mono HAR.out.size))
      have HX2:Hid True:=trivial
      cases hbb2:bigB ⟨P,C,O,R,G⟩ page <;> simp only [hbb2] at hbg
      ·go_wp2_with fail
       refine (hbg _).mono ?_
       rintro e w2 ⟨rfl,hb2⟩
       have HB2:Hid (Below wb.heap.size wb w2):=HBX.out.trans (hb2.mono HBX.out.size)
       obtain ⟨⟨z0,z1,z2,z3⟩,zf⟩:=HZC.out w2 hb2
       obtain ⟨⟨r0,r1,r2,r3⟩,f0,f1,f2,f3⟩:=HRS.out w2 HB2.out
       have HSZ:Hid (Z < w2.heap.size):=Nat.lt_of_lt_of_le hZ2 hb2.size
       have HAT:Hid (atL xs page=⟨1,O+page - P,R,1⟩):=by rw [HHIT.out]; unfold hitS; rw [hbb2]; rfl
       clear hb2 hbb2
       go_wp2_with fail
       refine bodyPost_ret (v:=.agg #[.int .i64 1,.int .i64 (O+page - P),.int .i64 R,.int .i64 1]) (by simp [results,Tryz.results60,go_sem,r0,r1,r2,r3]) rfl ⟨by rw [HAT.out],?_⟩
       have B2:Below w.heap.size w w2:=HBB.out.trans (HB2.out.mono (by have:=HZ.out; omega))
       have zl:w.heap.size<=Z:=by have:=HBA.out.size; have:=HZ.out; omega
       repeat (first | exact B2 | refine Below.setCell ?_ (by first | exact zl | exact Nat.le_refl _ | (dsimp only; omega)) _)
      ·go_wp2_with fail
       refine (hbg _).mono ?_
       rintro e w2 ⟨rfl,hb2⟩
       have HB2:Hid (Below wb.heap.size wb w2):=HBX.out.trans (hb2.mono HBX.out.size)
       obtain ⟨⟨z0,z1,z2,z3⟩,zf⟩:=HZC.out w2 hb2
       obtain ⟨⟨r0,r1,r2,r3⟩,f0,f1,f2,f3⟩:=HRS.out w2 HB2.out
       have HSZ:Hid (Z < w2.heap.size):=Nat.lt_of_lt_of_le hZ2 hb2.size
       have HAT:Hid (atL xs page=⟨1,O+page - P,R,16⟩):=by rw [HHIT.out]; unfold hitS; rw [hbb2]; rfl
       clear hb2 hbb2
       go_wp2_with fail
       refine bodyPost_ret (v:=.agg #[.int .i64 1,.int .i64 (O+page - P),.int .i64 R,.int .i64 16]) (by simp [results,Tryz.results60,go_sem,r0,r1,r2,r3]) rfl ⟨by rw [HAT.out],?_⟩
       have B2:Below w.heap.size w w2:=HBB.out.trans (HB2.out.mono (by have:=HZ.out; omega))
       have zl:w.heap.size<=Z:=by have:=HBA.out.size; have:=HZ.out; omega
       repeat (first | exact B2 | refine Below.setCell ?_ (by first | exact zl | exact Nat.le_refl _ | (dsimp only; omega)) _)
    ·have d2:decide (page < P+C)=false:=decide_eq_false h2
     have HIN:Hid (inS (eAt eSpan xs k) page=false):=by rw [HE.out]; unfold inS; exact decide_eq_false (fun h=>h2 h.2)
     go_wp2_with fail
     refine wp_region_held_drew (S:=(fun wX=>wX.cell? ⟨g,k * 5,none⟩=some (.int .i64 P)/\wX.cell? ⟨g,k * 5+1,none⟩=some (.int .i64 C)/\wX.cell? ⟨g,k * 5+2,none⟩=some (.int .i64 O)/\wX.cell? ⟨g,k * 5+3,none⟩=some (.int .i64 R)/\wX.cell? ⟨g,k * 5+4,none⟩=some (.bool G))) (by kernel_rfl) (HK.out _ ((Below.refl _ _).drew)) (fun hHeld=>?_)
     refine tk 0 ?_
     refine tk 1 ?_
     refine tk 2 ?_
     refine tk 3 ?_
     refine tk 4 ?_
     refine tk 5 ?_
     refine tk 6 ?_
     refine tk 7 ?_
     refine tk 8 ?_
     refine tk 9 ?_
     refine tk 10 ?_
     refine tk 11 ?_
     refine tk 12 ?_
     refine tk 13 ?_
     refine tk 14 ?_
     refine tk 15 ?_
     refine tk 16 ?_
     refine tk 17 ?_
     refine tk 18 ?_
     refine tk 19 ?_
     refine tk 20 ?_
     refine tk 21 ?_
     refine wpAnyH_done (by kernel_rfl) ?_ _
     go_wp2_with fail
     go_roundw
     case rel =>
      refine ⟨k+1,by omega,by go_num,fun j hj=>?_,HBW.out.trans ((Below.refl _ _).drew.mono HBW.out.size)⟩
      by_cases e:j=k
      ·rw [e]; exact HIN.out
      ·exact hall.out j (by omega)
     case measure=>simp [intOf]; omega
   ·have d1:decide (P<=page)=false:=decide_eq_false h1
    have HIN:Hid (inS (eAt eSpan xs k) page=false):=by rw [HE.out]; unfold inS; exact decide_eq_false (fun h=>h1 h.1)
    go_wp2_with fail
    refine wp_region_held_drew (S:=(fun wX=>wX.cell? ⟨g,k * 5,none⟩=some (.int .i64 P)/\wX.cell? ⟨g,k * 5+1,none⟩=some (.int .i64 C)/\wX.cell? ⟨g,k * 5+2,none⟩=some (.int .i64 O)/\wX.cell? ⟨g,k * 5+3,none⟩=some (.int .i64 R)/\wX.cell? ⟨g,k * 5+4,none⟩=some (.bool G))) (by kernel_rfl) (HK.out _ ((Below.refl _ _).drew)) (fun hHeld=>?_)
    refine tk 0 ?_
    refine tk 1 ?_
    refine tk 2 ?_
    refine tk 3 ?_
    refine tk 4 ?_
    refine tk 5 ?_
    refine tk 6 ?_
    refine tk 7 ?_
    refine sk 8 ?_
    refine sk 9 ?_
    refine sk 10 ?_
    refine sk 11 ?_
    refine sk 12 ?_
    refine sk 13 ?_
    refine sk 14 ?_
    refine sk 15 ?_
    refine sk 16 ?_
    refine sk 17 ?_
    refine sk 18 ?_
    refine sk 19 ?_
    refine sk 20 ?_
    refine tk 21 ?_
    refine wpAnyH_done (by kernel_rfl) ?_ _
    go_wp2_with fail
    go_roundw
    case rel =>
     refine ⟨k+1,by omega,by go_num,fun j hj=>?_,HBW.out.trans ((Below.refl _ _).drew.mono HBW.out.size)⟩
     by_cases e:j=k
     ·rw [e]; exact HIN.out
     ·exact hall.out j (by omega)
    case measure=>simp [intOf]; omega
  ·have e:k=xs.length:=by omega
   subst e
   have HAT:Hid (atL xs page=zHt):=at_none page xs hall.out
   obtain ⟨⟨r0,r1,r2,r3⟩,f0,f1,f2,f3⟩:=HRS.out wr hbw
   have N0:w.heap.size < wr.heap.size:=by have:=hbw.size; have:=HZ.out; omega
   have HB2:Hid (Below w.heap.size w wr):=HBB.out.trans (hbw.mono (by have:=HZ.out; omega))
   clear hall hbw
   go_wp2_with fail
   refine bodyPost_ret (v:=.agg #[.int .i64 0,.int .i64 0,.int .i64 0,.int .i64 0]) (by simp [results,Tryz.results60,go_sem,r0,r1,r2,r3]) rfl ⟨by rw [HAT.out]; rfl,?_⟩
   exact (((HB2.out.setCell (by simp) _).setCell (by simp) _).setCell (by simp) _).setCell (by simp) _
set_option maxHeartbeats 4000000 in
theorem hitAt_any (a:Option Addr) (cap b:Nat) (xs:List SpanE) (page:Int) (w:World) (hn:xs.length<=1048576) (hvs:VS xs) (hp0:0<=page) (hp1:page < 4096) (h:ERow eSpan w b (.slice a xs.length cap) xs) :
  Calls Tryz.prog 140 #[.slice a xs.length cap,.int .i64 page] w fun e w'=>e=.returned (.agg #[.int .i64 (atL xs page).k,.int .i64 (atL xs page).o,.int .i64 (atL xs page).p,.int .i64 (atL xs page).s])/\Below w.heap.size w w':=by
 obtain ⟨g,hg,hcs⟩:=spCells h
 obtain ⟨wb,hwb⟩:∃ wb,wb=((w.alloc (.cells #[.slice a xs.length cap] 30)).alloc (.cells #[.int .i64 page] 3)).alloc (.cells #[.int .i64 0,.int .i64 0,.int .i64 0,.int .i64 0] 56):=⟨_,rfl⟩
 have hbb:Below w.heap.size w wb:=by rw [hwb]; exact (((Below.refl _ _).alloc (Nat.le_refl _) _).alloc (by simp) _).alloc (by simp; omega) _
 have hzb:wb.heap.size=w.heap.size+3:=by rw [hwb]; simp
 have HRS:Hid (∀ wX,Below wb.heap.size wb wX->(wX.cell? ⟨w.heap.size+2,0,none⟩=some (.int .i64 0)/\wX.cell? ⟨w.heap.size+2,1,none⟩=some (.int .i64 0)/\wX.cell? ⟨w.heap.size+2,2,none⟩=some (.int .i64 0)/\wX.cell? ⟨w.heap.size+2,3,none⟩=some (.int .i64 0))/\wX.frozen? ⟨w.heap.size+2,0,none⟩=false/\wX.frozen? ⟨w.heap.size+2,1,none⟩=false/\wX.frozen? ⟨w.heap.size+2,2,none⟩=false/\wX.frozen? ⟨w.heap.size+2,3,none⟩=false):=fun wX hX=>by
  refine ⟨⟨?_,?_,?_,?_⟩,?_,?_,?_,?_⟩
  iterate 4 (exact (hX.cell (by simp; omega)).trans (by rw [hwb]; simp [go_sem]))
  iterate 4 (exact (hX.frozen (by simp; omega)).trans (by rw [hwb]; simp [go_sem]))
 have HB0:Hid (∀ wX,Below wb.heap.size wb wX->wX.cell? ⟨w.heap.size,0,none⟩=some (.slice a xs.length cap)/\wX.cell? ⟨w.heap.size+1,0,none⟩=some (.int .i64 page)):=fun wX hX=>by
  refine ⟨?_,?_⟩
  iterate 2 (exact (hX.cell (by simp; omega)).trans (by rw [hwb]; simp [go_sem]))
 have hsr:=search_any w.heap.size (w.heap.size+1) xs.length (endAft xs page) wb hn (fun wX hX i hi=>by
  obtain ⟨rfl,hgl⟩:=hg (by omega)
  obtain ⟨E,hE⟩:∃ E,eAt eSpan xs i=E:=⟨_,rfl⟩
  obtain ⟨P,C,O,R,G⟩:=E
  have:=hitClo_any w.heap.size (w.heap.size+1) g cap xs.length i page P C O R G wX hi hn (by rw [<- hE]; exact hvs.1 i hi) (fun wY hY=>⟨HB0.out wY (hX.trans (hY.mono hX.size)),hcs i P C O R G hi hE wY (hbb.trans ((hX.trans (hY.mono hX.size)).mono (by omega)))⟩)
  unfold endAft
  rw [hE]
  exact this) (fun a b hab hb ha=>endAft_mono hvs page a b hab hb ha)
 rw [hwb] at hsr
 have HG:Hid _:=hg
 have HCS:Hid _:=hcs
 have HVS:Hid _:=hvs
 have HWB:Hid (wb=_):=hwb
 have HBB:Hid (Below w.heap.size w wb):=hbb
 have HZ:Hid (wb.heap.size=w.heap.size+3):=hzb
 clear h hg hcs hvs hwb hbb hzb
 go_enter Tryz.func140,Tryz.ntmps140
 go_wp2_with fail
 refine hsr.mono ?_
 rintro e w1 ⟨r,rfl,hr,hlo,hhi,hb1'⟩
 have hb1:Below wb.heap.size wb w1:=by rw [HWB.out]; exact hb1'
 have HLO:Hid _:=hlo
 have HHI:Hid _:=hhi
 have HB1:Hid (Below wb.heap.size wb w1):=hb1
 clear hsr hb1 hb1' hlo hhi
 by_cases hlt:r < xs.length
 ·obtain ⟨rfl,hgl⟩:=HG.out (by omega)
  obtain ⟨E,hE⟩:∃ E,eAt eSpan xs r=E:=⟨_,rfl⟩
  obtain ⟨P,C,O,R,G⟩:=E
  have hok:spanOk ⟨P,C,O,R,G⟩=true:=by rw [<- hE]; exact HVS.out.1 r hlt
  have hk7:=spanOk_iff.1 hok
  dsimp only at hk7
  obtain ⟨t1,t2,t3,t4,t5,_⟩:=hk7
  have HK:Hid (∀ wX,Below w1.heap.size w1 wX->(wX.cell? ⟨w.heap.size,0,none⟩=some (.slice (some ⟨g,0,none⟩) xs.length cap)/\wX.cell? ⟨w.heap.size+1,0,none⟩=some (.int .i64 page))/\(wX.cell? ⟨g,r * 5,none⟩=some (.int .i64 P)/\wX.cell? ⟨g,r * 5+1,none⟩=some (.int .i64 C)/\wX.cell? ⟨g,r * 5+2,none⟩=some (.int .i64 O)/\wX.cell? ⟨g,r * 5+3,none⟩=some (.int .i64 R)/\wX.cell? ⟨g,r * 5+4,none⟩=some (.bool G))):=fun wX hX=>⟨HB0.out wX (HB1.out.trans (hX.mono HB1.out.size)),HCS.out r P C O R G hlt hE wX (HBB.out.trans ((HB1.out.trans (hX.mono HB1.out.size)).mono (by have:=HZ.out; omega)))⟩
  have HE:Hid (eAt eSpan xs r=_):=hE
  have HOK:Hid (spanOk ⟨P,C,O,R,G⟩=true):=hok
  have HEA:Hid (endAft xs page r=true):=HHI.out r (Nat.le_refl _) hlt
  have L1:(0:Int)<=(r:Int):=by omega
  have L2:(r:Int) < (xs.length:Int):=by omega
  have L3:((r:Int) == (xs.length:Int))=false:=by simp; omega
  have W1:IntKind.i64.wrap (O+page)=O+page:=by rw [IntKind.wrap_i64]; omega
  have W2:IntKind.i64.wrap (O+page - P)=O+page - P:=by rw [IntKind.wrap_i64]; omega
  clear hE hok
  by_cases h1:page < P
  ·have d1:decide (page < P)=true:=decide_eq_true h1
   have HAT:Hid (atL xs page=zHt):=at_search_none HVS.out page r HLO.out (.inr ⟨hlt,HEA.out,by rw [HE.out]; exact h1⟩)
   have HB3:Hid (Below wb.heap.size wb w1):=HB1
   go_wp2_with fail
   refine wp_region_held_drew (S:=(fun wX=>(wX.cell? ⟨w.heap.size,0,none⟩=some (.slice (some ⟨g,0,none⟩) xs.length cap)/\wX.cell? ⟨w.heap.size+1,0,none⟩=some (.int .i64 page))/\(wX.cell? ⟨g,r * 5,none⟩=some (.int .i64 P)/\wX.cell? ⟨g,r * 5+1,none⟩=some (.int .i64 C)/\wX.cell? ⟨g,r * 5+2,none⟩=some (.int .i64 O)/\wX.cell? ⟨g,r * 5+3,none⟩=some (.int .i64 R)/\wX.cell? ⟨g,r * 5+4,none⟩=some (.bool G)))) (by kernel_rfl) (HK.out _ ((Below.refl _ _).drew)) (fun hHeld=>?_)
   refine tk 0 ?_
   refine tk 1 ?_
   refine tk 2 ?_
   refine tk 3 ?_
   refine tk 4 ?_
   refine tk 5 ?_
   refine tk 6 ?_
   refine tk 7 ?_
   refine tk 8 ?_
   refine tk 9 ?_
   refine tk 10 ?_
   refine tk 11 ?_
   refine tk 12 ?_
   refine wpAnyH_done (by kernel_rfl) ?_ _
   clear hHeld
   obtain ⟨⟨r0,r1,r2,r3⟩,f0,f1,f2,f3⟩:=HRS.out w1 HB3.out
   have N0:w.heap.size+2 < w1.heap.size:=by have:=HB3.out.size; have:=HZ.out; omega
   have HB4:Hid (Below w.heap.size w w1):=HBB.out.trans (HB3.out.mono (by have:=HZ.out; omega))
   go_wp2_with fail
   refine bodyPost_ret (v:=.agg #[.int .i64 0,.int .i64 0,.int .i64 0,.int .i64 0]) (by simp [results,Tryz.results140,go_sem,r0,r1,r2,r3]) rfl ⟨by rw [HAT.out]; rfl,?_⟩
   exact ((((HB4.out.drew).setCell (by dsimp only; omega) _).setCell (by dsimp only; omega) _).setCell (by dsimp only; omega) _).setCell (by dsimp only; omega) _
  ·have d1:decide (page < P)=false:=decide_eq_false h1
   have HHIT:Hid (atL xs page=hitS ⟨P,C,O,R,G⟩ page):=by
    have:=at_search_hit page r hlt HLO.out HEA.out (by rw [HE.out]; exact Int.not_lt.1 h1)
    rwa [HE.out] at this
   go_wp2_with fail
   refine wp_region_held_drew (S:=(fun wX=>(wX.cell? ⟨w.heap.size,0,none⟩=some (.slice (some ⟨g,0,none⟩) xs.length cap)/\wX.cell? ⟨w.heap.size+1,0,none⟩=some (.int .i64 page))/\(wX.cell? ⟨g,r * 5,none⟩=some (.int .i64 P)/\wX.cell? ⟨g,r * 5+1,none⟩=some (.int .i64 C)/\wX.cell? ⟨g,r * 5+2,none⟩=some (.int .i64 O)/\wX.cell? ⟨g,r * 5+3,none⟩=some (.int .i64 R)/\wX.cell? ⟨g,r * 5+4,none⟩=some (.bool G)))) (by kernel_rfl) (HK.out _ ((Below.refl _ _).drew)) (fun hHeld=>?_)
   refine tk 0 ?_
   refine tk 1 ?_
   refine tk 2 ?_
   refine tk 3 ?_
   refine tk 4 ?_
   refine tk 5 ?_
   refine tk 6 ?_
   refine tk 7 ?_
   refine tk 8 ?_
   refine tk 9 ?_
   refine tk 10 ?_
   refine tk 11 ?_
   refine tk 12 ?_
   refine wpAnyH_done (by kernel_rfl) ?_ _
   go_wp2_with fail
   obtain ⟨wa,hwa⟩:∃ wa,wa=w1.drew:=⟨_,rfl⟩
   rw [<- hwa]
   have HAR:Hid (Below w1.heap.size w1 wa):=by rw [hwa]; exact (Below.refl _ _).drew
   have HKA:Hid (∀ wX,Below wa.heap.size wa wX->(wX.cell? ⟨w.heap.size,0,none⟩=some (.slice (some ⟨g,0,none⟩) xs.length cap)/\wX.cell? ⟨w.heap.size+1,0,none⟩=some (.int .i64 page))/\(wX.cell? ⟨g,r * 5,none⟩=some (.int .i64 P)/\wX.cell? ⟨g,r * 5+1,none⟩=some (.int .i64 C)/\wX.cell? ⟨g,r * 5+2,none⟩=some (.int .i64 O)/\wX.cell? ⟨g,r * 5+3,none⟩=some (.int .i64 R)/\wX.cell? ⟨g,r * 5+4,none⟩=some (.bool G))):=fun wX hX=>HK.out wX (HAR.out.trans (hX.mono HAR.out.size))
   have HBA:Hid (Below wb.heap.size wb wa):=HB1.out.trans (HAR.out.mono HB1.out.size)
   clear hwa hHeld
   go_cut [6] (fun d wx=>∃ Z,d=.pointer (some ⟨Z,0,none⟩)/\(wx.cell? ⟨Z,0,none⟩=some (.int .i64 1)/\wx.cell? ⟨Z,1,none⟩=some (.int .i64 (O+page - P))/\wx.cell? ⟨Z,2,none⟩=some (.int .i64 R)/\wx.cell? ⟨Z,3,none⟩=some (.int .i64 1))/\wx.frozen? ⟨Z,3,none⟩=false/\wa.heap.size<=Z/\Z < wx.heap.size/\Below wa.heap.size wa wx)
   case first =>
    go_region_held3 (fun wX=>(wX.cell? ⟨w.heap.size,0,none⟩=some (.slice (some ⟨g,0,none⟩) xs.length cap)/\wX.cell? ⟨w.heap.size+1,0,none⟩=some (.int .i64 page))/\(wX.cell? ⟨g,r * 5,none⟩=some (.int .i64 P)/\wX.cell? ⟨g,r * 5+1,none⟩=some (.int .i64 C)/\wX.cell? ⟨g,r * 5+2,none⟩=some (.int .i64 O)/\wX.cell? ⟨g,r * 5+3,none⟩=some (.int .i64 R)/\wX.cell? ⟨g,r * 5+4,none⟩=some (.bool G)))
     ((refine HKA.out _ ?_; repeat (first | exact Below.refl _ _ | with_reducible refine Below.drew ?_ | with_reducible refine Below.setCell ?_ (by first | omega | (simp <;> omega)) _ | with_reducible refine Below.alloc ?_ (by first | omega | (simp <;> omega)) _))) (fail)
    all_goals
     go_wp2_with fail
     go_meet
     case rel =>
      refine ⟨_,rfl,⟨?_,?_,?_,?_⟩,?_,?_,?_,?_⟩
      ·simp [go_sem]
      ·simp [go_sem]
      ·simp [go_sem]
      ·simp [go_sem]
      ·simp [go_sem]
      ·first | omega | (simp <;> omega)
      ·first | omega | (simp <;> omega)
      ·repeat (first | exact Below.refl _ _ | with_reducible refine Below.drew ?_ | with_reducible refine Below.setCell ?_ (by first | omega | (simp <;> omega)) _ | with_reducible refine Below.alloc ?_ (by first | omega | (simp <;> omega)) _)
   case rest =>
    obtain ⟨wx,rfl⟩:∃ wx:World,wx=wc:=⟨_,rfl⟩
    obtain ⟨Z,rfl,hzc,hzf,hZ1,hZ2,hbx⟩:=hcut
    have HZC:Hid (∀ wX,Below wx.heap.size wx wX->(wX.cell? ⟨Z,0,none⟩=some (.int .i64 1)/\wX.cell? ⟨Z,1,none⟩=some (.int .i64 (O+page - P))/\wX.cell? ⟨Z,2,none⟩=some (.int .i64 R)/\wX.cell? ⟨Z,3,none⟩=some (.int .i64 1))/\wX.frozen? ⟨Z,3,none⟩=false):=fun wX hX=>⟨⟨(hX.cell hZ2).trans hzc.1,(hX.cell hZ2).trans hzc.2.1,(hX.cell hZ2).trans hzc.2.2.1,(hX.cell hZ2).trans hzc.2.2.2⟩,(hX.frozen hZ2).trans hzf⟩
    have HBX:Hid (Below wb.heap.size wb wx):=HBA.out.trans (hbx.mono HBA.out.size)
    have N0:w.heap.size+2 < wx.heap.size:=by have:=HBX.out.size; have:=HZ.out; omega
    have N1:w.heap.size+2 ≠ Z:=by have:=HBA.out.size; have:=HZ.out; omega
    have hbig:=big_any P C O R G page
    have hbg:=fun wX=>hbig wX HOK.out hp0 hp1
    clear hzc hzf hbig
    have HKX:Hid (∀ wX,Below wx.heap.size wx wX->(wX.cell? ⟨w.heap.size,0,none⟩=some (.slice (some ⟨g,0,none⟩) xs.length cap)/\wX.cell? ⟨w.heap.size+1,0,none⟩=some (.int .i64 page))/\(wX.cell? ⟨g,r * 5,none⟩=some (.int .i64 P)/\wX.cell? ⟨g,r * 5+1,none⟩=some (.int .i64 C)/\wX.cell? ⟨g,r * 5+2,none⟩=some (.int .i64 O)/\wX.cell? ⟨g,r * 5+3,none⟩=some (.int .i64 R)/\wX.cell? ⟨g,r * 5+4,none⟩=some (.bool G))):=fun wX hX=>HKA.out wX (hbx.trans (hX.mono hbx.size))
    cases hbb2:bigB ⟨P,C,O,R,G⟩ page <;> simp only [hbb2] at hbg
    ·go_wp2_with fail
     go_region_held3 (fun wX=>(wX.cell? ⟨w.heap.size,0,none⟩=some (.slice (some ⟨g,0,none⟩) xs.length cap)/\wX.cell? ⟨w.heap.size+1,0,none⟩=some (.int .i64 page))/\(wX.cell? ⟨g,r * 5,none⟩=some (.int .i64 P)/\wX.cell? ⟨g,r * 5+1,none⟩=some (.int .i64 C)/\wX.cell? ⟨g,r * 5+2,none⟩=some (.int .i64 O)/\wX.cell? ⟨g,r * 5+3,none⟩=some (.int .i64 R)/\wX.cell? ⟨g,r * 5+4,none⟩=some (.bool G)))
      ((refine HKX.out _ ?_; repeat (first | exact Below.refl _ _ | with_reducible refine Below.drew ?_ | refine Below.trans ?_ (hb2'.mono (by first | omega | (simp <;> omega))))))
      (first | (go_at_call 179; refine (hbg _).mono ?_; rintro e w2 ⟨rfl,hb2'⟩))
     have hb2:Below wx.heap.size wx w2:=(Below.refl _ _).drew.trans (hb2'.mono (by simp))
     clear hb2'
     have HB2:Hid (Below wb.heap.size wb w2):=HBX.out.trans (hb2.mono HBX.out.size)
     obtain ⟨⟨z0,z1,z2,z3⟩,zf⟩:=HZC.out w2 hb2
     obtain ⟨⟨r0,r1,r2,r3⟩,f0,f1,f2,f3⟩:=HRS.out w2 HB2.out
     have HSZ:Hid (Z < w2.heap.size):=Nat.lt_of_lt_of_le hZ2 hb2.size
     have HAT:Hid (atL xs page=⟨1,O+page - P,R,1⟩):=by rw [HHIT.out]; unfold hitS; rw [hbb2]; rfl
     clear hb2 hbb2
     go_wp2_with fail
     refine bodyPost_ret (v:=.agg #[.int .i64 1,.int .i64 (O+page - P),.int .i64 R,.int .i64 1]) (by simp [results,Tryz.results140,go_sem,r0,r1,r2,r3]) rfl ⟨by rw [HAT.out],?_⟩
     have B2:Below w.heap.size w w2:=HBB.out.trans (HB2.out.mono (by have:=HZ.out; omega))
     have zl:w.heap.size<=Z:=by have:=HBA.out.size; have:=HZ.out; omega
     repeat (first | exact B2 | refine Below.setCell ?_ (by first | exact zl | exact Nat.le_refl _ | (dsimp only; omega)) _)
    ·go_wp2_with fail
     go_region_held3 (fun wX=>(wX.cell? ⟨w.heap.size,0,none⟩=some (.slice (some ⟨g,0,none⟩) xs.length cap)/\wX.cell? ⟨w.heap.size+1,0,none⟩=some (.int .i64 page))/\(wX.cell? ⟨g,r * 5,none⟩=some (.int .i64 P)/\wX.cell? ⟨g,r * 5+1,none⟩=some (.int .i64 C)/\wX.cell? ⟨g,r * 5+2,none⟩=some (.int .i64 O)/\wX.cell? ⟨g,r * 5+3,none⟩=some (.int .i64 R)/\wX.cell? ⟨g,r * 5+4,none⟩=some (.bool G)))
      ((refine HKX.out _ ?_; repeat (first | exact Below.refl _ _ | with_reducible refine Below.drew ?_ | refine Below.trans ?_ (hb2'.mono (by first | omega | (simp <;> omega))))))
      (first | (go_at_call 179; refine (hbg _).mono ?_; rintro e w2 ⟨rfl,hb2'⟩))
     have hb2:Below wx.heap.size wx w2:=(Below.refl _ _).drew.trans (hb2'.mono (by simp))
     clear hb2'
     have HB2:Hid (Below wb.heap.size wb w2):=HBX.out.trans (hb2.mono HBX.out.size)
     obtain ⟨⟨z0,z1,z2,z3⟩,zf⟩:=HZC.out w2 hb2
     obtain ⟨⟨r0,r1,r2,r3⟩,f0,f1,f2,f3⟩:=HRS.out w2 HB2.out
     have HSZ:Hid (Z < w2.heap.size):=Nat.lt_of_lt_of_le hZ2 hb2.size
     have HAT:Hid (atL xs page=⟨1,O+page - P,R,16⟩):=by rw [HHIT.out]; unfold hitS; rw [hbb2]; rfl
     clear hb2 hbb2
     go_wp2_with fail
     refine bodyPost_ret (v:=.agg #[.int .i64 1,.int .i64 (O+page - P),.int .i64 R,.int .i64 16]) (by simp [results,Tryz.results140,go_sem,r0,r1,r2,r3]) rfl ⟨by rw [HAT.out],?_⟩
     have B2:Below w.heap.size w w2:=HBB.out.trans (HB2.out.mono (by have:=HZ.out; omega))
     have zl:w.heap.size<=Z:=by have:=HBA.out.size; have:=HZ.out; omega
     repeat (first | exact B2 | refine Below.setCell ?_ (by first | exact zl | exact Nat.le_refl _ | (dsimp only; omega)) _)
 ·obtain rfl:r=xs.length:=by omega
  have HAT:Hid (atL xs page=zHt):=at_search_none HVS.out page xs.length HLO.out (.inl rfl)
  have HB3:Hid (Below wb.heap.size wb w1):=HB1
  have L3:((xs.length:Int) == (xs.length:Int))=true:=by simp
  have HB01:Hid (∀ wX,Below w1.heap.size w1 wX->wX.cell? ⟨w.heap.size,0,none⟩=some (.slice a xs.length cap)/\wX.cell? ⟨w.heap.size+1,0,none⟩=some (.int .i64 page)):=fun wX hX=>HB0.out wX (HB1.out.trans (hX.mono HB1.out.size))
  go_wp2_with fail
  refine wp_region_held_drew (S:=(fun wX=>wX.cell? ⟨w.heap.size,0,none⟩=some (.slice a xs.length cap)/\wX.cell? ⟨w.heap.size+1,0,none⟩=some (.int .i64 page))) (by kernel_rfl) (HB01.out _ ((Below.refl _ _).drew)) (fun hHeld=>?_)
  refine tk 0 ?_
  refine tk 1 ?_
  refine tk 2 ?_
  refine tk 3 ?_
  refine tk 4 ?_
  refine sk 5 ?_
  refine sk 6 ?_
  refine sk 7 ?_
  refine sk 8 ?_
  refine sk 9 ?_
  refine sk 10 ?_
  refine sk 11 ?_
  refine tk 12 ?_
  refine wpAnyH_done (by kernel_rfl) ?_ _
  clear hHeld
  obtain ⟨⟨r0,r1,r2,r3⟩,f0,f1,f2,f3⟩:=HRS.out w1 HB3.out
  have N0:w.heap.size+2 < w1.heap.size:=by have:=HB3.out.size; have:=HZ.out; omega
  have HB4:Hid (Below w.heap.size w w1):=HBB.out.trans (HB3.out.mono (by have:=HZ.out; omega))
  go_wp2_with fail
  refine bodyPost_ret (v:=.agg #[.int .i64 0,.int .i64 0,.int .i64 0,.int .i64 0]) (by simp [results,Tryz.results140,go_sem,r0,r1,r2,r3]) rfl ⟨by rw [HAT.out]; rfl,?_⟩
  exact ((((HB4.out.drew).setCell (by dsimp only; omega) _).setCell (by dsimp only; omega) _).setCell (by dsimp only; omega) _).setCell (by dsimp only; omega) _
theorem pgS_any (p:Int) (w:World):Calls Tryz.prog 58 #[.int .i64 p] w fun e w'=>e=.returned (.bool (decide (0<=p/\p < 4096)))/\w'=w:=by
 by_cases h0:0<=p
 ·by_cases h1:p < 4096
  ·have d1:decide (p < 4096)=true:=decide_eq_true h1
   rw [decide_eq_true ⟨h0,h1⟩]
   go_enter Tryz.func58,Tryz.ntmps58
   go_wp2_with fail
   go_ret
   exact ⟨rfl,rfl⟩
  ·have d1:decide (p < 4096)=false:=decide_eq_false h1
   rw [decide_eq_false (fun h=>h1 h.2)]
   go_enter Tryz.func58,Tryz.ntmps58
   go_wp2_with fail
   go_ret
   exact ⟨rfl,rfl⟩
 ·have d0:decide (0<=p)=false:=decide_eq_false h0
  rw [decide_eq_false (fun h=>h0 h.1)]
  clear h0
  go_enter Tryz.func58,Tryz.ntmps58
  go_wp2_with fail
  go_ret
  exact ⟨rfl,rfl⟩
set_option maxHeartbeats 2000000 in
theorem specAt_any (a:Option Addr) (cap b:Nat) (xs:List SpanE) (page:Int) (w:World) (hn:xs.length<=1048576) (hwf:∀ i,i < xs.length->wfS (eAt eSpan xs i)) (h:ERow eSpan w b (.slice a xs.length cap) xs) :
  Calls Tryz.prog 20 #[.slice a xs.length cap,.int .i64 page] w fun e w'=>e=.returned (.agg #[.int .i64 (atA xs page).k,.int .i64 (atA xs page).o,.int .i64 (atA xs page).p,.int .i64 (atA xs page).s])/\Below w.heap.size w w':=by
 obtain ⟨wb,hwb⟩:∃ wb,wb=w.alloc (.cells #[.int .i64 0,.int .i64 0,.int .i64 0,.int .i64 0] 56):=⟨_,rfl⟩
 have hbb:Below w.heap.size w wb:=by rw [hwb]; exact (Below.refl _ _).alloc (Nat.le_refl _) _
 have hzb:wb.heap.size=w.heap.size+1:=by rw [hwb]; simp
 have HRS:Hid (∀ wX,Below wb.heap.size wb wX->(wX.cell? ⟨w.heap.size,0,none⟩=some (.int .i64 0)/\wX.cell? ⟨w.heap.size,1,none⟩=some (.int .i64 0)/\wX.cell? ⟨w.heap.size,2,none⟩=some (.int .i64 0)/\wX.cell? ⟨w.heap.size,3,none⟩=some (.int .i64 0))/\wX.frozen? ⟨w.heap.size,0,none⟩=false/\wX.frozen? ⟨w.heap.size,1,none⟩=false/\wX.frozen? ⟨w.heap.size,2,none⟩=false/\wX.frozen? ⟨w.heap.size,3,none⟩=false):=fun wX hX=>by
  refine ⟨⟨?_,?_,?_,?_⟩,?_,?_,?_,?_⟩
  iterate 4 (exact (hX.cell (by simp; omega)).trans (by rw [hwb]; simp [go_sem]))
  iterate 4 (exact (hX.frozen (by simp; omega)).trans (by rw [hwb]; simp [go_sem]))
 have hv:=specVS_any a cap b xs wb hn hwf (h.below hbb)
 have hpk:=pgS_any page
 have HAT:Hid (∀ wX,Below wb.heap.size wb wX->VS xs->0<=page->page < 4096->Calls Tryz.prog 60 #[.slice a xs.length cap,.int .i64 page] wX fun e w'=>e=.returned (.agg #[.int .i64 (atL xs page).k,.int .i64 (atL xs page).o,.int .i64 (atL xs page).p,.int .i64 (atL xs page).s])/\Below wX.heap.size wX w'):=fun wX hX h1 h2 h3=>l4At_any a cap b xs page wX hn h1 h2 h3 (h.below (hbb.trans (hX.mono (by omega))))
 rw [hwb] at hv
 have HWB:Hid (wb=_):=hwb
 have HBB:Hid (Below w.heap.size w wb):=hbb
 have HZ:Hid (wb.heap.size=w.heap.size+1):=hzb
 clear h hwf hwb hbb hzb
 cases hvb:vsB xs <;> rw [hvb] at hv
 ·have HA:Hid (atA xs page=zHt):=by unfold atA; rw [if_neg (by rw [hvb]; simp)]; rfl
  clear hvb hpk HAT
  go_enter Tryz.func20,Tryz.ntmps20
  go_wp2_with fail
  refine hv.mono ?_
  rintro e w1 ⟨rfl,hb1'⟩
  have hb1:Below wb.heap.size wb w1:=by rw [HWB.out]; exact hb1'
  obtain ⟨⟨r0,r1,r2,r3⟩,f0,f1,f2,f3⟩:=HRS.out w1 hb1
  have N0:w.heap.size < w1.heap.size:=by have:=hb1.size; have:=HZ.out; omega
  have HB4:Hid (Below w.heap.size w w1):=HBB.out.trans (hb1.mono (by have:=HZ.out; omega))
  clear hb1 hb1' hv
  go_wp2_with fail
  refine bodyPost_ret (v:=.agg #[.int .i64 0,.int .i64 0,.int .i64 0,.int .i64 0]) (by simp [results,Tryz.results20,go_sem,r0,r1,r2,r3]) rfl ⟨by rw [HA.out]; rfl,?_⟩
  exact (((HB4.out.setCell (by simp) _).setCell (by simp) _).setCell (by simp) _).setCell (by simp) _
 ·by_cases hp:0<=page/\page < 4096
  ·have hvs:=VS.of_true hvb
   have HA:Hid (atA xs page=atL xs page):=by unfold atA; rw [if_pos ⟨hvb,hp⟩]; rfl
   rw [decide_eq_true hp] at hpk
   obtain ⟨hp0,hp1⟩:=hp
   clear hvb
   go_enter Tryz.func20,Tryz.ntmps20
   go_wp2_with fail
   refine hv.mono ?_
   rintro e w1 ⟨rfl,hb1'⟩
   have hb1:Below wb.heap.size wb w1:=by rw [HWB.out]; exact hb1'
   clear hb1' hv
   go_wp2_with (go_at_call 58; refine (hpk _).mono ?_; rintro e w2 ⟨rfl,hw2⟩; obtain rfl:=hw2.symm)
   refine (HAT.out _ hb1 hvs hp0 hp1).mono ?_
   rintro e w3 ⟨rfl,hb3⟩
   have b3:Below wb.heap.size wb w3:=hb1.trans (hb3.mono hb1.size)
   obtain ⟨⟨r0,r1,r2,r3⟩,f0,f1,f2,f3⟩:=HRS.out w3 b3
   have N0:w.heap.size < w3.heap.size:=by have:=b3.size; have:=HZ.out; omega
   have HB4:Hid (Below w.heap.size w w3):=HBB.out.trans (b3.mono (by have:=HZ.out; omega))
   clear hb1 hb3 b3 hvs
   go_wp2_with fail
   refine bodyPost_ret (v:=.agg #[.int .i64 (atL xs page).k,.int .i64 (atL xs page).o,.int .i64 (atL xs page).p,.int .i64 (atL xs page).s]) (by simp [results,Tryz.results20,go_sem,r0,r1,r2,r3]) rfl ⟨by rw [HA.out],?_⟩
   exact (((HB4.out.setCell (by simp) _).setCell (by simp) _).setCell (by simp) _).setCell (by simp) _
  ·have HA:Hid (atA xs page=zHt):=by unfold atA; rw [if_neg (fun h=>hp h.2)]; rfl
   rw [decide_eq_false hp] at hpk
   clear hvb HAT hp
   go_enter Tryz.func20,Tryz.ntmps20
   go_wp2_with fail
   refine hv.mono ?_
   rintro e w1 ⟨rfl,hb1'⟩
   have hb1:Below wb.heap.size wb w1:=by rw [HWB.out]; exact hb1'
   obtain ⟨⟨r0,r1,r2,r3⟩,f0,f1,f2,f3⟩:=HRS.out w1 hb1
   have N0:w.heap.size < w1.heap.size:=by have:=hb1.size; have:=HZ.out; omega
   have HB4:Hid (Below w.heap.size w w1):=HBB.out.trans (hb1.mono (by have:=HZ.out; omega))
   clear hb1 hb1' hv
   go_wp2_with (go_at_call 58; refine (hpk _).mono ?_; rintro e w2 ⟨rfl,hw2⟩; obtain rfl:=hw2.symm)
   refine bodyPost_ret (v:=.agg #[.int .i64 0,.int .i64 0,.int .i64 0,.int .i64 0]) (by simp [results,Tryz.results20,go_sem,r0,r1,r2,r3]) rfl ⟨by rw [HA.out]; rfl,?_⟩
   exact (((HB4.out.setCell (by simp) _).setCell (by simp) _).setCell (by simp) _).setCell (by simp) _
end Go.Proofs.YtnmhkgmmpkjjeaaGreat
