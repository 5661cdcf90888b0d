import Derived.Test.YtnmhkgmmpkjjeacGreatG10
import Derived.Deep.DeepCutAuto
namespace Go.Proofs.YtnmhkgmmpkjjeacGreat
open Go.ChangeShapes Go.WideShapes Go.ChangeAt Go.RowKit
set_option linter.unusedVariables false
attribute [local go_sem ↓] Go.wp_at_zero Go.wp_at_succ
set_option maxHeartbeats 4000000 in
theorem hitAt_any (a:Option Addr) (cap b:Nat) (xs:List SpanE) (page:Int) (w:World) (hn:xs.length<=1048576) (hvs:VS xs) (hp0:0<=page) (hp1:page < 4096) (h:ERow eSpan w b (.slice a xs.length cap) xs) :
  Calls Tryz.prog 69 #[.slice a xs.length cap,.int .i64 page] w fun e w'=>e=.returned (.agg #[.int .i64 (atL xs page).k,.int .i64 (atL xs page).o,.int .i64 (atL xs page).p,.int .i64 (atL xs page).s])/\Below w.heap.size w w':=by
 obtain ⟨g,hg,hcs⟩:=spCells h
 obtain ⟨wb,hwb⟩:∃ wb,wb=((w.alloc (.cells #[.slice a xs.length cap] 33)).alloc (.cells #[.int .i64 page] 3)).alloc (.cells #[.int .i64 0,.int .i64 0,.int .i64 0,.int .i64 0] 110):=⟨_,rfl⟩
 have hbb:Below w.heap.size w wb:=by rw [hwb]; exact (((Below.refl _ _).alloc (Nat.le_refl _) _).alloc (by simp) _).alloc (by simp; omega) _
 have hzb:wb.heap.size=w.heap.size+3:=by rw [hwb]; simp
 have HRS:Hid (∀ wX,Below wb.heap.size wb wX->(wX.cell? ⟨w.heap.size+2,0,none⟩=some (.int .i64 0)/\wX.cell? ⟨w.heap.size+2,1,none⟩=some (.int .i64 0)/\wX.cell? ⟨w.heap.size+2,2,none⟩=some (.int .i64 0)/\wX.cell? ⟨w.heap.size+2,3,none⟩=some (.int .i64 0))/\wX.frozen? ⟨w.heap.size+2,0,none⟩=false/\wX.frozen? ⟨w.heap.size+2,1,none⟩=false/\wX.frozen? ⟨w.heap.size+2,2,none⟩=false/\wX.frozen? ⟨w.heap.size+2,3,none⟩=false):=fun wX hX=>by
  refine ⟨⟨?_,?_,?_,?_⟩,?_,?_,?_,?_⟩
  iterate 4 (exact (hX.cell (by simp; omega)).trans (by rw [hwb]; simp [go_sem]))
  iterate 4 (exact (hX.frozen (by simp; omega)).trans (by rw [hwb]; simp [go_sem]))
 have HB0:Hid (∀ wX,Below wb.heap.size wb wX->wX.cell? ⟨w.heap.size,0,none⟩=some (.slice a xs.length cap)/\wX.cell? ⟨w.heap.size+1,0,none⟩=some (.int .i64 page)):=fun wX hX=>by
  refine ⟨?_,?_⟩
  iterate 2 (exact (hX.cell (by simp; omega)).trans (by rw [hwb]; simp [go_sem]))
 have hsr:=search_any w.heap.size (w.heap.size+1) xs.length (endAft xs page) wb hn (fun wX hX i hi=>by
  obtain ⟨rfl,hgl⟩:=hg (by omega)
  obtain ⟨E,hE⟩:∃ E,eAt eSpan xs i=E:=⟨_,rfl⟩
  obtain ⟨P,C,O,R,G⟩:=E
  have:=hitClo_any w.heap.size (w.heap.size+1) g cap xs.length i page P C O R G wX hi hn (by rw [<- hE]; exact hvs.1 i hi) (fun wY hY=>⟨HB0.out wY (hX.trans (hY.mono hX.size)),hcs i P C O R G hi hE wY (hbb.trans ((hX.trans (hY.mono hX.size)).mono (by omega)))⟩)
  unfold endAft
  rw [hE]
  exact this) (fun a b hab hb ha=>endAft_mono hvs page a b hab hb ha)
 rw [hwb] at hsr
 have HG:Hid _:=hg
 have HCS:Hid _:=hcs
 have HVS:Hid _:=hvs
 have HWB:Hid (wb=_):=hwb
 have HBB:Hid (Below w.heap.size w wb):=hbb
 have HZ:Hid (wb.heap.size=w.heap.size+3):=hzb
 clear h hg hcs hvs hwb hbb hzb
 go_enter Tryz.func69,Tryz.ntmps69
 go_wp2_with fail
 refine hsr.mono ?_
 rintro e w1 ⟨r,rfl,hr,hlo,hhi,hb1'⟩
 have hb1:Below wb.heap.size wb w1:=by rw [HWB.out]; exact hb1'
 have HLO:Hid _:=hlo
 have HHI:Hid _:=hhi
 have HB1:Hid (Below wb.heap.size wb w1):=hb1
 clear hsr hb1 hb1' hlo hhi
 by_cases hlt:r < xs.length
 ·obtain ⟨rfl,hgl⟩:=HG.out (by omega)
  obtain ⟨E,hE⟩:∃ E,eAt eSpan xs r=E:=⟨_,rfl⟩
  obtain ⟨P,C,O,R,G⟩:=E
  have hok:spanOk ⟨P,C,O,R,G⟩=true:=by rw [<- hE]; exact HVS.out.1 r hlt
  have hk7:=spanOk_iff.1 hok
  dsimp only at hk7
  obtain ⟨t1,t2,t3,t4,t5,_⟩:=hk7
  have HK:Hid (∀ wX,Below w1.heap.size w1 wX->(wX.cell? ⟨w.heap.size,0,none⟩=some (.slice (some ⟨g,0,none⟩) xs.length cap)/\wX.cell? ⟨w.heap.size+1,0,none⟩=some (.int .i64 page))/\(wX.cell? ⟨g,r * 5,none⟩=some (.int .i64 P)/\wX.cell? ⟨g,r * 5+1,none⟩=some (.int .i64 C)/\wX.cell? ⟨g,r * 5+2,none⟩=some (.int .i64 O)/\wX.cell? ⟨g,r * 5+3,none⟩=some (.int .i64 R)/\wX.cell? ⟨g,r * 5+4,none⟩=some (.bool G))):=fun wX hX=>⟨HB0.out wX (HB1.out.trans (hX.mono HB1.out.size)),HCS.out r P C O R G hlt hE wX (HBB.out.trans ((HB1.out.trans (hX.mono HB1.out.size)).mono (by have:=HZ.out; omega)))⟩
  have HE:Hid (eAt eSpan xs r=_):=hE
  have HOK:Hid (spanOk ⟨P,C,O,R,G⟩=true):=hok
  have HEA:Hid (endAft xs page r=true):=HHI.out r (Nat.le_refl _) hlt
  have L1:(0:Int)<=(r:Int):=by omega
  have L2:(r:Int) < (xs.length:Int):=by omega
  have L3:((r:Int) == (xs.length:Int))=false:=by simp; omega
  have W1:IntKind.i64.wrap (O+page)=O+page:=by rw [IntKind.wrap_i64]; omega
  have W2:IntKind.i64.wrap (O+page - P)=O+page - P:=by rw [IntKind.wrap_i64]; omega
  clear hE hok
  by_cases h1:page < P
  ·have d1:decide (page < P)=true:=decide_eq_true h1
   have HAT:Hid (atL xs page=zHt):=at_search_none HVS.out page r HLO.out (.inr ⟨hlt,HEA.out,by rw [HE.out]; exact h1⟩)
   have HB3:Hid (Below wb.heap.size wb w1):=HB1
   go_wp2_with fail
   refine wp_region_held_drew (S:=(fun wX=>(wX.cell? ⟨w.heap.size,0,none⟩=some (.slice (some ⟨g,0,none⟩) xs.length cap)/\wX.cell? ⟨w.heap.size+1,0,none⟩=some (.int .i64 page))/\(wX.cell? ⟨g,r * 5,none⟩=some (.int .i64 P)/\wX.cell? ⟨g,r * 5+1,none⟩=some (.int .i64 C)/\wX.cell? ⟨g,r * 5+2,none⟩=some (.int .i64 O)/\wX.cell? ⟨g,r * 5+3,none⟩=some (.int .i64 R)/\wX.cell? ⟨g,r * 5+4,none⟩=some (.bool G)))) (by kernel_rfl) (HK.out _ ((Below.refl _ _).drew)) (fun hHeld=>?_)
   refine tk 0 ?_
   refine tk 1 ?_
   refine tk 2 ?_
   refine tk 3 ?_
   refine tk 4 ?_
   refine tk 5 ?_
   refine tk 6 ?_
   refine tk 7 ?_
   refine tk 8 ?_
   refine tk 9 ?_
   refine tk 10 ?_
   refine tk 11 ?_
   refine tk 12 ?_
   refine wpAnyH_done (by kernel_rfl) ?_ _
   clear hHeld
   obtain ⟨⟨r0,r1,r2,r3⟩,f0,f1,f2,f3⟩:=HRS.out w1 HB3.out
   have N0:w.heap.size+2 < w1.heap.size:=by have:=HB3.out.size; have:=HZ.out; omega
   have HB4:Hid (Below w.heap.size w w1):=HBB.out.trans (HB3.out.mono (by have:=HZ.out; omega))
   go_wp2_with fail
   refine bodyPost_ret (v:=.agg #[.int .i64 0,.int .i64 0,.int .i64 0,.int .i64 0]) (by simp [results,Tryz.results69,go_sem,r0,r1,r2,r3]) rfl ⟨by rw [HAT.out]; rfl,?_⟩
   exact ((((HB4.out.drew).setCell (by dsimp only; omega) _).setCell (by dsimp only; omega) _).setCell (by dsimp only; omega) _).setCell (by dsimp only; omega) _
  ·have d1:decide (page < P)=false:=decide_eq_false h1
   have HHIT:Hid (atL xs page=hitS ⟨P,C,O,R,G⟩ page):=by
    have:=at_search_hit page r hlt HLO.out HEA.out (by rw [HE.out]; exact Int.not_lt.1 h1)
    rwa [HE.out] at this
   go_wp2_with fail
   refine wp_region_held_drew (S:=(fun wX=>(wX.cell? ⟨w.heap.size,0,none⟩=some (.slice (some ⟨g,0,none⟩) xs.length cap)/\wX.cell? ⟨w.heap.size+1,0,none⟩=some (.int .i64 page))/\(wX.cell? ⟨g,r * 5,none⟩=some (.int .i64 P)/\wX.cell? ⟨g,r * 5+1,none⟩=some (.int .i64 C)/\wX.cell? ⟨g,r * 5+2,none⟩=some (.int .i64 O)/\wX.cell? ⟨g,r * 5+3,none⟩=some (.int .i64 R)/\wX.cell? ⟨g,r * 5+4,none⟩=some (.bool G)))) (by kernel_rfl) (HK.out _ ((Below.refl _ _).drew)) (fun hHeld=>?_)
   refine tk 0 ?_
   refine tk 1 ?_
   refine tk 2 ?_
   refine tk 3 ?_
   refine tk 4 ?_
   refine tk 5 ?_
   refine tk 6 ?_
   refine tk 7 ?_
   refine tk 8 ?_
   refine tk 9 ?_
   refine tk 10 ?_
   refine tk 11 ?_
   refine tk 12 ?_
   refine wpAnyH_done (by kernel_rfl) ?_ _
   go_wp2_with fail
   obtain ⟨wa,hwa⟩:∃ wa,wa=w1.drew:=⟨_,rfl⟩
   rw [<- hwa]
   have HAR:Hid (Below w1.heap.size w1 wa):=by rw [hwa]; exact (Below.refl _ _).drew
   have HKA:Hid (∀ wX,Below wa.heap.size wa wX->(wX.cell? ⟨w.heap.size,0,none⟩=some (.slice (some ⟨g,0,none⟩) xs.length cap)/\wX.cell? ⟨w.heap.size+1,0,none⟩=some (.int .i64 page))/\(wX.cell? ⟨g,r * 5,none⟩=some (.int .i64 P)/\wX.cell? ⟨g,r * 5+1,none⟩=some (.int .i64 C)/\wX.cell? ⟨g,r * 5+2,none⟩=some (.int .i64 O)/\wX.cell? ⟨g,r * 5+3,none⟩=some (.int .i64 R)/\wX.cell? ⟨g,r * 5+4,none⟩=some (.bool G))):=fun wX hX=>HK.out wX (HAR.out.trans (hX.mono HAR.out.size))
   have HBA:Hid (Below wb.heap.size wb wa):=HB1.out.trans (HAR.out.mono HB1.out.size)
   clear hwa hHeld
   go_cut [6] (fun d wx=>∃ Z,d=.pointer (some ⟨Z,0,none⟩)/\(wx.cell? ⟨Z,0,none⟩=some (.int .i64 1)/\wx.cell? ⟨Z,1,none⟩=some (.int .i64 (O+page - P))/\wx.cell? ⟨Z,2,none⟩=some (.int .i64 R)/\wx.cell? ⟨Z,3,none⟩=some (.int .i64 1))/\wx.frozen? ⟨Z,3,none⟩=false/\wa.heap.size<=Z/\Z < wx.heap.size/\Below wa.heap.size wa wx)
   case first =>
    go_region_held3 (fun wX=>(wX.cell? ⟨w.heap.size,0,none⟩=some (.slice (some ⟨g,0,none⟩) xs.length cap)/\wX.cell? ⟨w.heap.size+1,0,none⟩=some (.int .i64 page))/\(wX.cell? ⟨g,r * 5,none⟩=some (.int .i64 P)/\wX.cell? ⟨g,r * 5+1,none⟩=some (.int .i64 C)/\wX.cell? ⟨g,r * 5+2,none⟩=some (.int .i64 O)/\wX.cell? ⟨g,r * 5+3,none⟩=some (.int .i64 R)/\wX.cell? ⟨g,r * 5+4,none⟩=some (.bool G)))
     ((refine HKA.out _ ?_; repeat (first | exact Below.refl _ _ | with_reducible refine Below.drew ?_ | with_reducible refine Below.setCell ?_ (by first | omega | (simp <;> omega)) _ | with_reducible refine Below.alloc ?_ (by first | omega | (simp <;> omega)) _))) (fail)
    all_goals
     go_wp2_with fail
     go_meet
     case rel =>
      refine ⟨_,rfl,⟨?_,?_,?_,?_⟩,?_,?_,?_,?_⟩
      ·simp [go_sem]
      ·simp [go_sem]
      ·simp [go_sem]
      ·simp [go_sem]
      ·simp [go_sem]
      ·first | omega | (simp <;> omega)
      ·first | omega | (simp <;> omega)
      ·repeat (first | exact Below.refl _ _ | with_reducible refine Below.drew ?_ | with_reducible refine Below.setCell ?_ (by first | omega | (simp <;> omega)) _ | with_reducible refine Below.alloc ?_ (by first | omega | (simp <;> omega)) _)
   case rest =>
    obtain ⟨wx,rfl⟩:∃ wx:World,wx=wc:=⟨_,rfl⟩
    obtain ⟨Z,rfl,hzc,hzf,hZ1,hZ2,hbx⟩:=hcut
    have HZC:Hid (∀ wX,Below wx.heap.size wx wX->(wX.cell? ⟨Z,0,none⟩=some (.int .i64 1)/\wX.cell? ⟨Z,1,none⟩=some (.int .i64 (O+page - P))/\wX.cell? ⟨Z,2,none⟩=some (.int .i64 R)/\wX.cell? ⟨Z,3,none⟩=some (.int .i64 1))/\wX.frozen? ⟨Z,3,none⟩=false):=fun wX hX=>⟨⟨(hX.cell hZ2).trans hzc.1,(hX.cell hZ2).trans hzc.2.1,(hX.cell hZ2).trans hzc.2.2.1,(hX.cell hZ2).trans hzc.2.2.2⟩,(hX.frozen hZ2).trans hzf⟩
    have HBX:Hid (Below wb.heap.size wb wx):=HBA.out.trans (hbx.mono HBA.out.size)
    have N0:w.heap.size+2 < wx.heap.size:=by have:=HBX.out.size; have:=HZ.out; omega
    have N1:w.heap.size+2 ≠ Z:=by have:=HBA.out.size; have:=HZ.out; omega
    have hbig:=big_any P C O R G page
    have hbg:=fun wX=>hbig wX HOK.out hp0 hp1
    clear hzc hzf hbig
    have HKX:Hid (∀ wX,Below wx.heap.size wx wX->(wX.cell? ⟨w.heap.size,0,none⟩=some (.slice (some ⟨g,0,none⟩) xs.length cap)/\wX.cell? ⟨w.heap.size+1,0,none⟩=some (.int .i64 page))/\(wX.cell? ⟨g,r * 5,none⟩=some (.int .i64 P)/\wX.cell? ⟨g,r * 5+1,none⟩=some (.int .i64 C)/\wX.cell? ⟨g,r * 5+2,none⟩=some (.int .i64 O)/\wX.cell? ⟨g,r * 5+3,none⟩=some (.int .i64 R)/\wX.cell? ⟨g,r * 5+4,none⟩=some (.bool G))):=fun wX hX=>HKA.out wX (hbx.trans (hX.mono hbx.size))
    cases hbb2:bigB ⟨P,C,O,R,G⟩ page <;> simp only [hbb2] at hbg
    ·go_wp2_with fail
     go_region_held3 (fun wX=>(wX.cell? ⟨w.heap.size,0,none⟩=some (.slice (some ⟨g,0,none⟩) xs.length cap)/\wX.cell? ⟨w.heap.size+1,0,none⟩=some (.int .i64 page))/\(wX.cell? ⟨g,r * 5,none⟩=some (.int .i64 P)/\wX.cell? ⟨g,r * 5+1,none⟩=some (.int .i64 C)/\wX.cell? ⟨g,r * 5+2,none⟩=some (.int .i64 O)/\wX.cell? ⟨g,r * 5+3,none⟩=some (.int .i64 R)/\wX.cell? ⟨g,r * 5+4,none⟩=some (.bool G)))
      ((refine HKX.out _ ?_; repeat (first | exact Below.refl _ _ | with_reducible refine Below.drew ?_ | refine Below.trans ?_ (hb2'.mono (by first | omega | (simp <;> omega))))))
      (first | (go_at_call 90; refine (hbg _).mono ?_; rintro e w2 ⟨rfl,hb2'⟩))
     have hb2:Below wx.heap.size wx w2:=(Below.refl _ _).drew.trans (hb2'.mono (by simp))
     clear hb2'
     have HB2:Hid (Below wb.heap.size wb w2):=HBX.out.trans (hb2.mono HBX.out.size)
     obtain ⟨⟨z0,z1,z2,z3⟩,zf⟩:=HZC.out w2 hb2
     obtain ⟨⟨r0,r1,r2,r3⟩,f0,f1,f2,f3⟩:=HRS.out w2 HB2.out
     have HSZ:Hid (Z < w2.heap.size):=Nat.lt_of_lt_of_le hZ2 hb2.size
     have HAT:Hid (atL xs page=⟨1,O+page - P,R,1⟩):=by rw [HHIT.out]; unfold hitS; rw [hbb2]; rfl
     clear hb2 hbb2
     go_wp2_with fail
     refine bodyPost_ret (v:=.agg #[.int .i64 1,.int .i64 (O+page - P),.int .i64 R,.int .i64 1]) (by simp [results,Tryz.results69,go_sem,r0,r1,r2,r3]) rfl ⟨by rw [HAT.out],?_⟩
     have B2:Below w.heap.size w w2:=HBB.out.trans (HB2.out.mono (by have:=HZ.out; omega))
     have zl:w.heap.size<=Z:=by have:=HBA.out.size; have:=HZ.out; omega
     repeat (first | exact B2 | refine Below.setCell ?_ (by first | exact zl | exact Nat.le_refl _ | (dsimp only; omega)) _)
    ·go_wp2_with fail
     go_region_held3 (fun wX=>(wX.cell? ⟨w.heap.size,0,none⟩=some (.slice (some ⟨g,0,none⟩) xs.length cap)/\wX.cell? ⟨w.heap.size+1,0,none⟩=some (.int .i64 page))/\(wX.cell? ⟨g,r * 5,none⟩=some (.int .i64 P)/\wX.cell? ⟨g,r * 5+1,none⟩=some (.int .i64 C)/\wX.cell? ⟨g,r * 5+2,none⟩=some (.int .i64 O)/\wX.cell? ⟨g,r * 5+3,none⟩=some (.int .i64 R)/\wX.cell? ⟨g,r * 5+4,none⟩=some (.bool G)))
      ((refine HKX.out _ ?_; repeat (first | exact Below.refl _ _ | with_reducible refine Below.drew ?_ | refine Below.trans ?_ (hb2'.mono (by first | omega | (simp <;> omega))))))
      (first | (go_at_call 90; refine (hbg _).mono ?_; rintro e w2 ⟨rfl,hb2'⟩))
     have hb2:Below wx.heap.size wx w2:=(Below.refl _ _).drew.trans (hb2'.mono (by simp))
     clear hb2'
     have HB2:Hid (Below wb.heap.size wb w2):=HBX.out.trans (hb2.mono HBX.out.size)
     obtain ⟨⟨z0,z1,z2,z3⟩,zf⟩:=HZC.out w2 hb2
     obtain ⟨⟨r0,r1,r2,r3⟩,f0,f1,f2,f3⟩:=HRS.out w2 HB2.out
     have HSZ:Hid (Z < w2.heap.size):=Nat.lt_of_lt_of_le hZ2 hb2.size
     have HAT:Hid (atL xs page=⟨1,O+page - P,R,16⟩):=by rw [HHIT.out]; unfold hitS; rw [hbb2]; rfl
     clear hb2 hbb2
     go_wp2_with fail
     refine bodyPost_ret (v:=.agg #[.int .i64 1,.int .i64 (O+page - P),.int .i64 R,.int .i64 16]) (by simp [results,Tryz.results69,go_sem,r0,r1,r2,r3]) rfl ⟨by rw [HAT.out],?_⟩
     have B2:Below w.heap.size w w2:=HBB.out.trans (HB2.out.mono (by have:=HZ.out; omega))
     have zl:w.heap.size<=Z:=by have:=HBA.out.size; have:=HZ.out; omega
     repeat (first | exact B2 | refine Below.setCell ?_ (by first | exact zl | exact Nat.le_refl _ | (dsimp only; omega)) _)
 ·obtain rfl:r=xs.length:=by omega
  have HAT:Hid (atL xs page=zHt):=at_search_none HVS.out page xs.length HLO.out (.inl rfl)
  have HB3:Hid (Below wb.heap.size wb w1):=HB1
  have L3:((xs.length:Int) == (xs.length:Int))=true:=by simp
  have HB01:Hid (∀ wX,Below w1.heap.size w1 wX->wX.cell? ⟨w.heap.size,0,none⟩=some (.slice a xs.length cap)/\wX.cell? ⟨w.heap.size+1,0,none⟩=some (.int .i64 page)):=fun wX hX=>HB0.out wX (HB1.out.trans (hX.mono HB1.out.size))
  go_wp2_with fail
  refine wp_region_held_drew (S:=(fun wX=>wX.cell? ⟨w.heap.size,0,none⟩=some (.slice a xs.length cap)/\wX.cell? ⟨w.heap.size+1,0,none⟩=some (.int .i64 page))) (by kernel_rfl) (HB01.out _ ((Below.refl _ _).drew)) (fun hHeld=>?_)
  refine tk 0 ?_
  refine tk 1 ?_
  refine tk 2 ?_
  refine tk 3 ?_
  refine tk 4 ?_
  refine sk 5 ?_
  refine sk 6 ?_
  refine sk 7 ?_
  refine sk 8 ?_
  refine sk 9 ?_
  refine sk 10 ?_
  refine sk 11 ?_
  refine tk 12 ?_
  refine wpAnyH_done (by kernel_rfl) ?_ _
  clear hHeld
  obtain ⟨⟨r0,r1,r2,r3⟩,f0,f1,f2,f3⟩:=HRS.out w1 HB3.out
  have N0:w.heap.size+2 < w1.heap.size:=by have:=HB3.out.size; have:=HZ.out; omega
  have HB4:Hid (Below w.heap.size w w1):=HBB.out.trans (HB3.out.mono (by have:=HZ.out; omega))
  go_wp2_with fail
  refine bodyPost_ret (v:=.agg #[.int .i64 0,.int .i64 0,.int .i64 0,.int .i64 0]) (by simp [results,Tryz.results69,go_sem,r0,r1,r2,r3]) rfl ⟨by rw [HAT.out]; rfl,?_⟩
  exact ((((HB4.out.drew).setCell (by dsimp only; omega) _).setCell (by dsimp only; omega) _).setCell (by dsimp only; omega) _).setCell (by dsimp only; omega) _
end Go.Proofs.YtnmhkgmmpkjjeacGreat
