import Derived.Test.YtnmhkgmmpkjjeacGreatG37
namespace Go.Proofs.YtnmhkgmmpkjjeacGreat
open Go.ChangeShapes Go.WideShapes Go.ChangeAt Go.RowKit
set_option linter.unusedVariables false
set_option maxRecDepth 100000
attribute [local go_sem ↓] Go.wp_at_zero Go.wp_at_succ
set_option maxHeartbeats 4000000 in
theorem implBuild_any (a:Option Addr) (cap b:Nat) (xs:List SpanE) (fr:Int) (w:World) (hn:xs.length<=1048576) (hf0:-9223372036854775808<=fr) (hf1:fr<=9223372036854775807) (hwf:∀ i,i < xs.length->wfS (eAt eSpan xs i)) (h:ERow eSpan w b (.slice a xs.length cap) xs) :
  Calls Tryz.prog 20 #[.slice a xs.length cap,.int .i64 fr] w fun e w'=>BuildPost w (buildF xs fr) e w':=by
 obtain ⟨wb,hwb⟩:∃ wb,wb=w.alloc (.cells #[.slice none 0 0] 31):=⟨_,rfl⟩
 have hbb:Below w.heap.size w wb:=by rw [hwb]; exact bal
 have hzb:wb.heap.size=w.heap.size+1:=by rw [hwb]; simp
 have q0:wb.cell? ⟨w.heap.size,0,none⟩=some (.slice none 0 0):=by rw [hwb]; simp [go_sem]
 have f0:wb.frozen? ⟨w.heap.size,0,none⟩=false:=by rw [hwb]; simp [go_sem]
 have hvs0:=implVS_any a cap b xs wb hn hwf (h.below hbb)
 have HPL:Hid (∀ g F wX,Below wb.heap.size wb wX->F<=512->CRow wX g (zeroZ F)->Calls Tryz.prog 11 #[.agg #[.slice (some ⟨g,0,none⟩) (zeroZ F).length (zeroZ F).length],.slice a xs.length cap] wX fun e w'=>PlanPost wX (planF (zeroZ F) xs) e w'):=hidOf <| fun g F wX hX hF hc=>implPlan_any g (zeroZ F) (zeroZ F).length a cap b xs wX (by rw [zeroZ_len]; omega) (Nat.le_refl _) (fun i=>by rw [zeroZ_at]; exact ⟨Int.le_refl _,by decide⟩) hc hn hwf (h.below (hbb.trans (hX.mono (by omega))))
 have HWB:Hid (wb=_):=hwb
 have HBB:Hid (Below w.heap.size w wb):=hbb
 have HZB:Hid (wb.heap.size=w.heap.size+1):=hzb
 have HQ0:Hid (∀ wX,Below wb.heap.size wb wX->wX.cell? ⟨w.heap.size,0,none⟩=some (.slice none 0 0)/\wX.frozen? ⟨w.heap.size,0,none⟩=false):=hidOf <| fun wX hX=>⟨(hX.cell (p:=⟨w.heap.size,0,none⟩) (show w.heap.size < _ by omega)).trans q0,(hX.frozen (p:=⟨w.heap.size,0,none⟩) (show w.heap.size < _ by omega)).trans f0⟩
 have HEND:Hid (∀ k w',Below wb.heap.size wb w'->∀ u,BuildPost w ([],k) (.returned (.tuple #[.agg #[.slice none 0 0],.int .i64 k])) (w'.setCell ⟨w.heap.size,0,none⟩ u)):=hidOf <| fun k w' hX u=>⟨none,0,rfl,eWord_nil _ _,(hbb.trans (hX.mono (by omega))).setCell (Nat.le_refl _) _⟩
 have N0:w.heap.size < wb.heap.size:=by omega
 clear hwb hbb hzb q0 f0 h hwf
 unfold buildF
 cases hvb:vsB xs
 ·rw [if_pos rfl]
  rw [hvb] at hvs0
  clear hvb
  go_enter Tryz.func20,Tryz.ntmps20
  go_wp2_with fail
  rw [<- HWB.out]
  refine hvs0.mono ?_
  rintro e w1 ⟨rfl,hb1⟩
  obtain ⟨k0,k1⟩:=HQ0.out w1 hb1
  have hl1:w.heap.size < w1.heap.size:=Nat.lt_of_lt_of_le N0 hb1.size
  have hfin:=HEND.out 1 w1 hb1 (.slice none 0 0)
  have r0:(w1.setCell ⟨w.heap.size,0,none⟩ (.slice none 0 0)).cell? ⟨w.heap.size,0,none⟩=some (.slice none 0 0):=World.cell?_setCell_same _ _ _ k0
  clear hvs0 hb1
  go_wp2_with fail
  refine bodyPost_ret (v:=.tuple #[.agg #[.slice none 0 0],.int .i64 1]) (by simp [results,Tryz.results20,go_sem,r0]) rfl ?_
  exact hfin
 ·rw [if_neg (by decide)]
  rw [hvb] at hvs0
  clear hvb
  by_cases hr:fr < 1\/512 < fr
  ·rw [if_pos hr]
   by_cases h1:fr < 1
   ·have d1:decide (fr < 1)=true:=decide_eq_true h1
    clear hr
    go_enter Tryz.func20,Tryz.ntmps20
    go_wp2_with fail
    rw [<- HWB.out]
    refine hvs0.mono ?_
    rintro e w1 ⟨rfl,hb1⟩
    obtain ⟨k0,k1⟩:=HQ0.out w1 hb1
    have hl1:w.heap.size < w1.heap.size:=Nat.lt_of_lt_of_le N0 hb1.size
    have hfin:=HEND.out 2 w1 hb1 (.slice none 0 0)
    have r0:(w1.setCell ⟨w.heap.size,0,none⟩ (.slice none 0 0)).cell? ⟨w.heap.size,0,none⟩=some (.slice none 0 0):=World.cell?_setCell_same _ _ _ k0
    clear hvs0 hb1
    go_wp2_with fail
    refine bodyPost_ret (v:=.tuple #[.agg #[.slice none 0 0],.int .i64 2]) (by simp [results,Tryz.results20,go_sem,r0]) rfl ?_
    exact hfin
   ·have h2:512 < fr:=by omega
    have d1:decide (fr < 1)=false:=decide_eq_false h1
    have d2:decide (512 < fr)=true:=decide_eq_true h2
    clear hr
    go_enter Tryz.func20,Tryz.ntmps20
    go_wp2_with fail
    rw [<- HWB.out]
    refine hvs0.mono ?_
    rintro e w1 ⟨rfl,hb1⟩
    obtain ⟨k0,k1⟩:=HQ0.out w1 hb1
    have hl1:w.heap.size < w1.heap.size:=Nat.lt_of_lt_of_le N0 hb1.size
    have hfin:=HEND.out 2 w1 hb1 (.slice none 0 0)
    have r0:(w1.setCell ⟨w.heap.size,0,none⟩ (.slice none 0 0)).cell? ⟨w.heap.size,0,none⟩=some (.slice none 0 0):=World.cell?_setCell_same _ _ _ k0
    clear hvs0 hb1
    go_wp2_with fail
    refine bodyPost_ret (v:=.tuple #[.agg #[.slice none 0 0],.int .i64 2]) (by simp [results,Tryz.results20,go_sem,r0]) rfl ?_
    exact hfin
  ·rw [if_neg hr]
   obtain ⟨F,rfl⟩:∃ F:Nat,fr=F:=⟨fr.toNat,by omega⟩
   have hFT:((F:Nat):Int).toNat=F:=rfl
   rw [hFT]
   have hF1:1<=F:=by omega
   have hF2:F<=512:=by omega
   obtain ⟨ZL,hZL⟩:∃ ZL,F * 16=ZL:=⟨_,rfl⟩
   have hZ8:ZL<=8192:=by omega
   have hzl:(zeroZ F).length=ZL:=by rw [zeroZ_len,hZL]
   have W1:IntKind.i64.wrap ((F:Int) * 16)=(ZL:Int):=by rw [IntKind.wrap_i64]; omega
   have hmk:=run_make_row' (P:=Tryz.prog) 22 70 (.int .u64 0) 8 Tryz.underlying22 info_u64 rfl .i64 .i64 ZL (by omega) (by omega)
   have hin:=planF_in (zeroZ F) xs
   have HLEN:Hid (∀ l,(wrs (zeroZ F) l).length=ZL):=hidOf <| fun l=>by rw [wrs_len,hzl]
   rw [hzl] at hin
   have HZ0:Hid (∀ i,(zeroZ F).getD i 0=0):=zeroZ_at F
   have HPL2:Hid (∀ g wX,Below wb.heap.size wb wX->CRow wX g (zeroZ F)->Calls Tryz.prog 11 #[.agg #[.slice (some ⟨g,0,none⟩) ZL ZL],.slice a xs.length cap] wX fun e w'=>PlanPost wX (planF (zeroZ F) xs) e w'):=hidOf <| fun g wX hX hc=>by
    have h9:=HPL.out g F wX hX hF2 hc
    rw [hzl] at h9
    exact h9
   have HZLN:Hid ((zeroZ F).length=ZL):=hzl
   have hpl:=planF_len0 (zeroZ F) xs
   generalize planF (zeroZ F) xs=PF at *
   obtain ⟨l,code⟩:=PF
   dsimp only at *
   have d1:decide ((F:Int) < 1)=false:=decide_eq_false (by omega)
   have d2:decide ((512:Int) < (F:Int))=false:=decide_eq_false (by omega)
   clear hr HPL hzl hFT hZL
   generalize zeroZ F=ZS at *
   by_cases hcode:code=0
   ·subst hcode
    rw [if_neg (by decide)]
    go_enter Tryz.func20,Tryz.ntmps20
    go_wp2_with fail
    rw [<- HWB.out]
    refine hvs0.mono ?_
    rintro e w1 ⟨rfl,hb1⟩
    have HB1:Hid (Below wb.heap.size wb w1):=hb1
    clear hvs0 hb1
    obtain ⟨wM,hwM⟩:∃ wM,wM=(w1.alloc (.cells (madeCells #[.int .u64 0] ZL) 70)).alloc (.cells #[.slice (some ⟨w1.heap.size,0,none⟩) ZL ZL] 31):=⟨_,rfl⟩
    have hbM:Below w1.heap.size w1 wM:=by rw [hwM]; exact ((Below.refl _ _).alloc (Nat.le_refl _) _).alloc (by simp) _
    have hzM:wM.heap.size=w1.heap.size+2:=by rw [hwM]; simp
    have hrow:IRow wM w1.heap.size ZS:=by
     unfold IRow
     rw [HZLN.out,hwM]
     refine World.rowIs.alloc ((World.rowIs_made w1 (.int .u64 0) ZL 70).congr (fun i hi=>?_)) _
     rw [HZ0.out]
    have m0:wM.cell? ⟨w1.heap.size+1,0,none⟩=some (.slice (some ⟨w1.heap.size,0,none⟩) ZL ZL):=by rw [hwM]; simp [go_sem]
    have HBM:Hid (Below wb.heap.size wb wM):=HB1.out.trans (hbM.mono HB1.out.size)
    have hp:=HPL2.out w1.heap.size wM HBM.out hrow.c
    have HROW:Hid (IRow wM w1.heap.size ZS):=hrow
    have HM0:Hid (wM.cell? ⟨w1.heap.size+1,0,none⟩=some (.slice (some ⟨w1.heap.size,0,none⟩) ZL ZL)):=m0
    have HZM:Hid (wM.heap.size=w1.heap.size+2):=hzM
    have hw1:w.heap.size < w1.heap.size:=Nat.lt_of_lt_of_le N0 HB1.out.size
    have HWM:Hid (wM=_):=hwM
    have N2:w1.heap.size+1 < wM.heap.size:=by omega
    clear hwM hbM hzM hrow m0 HPL2
    go_wp2_with fail
    rw [<- HWM.out]
    refine hp.mono ?_
    rintro e wY ⟨aP,cP,rfl,hrP,hbP⟩
    dsimp only at hrP
    have hmY:=(hbP.cell (p:=⟨w1.heap.size+1,0,none⟩) N2).trans HM0.out
    have HRY:Hid (IRow wY w1.heap.size ZS):=HROW.out.below hbP (by omega)
    have HBY:Hid (Below wb.heap.size wb wY):=HBM.out.trans (hbP.mono HBM.out.size)
    have HMY:Hid (wY.cell? ⟨w1.heap.size+1,0,none⟩=some (.slice (some ⟨w1.heap.size,0,none⟩) ZL ZL)):=hmY
    have hsY:=hbP.size
    have HRP:Hid (∀ wX,Tch (fun k=>k=w1.heap.size) wY wX->ERow eOp wX wM.heap.size (.slice aP l.length cP) l):=hidOf <| fun wX hX=>hrP.tch hX (fun k hk e=>by have:=(hrP.own k (by rw [own_sl]; exact hk)).1; omega)
    have N3:w1.heap.size+1 < wY.heap.size:=by omega
    clear hp hrP hbP hmk
    go_wp2_with fail
    go_loopw [37] (fun iv wr=>∃ i:Nat,i<=l.length/\iv=.int .i64 i/\IRow wr w1.heap.size (wrs ZS (l.take i))/\Tch (fun k=>k=w1.heap.size) wY wr) (fun iv _=>l.length - (intOf iv).toNat)
    case atStart=>exact ⟨0,Nat.zero_le _,rfl,by rw [List.take_zero]; exact HRY.out,Tch.refl _⟩
    case round =>
     obtain ⟨i,hi,rfl,hrow,htc⟩:=hrel
     have hmr:wr.cell? ⟨w1.heap.size+1,0,none⟩=some (.slice (some ⟨w1.heap.size,0,none⟩) ZL ZL):=(htc.cell (p:=⟨w1.heap.size+1,0,none⟩) N3 (by show ¬ w1.heap.size+1=w1.heap.size; omega)).trans HMY.out
     have hszr:=htc.size
     by_cases hlt:i < l.length
     ·have hrw:=HRP.out wr htc
      obtain ⟨g,rfl⟩:∃ g,aP=some ⟨g,0,none⟩:=by
       obtain ⟨a',c',e,h1⟩:=hrw.form
       obtain ⟨g,N,f,e2,_⟩:=h1 (by omega)
       simp only [Value.slice.injEq] at e
       exact ⟨g,by rw [e.1,e2]⟩
      obtain ⟨hgl,x0,x1,x2,x3⟩:=op_cells hrw i hlt
      have hgg:wM.heap.size<=g:=(hrw.own g rfl).1
      have HSU:Hid (wrs ZS (l.take (i+1))=wr1 (wrs ZS (l.take i)) (eAt eOp l i)):=wrs_succ ZS l i hlt
      have hmem:eAt eOp l i ∈ l:=by
       unfold eAt
       rw [List.getD_eq_getElem?_getD,List.getElem?_eq_getElem hlt]
       exact List.getElem_mem hlt
      have hi9:=hin _ hmem
      have hWL:=HLEN.out (l.take i)
      generalize eAt eOp l i=OO at x0 x1 x2 x3 hi9 HSU hmem
      obtain ⟨K,A,Bb,W⟩:=OO
      dsimp only at x0 x1 x2 x3 hi9
      obtain ⟨WS,hWS⟩:∃ WS,wrs ZS (l.take i)=WS:=⟨_,rfl⟩
      rw [hWS] at hrow HSU hWL
      have L1:(0:Int)<=(i:Int):=by omega
      have L2:(i:Int) < (l.length:Int):=by omega
      have HROWR:Hid (IRow wr w1.heap.size WS):=hrow
      have HTC:Hid (Tch (fun k=>k=w1.heap.size) wY wr):=htc
      by_cases hK:K=1
      ·subst hK
       obtain ⟨i1,i2⟩:=hi9 rfl
       obtain ⟨AN,rfl⟩:∃ AN:Nat,A=AN:=⟨A.toNat,by omega⟩
       have HS1:Hid (wrs ZS (l.take (i+1))=WS.set AN W):=hidOf <| by rw [HSU.out]; rfl
       have o0:=hrow.cell (i:=AN) (by omega)
       have o1:=World.rowIs.frozen hrow AN
       generalize WS.getD AN 0=OV at o0
       have L3:(0:Int)<=(AN:Int):=by omega
       have L4:(AN:Int) < (ZL:Int):=by omega
       have L5:w1.heap.size < wr.heap.size:=by omega
       have L6:w1.heap.size+1 < wr.heap.size:=by omega
       have HNX:Hid (∀ w9,Below wr.heap.size wr w9->IRow (w9.setCell ⟨w1.heap.size,AN,none⟩ (.int .u64 W)) w1.heap.size (WS.set AN W)/\Tch (fun k=>k=w1.heap.size) wY (w9.setCell ⟨w1.heap.size,AN,none⟩ (.int .u64 W))):=hidOf <| fun w9 h9=>⟨IRow.put (HROWR.out.below h9 L5),(HTC.out.then (Tch.of_below (S:=fun _=>False) h9) (fun k _ hh=>hh.elim)).set _ _ rfl⟩
       clear hrow htc hi9 hin HSU hrw hmem hWS
       go_wp2_with fail
       go_roundw
       case rel=>exact ⟨i+1,by omega,by go_num,by rw [HS1.out]; exact (HNX.out wr (Below.refl _ _)).1.below bal (by simpa using L5),(HNX.out wr (Below.refl _ _)).2.then (Tch.of_below (S:=fun _=>False) bal) (fun k _ hh=>hh.elim)⟩
       case measure=>simp [intOf]; omega
      ·have HS1:Hid (wrs ZS (l.take (i+1))=WS):=hidOf <| by rw [HSU.out]; unfold wr1; rw [if_neg hK]
       have dK:(K == 1)=false:=by simpa using hK
       have HNX:Hid (∀ w9,Below wr.heap.size wr w9->IRow w9 w1.heap.size WS/\Tch (fun k=>k=w1.heap.size) wY w9):=hidOf <| fun w9 h9=>⟨HROWR.out.below h9 (by omega),HTC.out.then (Tch.of_below (S:=fun _=>False) h9) (fun k _ hh=>hh.elim)⟩
       clear hrow htc hi9 hin HSU hrw hmem hWS
       go_wp2_with fail
       go_roundw
       case rel=>exact ⟨i+1,by omega,by go_num,by rw [HS1.out]; exact (HNX.out _ (bal)).1,(HNX.out _ (bal)).2⟩
       case measure=>simp [intOf]; omega
     ·have ei:i=l.length:=by omega
      subst ei
      rw [List.take_length] at hrow
      obtain ⟨k0,k1⟩:=HQ0.out wY HBY.out
      have kr0:wr.cell? ⟨w.heap.size,0,none⟩=some (.slice none 0 0):=(htc.cell (p:=⟨w.heap.size,0,none⟩) (by show w.heap.size < _; omega) (by show ¬ w.heap.size=_; omega)).trans k0
      have kr1:wr.frozen? ⟨w.heap.size,0,none⟩=false:=(htc.frozen (p:=⟨w.heap.size,0,none⟩) (by show w.heap.size < _; omega) (by show ¬ w.heap.size=_; omega)).trans k1
      have hl1:w.heap.size < wr.heap.size:=by omega
      have r0:(wr.setCell ⟨w.heap.size,0,none⟩ (.slice (some ⟨w1.heap.size,0,none⟩) ZL ZL)).cell? ⟨w.heap.size,0,none⟩=some (.slice (some ⟨w1.heap.size,0,none⟩) ZL ZL):=World.cell?_setCell_same _ _ _ kr0
      have hfin:BuildPost w (wrs ZS l,0) (.returned (.tuple #[.agg #[.slice (some ⟨w1.heap.size,0,none⟩) ZL ZL],.int .i64 0])) (wr.setCell ⟨w.heap.size,0,none⟩ (.slice (some ⟨w1.heap.size,0,none⟩) ZL ZL)):=by
       have hl9:=HLEN.out l
       have hrw2:IRow (wr.setCell ⟨w.heap.size,0,none⟩ (.slice (some ⟨w1.heap.size,0,none⟩) ZL ZL)) w1.heap.size (wrs ZS l):=hrow.tch (S:=fun k=>k=w.heap.size) ((Tch.refl wr).set _ _ rfl) (by omega)
       have he:=hrw2.erow (base:=w.heap.size) (by omega) (by rw [hl9]; omega)
       rw [hl9] at he
       refine ⟨some ⟨w1.heap.size,0,none⟩,ZL,by dsimp only; rw [hl9],by dsimp only; rw [hl9]; exact he,?_⟩
       have hB0:Below w.heap.size w wY:=HBB.out.trans (HBY.out.mono (by omega))
       have ht9:=((Tch.of_below (S:=fun k=>w.heap.size<=k) hB0).then htc (fun k _ hh=>by omega)).set ⟨w.heap.size,0,none⟩ (.slice (some ⟨w1.heap.size,0,none⟩) ZL ZL) (Nat.le_refl _)
       exact ht9.below (fun k hk hh=>by omega)
      clear hrow htc k0 k1
      go_wp2_with fail
      refine bodyPost_ret (v:=.tuple #[.agg #[.slice (some ⟨w1.heap.size,0,none⟩) ZL ZL],.int .i64 0]) (by simp [results,Tryz.results20,go_sem,r0]) rfl ?_
      exact hfin
   ·rw [if_pos hcode]
    have dc:(code != 0)=true:=by simpa using hcode
    go_enter Tryz.func20,Tryz.ntmps20
    go_wp2_with fail
    rw [<- HWB.out]
    refine hvs0.mono ?_
    rintro e w1 ⟨rfl,hb1⟩
    have HB1:Hid (Below wb.heap.size wb w1):=hb1
    clear hvs0 hb1
    obtain ⟨wM,hwM⟩:∃ wM,wM=(w1.alloc (.cells (madeCells #[.int .u64 0] ZL) 70)).alloc (.cells #[.slice (some ⟨w1.heap.size,0,none⟩) ZL ZL] 31):=⟨_,rfl⟩
    have hbM:Below w1.heap.size w1 wM:=by rw [hwM]; exact ((Below.refl _ _).alloc (Nat.le_refl _) _).alloc (by simp) _
    have hrow:IRow wM w1.heap.size ZS:=by
     unfold IRow
     rw [HZLN.out,hwM]
     refine World.rowIs.alloc ((World.rowIs_made w1 (.int .u64 0) ZL 70).congr (fun i hi=>?_)) _
     rw [HZ0.out]
    have HBM:Hid (Below wb.heap.size wb wM):=HB1.out.trans (hbM.mono HB1.out.size)
    have hp:=HPL2.out w1.heap.size wM HBM.out hrow.c
    have HWM:Hid (wM=_):=hwM
    clear hwM hbM hrow HPL2 hcode
    go_wp2_with fail
    rw [<- HWM.out]
    refine hp.mono ?_
    rintro e wY ⟨aP,cP,rfl,hrP,hbP⟩
    have hB:=HBM.out.trans (hbP.mono HBM.out.size)
    obtain ⟨k0,k1⟩:=HQ0.out wY hB
    have hl1:w.heap.size < wY.heap.size:=Nat.lt_of_lt_of_le N0 hB.size
    have hfin:=HEND.out 3 wY hB (.slice none 0 0)
    have r0:(wY.setCell ⟨w.heap.size,0,none⟩ (.slice none 0 0)).cell? ⟨w.heap.size,0,none⟩=some (.slice none 0 0):=World.cell?_setCell_same _ _ _ k0
    clear hp hrP hbP hB hmk
    go_wp2_with fail
    refine bodyPost_ret (v:=.tuple #[.agg #[.slice none 0 0],.int .i64 3]) (by simp [results,Tryz.results20,go_sem,r0]) rfl ?_
    exact hfin
end Go.Proofs.YtnmhkgmmpkjjeacGreat
