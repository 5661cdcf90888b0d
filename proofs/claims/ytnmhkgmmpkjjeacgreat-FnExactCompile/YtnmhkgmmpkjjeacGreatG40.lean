import Derived.Test.YtnmhkgmmpkjjeacGreatG39
import Derived.Test.YtnmhkgmmpkjjeacGreatG37
namespace Go.Proofs.YtnmhkgmmpkjjeacGreat
open Go.ChangeShapes Go.WideShapes Go.ChangeAt Go.RowKit
set_option linter.unusedVariables false
set_option maxRecDepth 100000
attribute [local go_sem ↓] Go.wp_at_zero Go.wp_at_succ
theorem eOp_void {w w':World} (g:Nat) (h:w'.heap[g]?=some (.cells #[] 74)) (hg:w.heap.size<=g):ERow eOp w' w.heap.size (.slice (some ⟨g,0,none⟩) 0 0) [] :=
 ⟨by simp [ecells],.inr ⟨g,0,#[],rfl,hg,h,Nat.le_refl _,Nat.zero_le _,by simp,by simp [ecells]⟩⟩
set_option maxHeartbeats 4000000 in
theorem specPlan_any (gz:Nat) (zs:List Int) (cz:Nat) (a:Option Addr) (cap b:Nat) (xs:List SpanE) (w:World) (hzl:zs.length<=1048576) (hzr:∀ i,0<=zs.getD i 0/\zs.getD i 0 < 2 ^ 64) (hz:CRow w gz zs) (hn:xs.length<=1048576) (hwf:∀ i,i < xs.length->wfS (eAt eSpan xs i)) (h:ERow eSpan w b (.slice a xs.length cap) xs) :
  Calls Tryz.prog 8 #[.agg #[.slice (some ⟨gz,0,none⟩) zs.length cz],.slice a xs.length cap] w fun e w'=>PlanPost w (planF zs xs) e w':=by
 obtain ⟨wb,hwb⟩:∃ wb,wb=(w.alloc (.cells #[.slice (some ⟨gz,0,none⟩) zs.length cz] 31)).alloc (.cells #[] 74):=⟨_,rfl⟩
 have hbb:Below w.heap.size w wb:=by rw [hwb]; exact ((Below.refl _ _).alloc (Nat.le_refl _) _).alloc (by simp) _
 have hzb:wb.heap.size=w.heap.size+2:=by rw [hwb]; simp
 have hvo:wb.heap[w.heap.size+1]?=some (.cells #[] 74):=by
  rw [hwb]
  have:=heap_alloc_new (w.alloc (.cells #[.slice (some ⟨gz,0,none⟩) zs.length cz] 31)) (.cells #[] 74)
  simpa using this
 have q0:wb.cell? ⟨w.heap.size,0,none⟩=some (.slice (some ⟨gz,0,none⟩) zs.length cz):=by rw [hwb]; simp [go_sem]
 have hpc:=specPlaces_any gz zs cz hzl hzr wb (hz.below hbb hz.lt)
 unfold PlacesPost at hpc
 have HVS:Hid (∀ wX,Below wb.heap.size wb wX->Calls Tryz.prog 27 #[.slice a xs.length cap] wX fun e w'=>e=.returned (.bool (vsB xs))/\Below wX.heap.size wX w'):=hidOf <| fun wX hX=>specVS_any a cap b xs wX hn hwf (h.below (hbb.trans (hX.mono (by omega))))
 have HH:Hid (∀ wX,VS xs->Below wb.heap.size wb wX->Calls Tryz.prog 28 #[.slice a xs.length cap] wX fun e w'=>∃ g c,e=.returned (.slice (some ⟨g,0,none⟩) 4096 c)/\ERow eHit w' wX.heap.size (.slice (some ⟨g,0,none⟩) 4096 c) (hitsTo xs 4096)/\Below wX.heap.size wX w'):=fun wX h1 hX=>l5Hits_any a cap b xs wX hn h1 (h.below (hbb.trans (hX.mono (by omega))))
 have HWB:Hid (wb=_):=hwb
 have HBB:Hid (Below w.heap.size w wb):=hbb
 have HZB:Hid (wb.heap.size=w.heap.size+2):=hzb
 have HQ0:Hid (wb.cell? ⟨w.heap.size,0,none⟩=some (.slice (some ⟨gz,0,none⟩) zs.length cz)):=q0
 have HEND:Hid (∀ k w',Below wb.heap.size wb w'->PlanPost w ([],k) (.returned (.tuple #[.slice (some ⟨w.heap.size+1,0,none⟩) 0 0,.int .i64 k])) w'):=hidOf <| fun k w' hX=>⟨_,_,rfl,eOp_void (w.heap.size+1) ((hX.block _ (by omega)).trans hvo) (by omega),hbb.trans (hX.mono (by omega))⟩
 have N0:w.heap.size < wb.heap.size:=by omega
 clear hwb hbb hzb q0 hvo
 by_cases hpt:ptree zs=true
 ·by_cases hvb:vsB xs=true
  ·by_cases hfr:nfr zs.length < ((wPre (lay xs) 256).length:Nat)
   ·rw [hpt] at hpc
    rw [hvb] at HVS
    have hvs:=VS.of_true hvb
    have hfrm:=frames_any (some ⟨gz,0,none⟩) zs.length cz (by omega)
    have hnf:=ptree_nfr hpt
    have hn1:=(nfr_mul zs.length hnf).2
    obtain ⟨n,hnn⟩:∃ n:Nat,nfr zs.length=n:=⟨(nfr zs.length).toNat,by omega⟩
    rw [planF_3 hpt hvb hfr]
    have dN:decide ((n:Int) < ((wPre (lay xs) 256).length:Int))=true:=decide_eq_true (by omega)
    have dN2:decide (n < (wPre (lay xs) 256).length)=true:=decide_eq_true (by omega)
    have pN:n < (wPre (lay xs) 256).length:=by omega
    rw [hnn] at hfrm
    clear hfr hn1 hnf hnn hpt hvb hzr hz h hwf
    go_enter Tryz.func8,Tryz.ntmps8
    go_wp2_with fail
    rw [<- HWB.out]
    refine hpc.mono ?_
    rintro e w1 ⟨ap,cp,rfl,hrp,hb1⟩
    have hv:=HVS.out w1 hb1
    have HB1:Hid (Below wb.heap.size wb w1):=hb1
    clear hpc hrp hb1
    go_wp2_with fail
    refine hv.mono ?_
    rintro e w2 ⟨rfl,hb2⟩
    have b2:Below wb.heap.size wb w2:=HB1.out.trans (hb2.mono HB1.out.size)
    have hh:=HH.out w2 hvs b2
    have HB2:Hid (Below wb.heap.size wb w2):=b2
    clear hv hb2 b2
    go_wp2_with fail
    refine hh.mono ?_
    rintro e w3 ⟨gh,ch,rfl,hrh,hb3⟩
    have b3:Below wb.heap.size wb w3:=HB2.out.trans (hb3.mono HB2.out.size)
    have hwt:=l5Wanted_any gh ch w2.heap.size (hitsTo xs 4096) w3 (hitsTo_len xs 4096) (by rw [hitsTo_len]; exact hrh)
    have HB3:Hid (Below wb.heap.size wb w3):=b3
    have hly:hF (hitsTo xs 4096)=lay xs:=rfl
    rw [hly] at hwt
    clear hh hrh hb3 b3 hly
    go_wp2_with fail
    refine hwt.mono ?_
    rintro e w4 ⟨gw,cw,rfl,hrw,hb4⟩
    have b4:Below wb.heap.size wb w4:=HB3.out.trans (hb4.mono HB3.out.size)
    have m4:w4.cell? ⟨w.heap.size,0,none⟩=some (.slice (some ⟨gz,0,none⟩) zs.length cz):=(b4.cell (p:=⟨w.heap.size,0,none⟩) N0).trans HQ0.out
    have HB4:Hid (Below wb.heap.size wb w4):=b4
    have hf4:=hfrm w4
    clear hwt hrw hb4 b4
    go_wp2_with fail
    refine hf4.mono ?_
    rintro e w5 ⟨rfl,hb5⟩
    have hfin:=HEND.out 3 w5 (HB4.out.trans (hb5.mono HB4.out.size))
    clear hf4 hb5
    go_wp2_with fail
    go_ret2
    exact hfin
   ·rw [planF_0 hpt hvb hfr]
    exact specPlan_yes gz zs cz a cap b xs w hzl hzr hz hn hwf h hpt hvb hfr
  ·have hvb':vsB xs=false:=by simpa using hvb
   rw [hpt] at hpc
   rw [planF_2 hpt hvb']
   rw [hvb'] at HVS
   clear hvb hvb' hpt hzr hz HH h hwf
   go_enter Tryz.func8,Tryz.ntmps8
   go_wp2_with fail
   rw [<- HWB.out]
   refine hpc.mono ?_
   rintro e w1 ⟨ap,cp,rfl,hrp,hb1⟩
   have hv:=HVS.out w1 hb1
   have HB1:Hid (Below wb.heap.size wb w1):=hb1
   clear hpc hrp hb1
   go_wp2_with fail
   refine hv.mono ?_
   rintro e w2 ⟨rfl,hb2⟩
   have hfin:=HEND.out 2 w2 (HB1.out.trans (hb2.mono HB1.out.size))
   clear hv hb2
   go_wp2_with fail
   go_ret2
   exact hfin
 ·have hpt':ptree zs=false:=by simpa using hpt
  rw [planF_1 hpt']
  rw [hpt'] at hpc
  clear hpt hpt' hzr hz HH HVS h hwf
  go_enter Tryz.func8,Tryz.ntmps8
  go_wp2_with fail
  rw [<- HWB.out]
  refine hpc.mono ?_
  rintro e w1 ⟨ap,cp,rfl,hrp,hb1⟩
  have hfin:=HEND.out 1 w1 hb1
  clear hpc hrp hb1
  go_wp2_with fail
  go_ret2
  exact hfin
set_option maxHeartbeats 4000000 in
theorem specBuild_any (a:Option Addr) (cap b:Nat) (xs:List SpanE) (fr:Int) (w:World) (hn:xs.length<=1048576) (hf0:-9223372036854775808<=fr) (hf1:fr<=9223372036854775807) (hwf:∀ i,i < xs.length->wfS (eAt eSpan xs i)) (h:ERow eSpan w b (.slice a xs.length cap) xs) :
  Calls Tryz.prog 19 #[.slice a xs.length cap,.int .i64 fr] w fun e w'=>BuildPost w (buildF xs fr) e w':=by
 obtain ⟨wb,hwb⟩:∃ wb,wb=w.alloc (.cells #[.slice none 0 0] 31):=⟨_,rfl⟩
 have hbb:Below w.heap.size w wb:=by rw [hwb]; exact bal
 have hzb:wb.heap.size=w.heap.size+1:=by rw [hwb]; simp
 have q0:wb.cell? ⟨w.heap.size,0,none⟩=some (.slice none 0 0):=by rw [hwb]; simp [go_sem]
 have f0:wb.frozen? ⟨w.heap.size,0,none⟩=false:=by rw [hwb]; simp [go_sem]
 have hvs0:=specVS_any a cap b xs wb hn hwf (h.below hbb)
 have HPL:Hid (∀ g F wX,Below wb.heap.size wb wX->F<=512->CRow wX g (zeroZ F)->Calls Tryz.prog 8 #[.agg #[.slice (some ⟨g,0,none⟩) (zeroZ F).length (zeroZ F).length],.slice a xs.length cap] wX fun e w'=>PlanPost wX (planF (zeroZ F) xs) e w'):=hidOf <| fun g F wX hX hF hc=>specPlan_any g (zeroZ F) (zeroZ F).length a cap b xs wX (by rw [zeroZ_len]; omega) (fun i=>by rw [zeroZ_at]; exact ⟨Int.le_refl _,by decide⟩) hc hn hwf (h.below (hbb.trans (hX.mono (by omega))))
 have HWB:Hid (wb=_):=hwb
 have HBB:Hid (Below w.heap.size w wb):=hbb
 have HZB:Hid (wb.heap.size=w.heap.size+1):=hzb
 have HQ0:Hid (∀ wX,Below wb.heap.size wb wX->wX.cell? ⟨w.heap.size,0,none⟩=some (.slice none 0 0)/\wX.frozen? ⟨w.heap.size,0,none⟩=false):=hidOf <| fun wX hX=>⟨(hX.cell (p:=⟨w.heap.size,0,none⟩) (show w.heap.size < _ by omega)).trans q0,(hX.frozen (p:=⟨w.heap.size,0,none⟩) (show w.heap.size < _ by omega)).trans f0⟩
 have HEND:Hid (∀ k w',Below wb.heap.size wb w'->∀ u,BuildPost w ([],k) (.returned (.tuple #[.agg #[.slice none 0 0],.int .i64 k])) (w'.setCell ⟨w.heap.size,0,none⟩ u)):=hidOf <| fun k w' hX u=>⟨none,0,rfl,eWord_nil _ _,(hbb.trans (hX.mono (by omega))).setCell (Nat.le_refl _) _⟩
 have N0:w.heap.size < wb.heap.size:=by omega
 clear hwb hbb hzb q0 f0 h hwf
 unfold buildF
 cases hvb:vsB xs
 ·rw [if_pos rfl]
  rw [hvb] at hvs0
  clear hvb
  go_enter Tryz.func19,Tryz.ntmps19
  go_wp2_with fail
  rw [<- HWB.out]
  refine hvs0.mono ?_
  rintro e w1 ⟨rfl,hb1⟩
  obtain ⟨k0,k1⟩:=HQ0.out w1 hb1
  have hl1:w.heap.size < w1.heap.size:=Nat.lt_of_lt_of_le N0 hb1.size
  have hfin:=HEND.out 1 w1 hb1 (.slice none 0 0)
  have r0:(w1.setCell ⟨w.heap.size,0,none⟩ (.slice none 0 0)).cell? ⟨w.heap.size,0,none⟩=some (.slice none 0 0):=World.cell?_setCell_same _ _ _ k0
  clear hvs0 hb1
  go_wp2_with fail
  refine bodyPost_ret (v:=.tuple #[.agg #[.slice none 0 0],.int .i64 1]) (by simp [results,Tryz.results19,go_sem,r0]) rfl ?_
  exact hfin
 ·rw [if_neg (by decide)]
  rw [hvb] at hvs0
  clear hvb
  by_cases hr:fr < 1\/512 < fr
  ·rw [if_pos hr]
   by_cases h1:fr < 1
   ·have d1:decide (fr < 1)=true:=decide_eq_true h1
    clear hr
    go_enter Tryz.func19,Tryz.ntmps19
    go_wp2_with fail
    rw [<- HWB.out]
    refine hvs0.mono ?_
    rintro e w1 ⟨rfl,hb1⟩
    obtain ⟨k0,k1⟩:=HQ0.out w1 hb1
    have hl1:w.heap.size < w1.heap.size:=Nat.lt_of_lt_of_le N0 hb1.size
    have hfin:=HEND.out 2 w1 hb1 (.slice none 0 0)
    have r0:(w1.setCell ⟨w.heap.size,0,none⟩ (.slice none 0 0)).cell? ⟨w.heap.size,0,none⟩=some (.slice none 0 0):=World.cell?_setCell_same _ _ _ k0
    clear hvs0 hb1
    go_wp2_with fail
    refine bodyPost_ret (v:=.tuple #[.agg #[.slice none 0 0],.int .i64 2]) (by simp [results,Tryz.results19,go_sem,r0]) rfl ?_
    exact hfin
   ·have h2:512 < fr:=by omega
    have d1:decide (fr < 1)=false:=decide_eq_false h1
    have d2:decide (512 < fr)=true:=decide_eq_true h2
    clear hr
    go_enter Tryz.func19,Tryz.ntmps19
    go_wp2_with fail
    rw [<- HWB.out]
    refine hvs0.mono ?_
    rintro e w1 ⟨rfl,hb1⟩
    obtain ⟨k0,k1⟩:=HQ0.out w1 hb1
    have hl1:w.heap.size < w1.heap.size:=Nat.lt_of_lt_of_le N0 hb1.size
    have hfin:=HEND.out 2 w1 hb1 (.slice none 0 0)
    have r0:(w1.setCell ⟨w.heap.size,0,none⟩ (.slice none 0 0)).cell? ⟨w.heap.size,0,none⟩=some (.slice none 0 0):=World.cell?_setCell_same _ _ _ k0
    clear hvs0 hb1
    go_wp2_with fail
    refine bodyPost_ret (v:=.tuple #[.agg #[.slice none 0 0],.int .i64 2]) (by simp [results,Tryz.results19,go_sem,r0]) rfl ?_
    exact hfin
  ·rw [if_neg hr]
   obtain ⟨F,rfl⟩:∃ F:Nat,fr=F:=⟨fr.toNat,by omega⟩
   have hFT:((F:Nat):Int).toNat=F:=rfl
   rw [hFT]
   have hF1:1<=F:=by omega
   have hF2:F<=512:=by omega
   obtain ⟨ZL,hZL⟩:∃ ZL,F * 16=ZL:=⟨_,rfl⟩
   have hZ8:ZL<=8192:=by omega
   have hzl:(zeroZ F).length=ZL:=by rw [zeroZ_len,hZL]
   have W1:IntKind.i64.wrap ((F:Int) * 16)=(ZL:Int):=by rw [IntKind.wrap_i64]; omega
   have hmk:=run_make_row' (P:=Tryz.prog) 22 70 (.int .u64 0) 8 Tryz.underlying22 info_u64 rfl .i64 .i64 ZL (by omega) (by omega)
   have hin:=planF_in (zeroZ F) xs
   have HLEN:Hid (∀ l,(wrs (zeroZ F) l).length=ZL):=hidOf <| fun l=>by rw [wrs_len,hzl]
   rw [hzl] at hin
   have HZ0:Hid (∀ i,(zeroZ F).getD i 0=0):=zeroZ_at F
   have HPL2:Hid (∀ g wX,Below wb.heap.size wb wX->CRow wX g (zeroZ F)->Calls Tryz.prog 8 #[.agg #[.slice (some ⟨g,0,none⟩) ZL ZL],.slice a xs.length cap] wX fun e w'=>PlanPost wX (planF (zeroZ F) xs) e w'):=hidOf <| fun g wX hX hc=>by
    have h9:=HPL.out g F wX hX hF2 hc
    rw [hzl] at h9
    exact h9
   have HZLN:Hid ((zeroZ F).length=ZL):=hzl
   have hpl:=planF_len0 (zeroZ F) xs
   generalize planF (zeroZ F) xs=PF at *
   obtain ⟨l,code⟩:=PF
   dsimp only at *
   have d1:decide ((F:Int) < 1)=false:=decide_eq_false (by omega)
   have d2:decide ((512:Int) < (F:Int))=false:=decide_eq_false (by omega)
   clear hr HPL hzl hFT hZL
   generalize zeroZ F=ZS at *
   by_cases hcode:code=0
   ·subst hcode
    rw [if_neg (by decide)]
    go_enter Tryz.func19,Tryz.ntmps19
    go_wp2_with fail
    rw [<- HWB.out]
    refine hvs0.mono ?_
    rintro e w1 ⟨rfl,hb1⟩
    have HB1:Hid (Below wb.heap.size wb w1):=hb1
    clear hvs0 hb1
    obtain ⟨wM,hwM⟩:∃ wM,wM=(w1.alloc (.cells (madeCells #[.int .u64 0] ZL) 70)).alloc (.cells #[.slice (some ⟨w1.heap.size,0,none⟩) ZL ZL] 31):=⟨_,rfl⟩
    have hbM:Below w1.heap.size w1 wM:=by rw [hwM]; exact ((Below.refl _ _).alloc (Nat.le_refl _) _).alloc (by simp) _
    have hzM:wM.heap.size=w1.heap.size+2:=by rw [hwM]; simp
    have hrow:IRow wM w1.heap.size ZS:=by
     unfold IRow
     rw [HZLN.out,hwM]
     refine World.rowIs.alloc ((World.rowIs_made w1 (.int .u64 0) ZL 70).congr (fun i hi=>?_)) _
     rw [HZ0.out]
    have m0:wM.cell? ⟨w1.heap.size+1,0,none⟩=some (.slice (some ⟨w1.heap.size,0,none⟩) ZL ZL):=by rw [hwM]; simp [go_sem]
    have HBM:Hid (Below wb.heap.size wb wM):=HB1.out.trans (hbM.mono HB1.out.size)
    have hp:=HPL2.out w1.heap.size wM HBM.out hrow.c
    have HROW:Hid (IRow wM w1.heap.size ZS):=hrow
    have HM0:Hid (wM.cell? ⟨w1.heap.size+1,0,none⟩=some (.slice (some ⟨w1.heap.size,0,none⟩) ZL ZL)):=m0
    have HZM:Hid (wM.heap.size=w1.heap.size+2):=hzM
    have hw1:w.heap.size < w1.heap.size:=Nat.lt_of_lt_of_le N0 HB1.out.size
    have HWM:Hid (wM=_):=hwM
    have N2:w1.heap.size+1 < wM.heap.size:=by omega
    clear hwM hbM hzM hrow m0 HPL2
    go_wp2_with fail
    rw [<- HWM.out]
    refine hp.mono ?_
    rintro e wY ⟨aP,cP,rfl,hrP,hbP⟩
    dsimp only at hrP
    have hmY:=(hbP.cell (p:=⟨w1.heap.size+1,0,none⟩) N2).trans HM0.out
    have HRY:Hid (IRow wY w1.heap.size ZS):=HROW.out.below hbP (by omega)
    have HBY:Hid (Below wb.heap.size wb wY):=HBM.out.trans (hbP.mono HBM.out.size)
    have HMY:Hid (wY.cell? ⟨w1.heap.size+1,0,none⟩=some (.slice (some ⟨w1.heap.size,0,none⟩) ZL ZL)):=hmY
    have hsY:=hbP.size
    have HRP:Hid (∀ wX,Tch (fun k=>k=w1.heap.size) wY wX->ERow eOp wX wM.heap.size (.slice aP l.length cP) l):=hidOf <| fun wX hX=>hrP.tch hX (fun k hk e=>by have:=(hrP.own k (by rw [own_sl]; exact hk)).1; omega)
    have N3:w1.heap.size+1 < wY.heap.size:=by omega
    clear hp hrP hbP hmk
    go_wp2_with fail
    go_loopw [9] (fun iv wr=>∃ i:Nat,i<=l.length/\iv=.int .i64 i/\IRow wr w1.heap.size (wrs ZS (l.take i))/\Tch (fun k=>k=w1.heap.size) wY wr) (fun iv _=>l.length - (intOf iv).toNat)
    case atStart=>exact ⟨0,Nat.zero_le _,rfl,by rw [List.take_zero]; exact HRY.out,Tch.refl _⟩
    case round =>
     obtain ⟨i,hi,rfl,hrow,htc⟩:=hrel
     have hmr:wr.cell? ⟨w1.heap.size+1,0,none⟩=some (.slice (some ⟨w1.heap.size,0,none⟩) ZL ZL):=(htc.cell (p:=⟨w1.heap.size+1,0,none⟩) N3 (by show ¬ w1.heap.size+1=w1.heap.size; omega)).trans HMY.out
     have hszr:=htc.size
     by_cases hlt:i < l.length
     ·have hrw:=HRP.out wr htc
      obtain ⟨g,rfl⟩:∃ g,aP=some ⟨g,0,none⟩:=by
       obtain ⟨a',c',e,h1⟩:=hrw.form
       obtain ⟨g,N,f,e2,_⟩:=h1 (by omega)
       simp only [Value.slice.injEq] at e
       exact ⟨g,by rw [e.1,e2]⟩
      obtain ⟨hgl,x0,x1,x2,x3⟩:=op_cells hrw i hlt
      have hgg:wM.heap.size<=g:=(hrw.own g rfl).1
      have HSU:Hid (wrs ZS (l.take (i+1))=wr1 (wrs ZS (l.take i)) (eAt eOp l i)):=wrs_succ ZS l i hlt
      have hmem:eAt eOp l i ∈ l:=by
       unfold eAt
       rw [List.getD_eq_getElem?_getD,List.getElem?_eq_getElem hlt]
       exact List.getElem_mem hlt
      have hi9:=hin _ hmem
      have hWL:=HLEN.out (l.take i)
      generalize eAt eOp l i=OO at x0 x1 x2 x3 hi9 HSU hmem
      obtain ⟨K,A,Bb,W⟩:=OO
      dsimp only at x0 x1 x2 x3 hi9
      obtain ⟨WS,hWS⟩:∃ WS,wrs ZS (l.take i)=WS:=⟨_,rfl⟩
      rw [hWS] at hrow HSU hWL
      have L1:(0:Int)<=(i:Int):=by omega
      have L2:(i:Int) < (l.length:Int):=by omega
      have HROWR:Hid (IRow wr w1.heap.size WS):=hrow
      have HTC:Hid (Tch (fun k=>k=w1.heap.size) wY wr):=htc
      by_cases hK:K=1
      ·subst hK
       obtain ⟨i1,i2⟩:=hi9 rfl
       obtain ⟨AN,rfl⟩:∃ AN:Nat,A=AN:=⟨A.toNat,by omega⟩
       have HS1:Hid (wrs ZS (l.take (i+1))=WS.set AN W):=hidOf <| by rw [HSU.out]; rfl
       have o0:=hrow.cell (i:=AN) (by omega)
       have o1:=World.rowIs.frozen hrow AN
       generalize WS.getD AN 0=OV at o0
       have L3:(0:Int)<=(AN:Int):=by omega
       have L4:(AN:Int) < (ZL:Int):=by omega
       have L5:w1.heap.size < wr.heap.size:=by omega
       have L6:w1.heap.size+1 < wr.heap.size:=by omega
       have HNX:Hid (∀ w9,Below wr.heap.size wr w9->IRow (w9.setCell ⟨w1.heap.size,AN,none⟩ (.int .u64 W)) w1.heap.size (WS.set AN W)/\Tch (fun k=>k=w1.heap.size) wY (w9.setCell ⟨w1.heap.size,AN,none⟩ (.int .u64 W))):=hidOf <| fun w9 h9=>⟨IRow.put (HROWR.out.below h9 L5),(HTC.out.then (Tch.of_below (S:=fun _=>False) h9) (fun k _ hh=>hh.elim)).set _ _ rfl⟩
       clear hrow htc hi9 hin HSU hrw hmem hWS
       have HSB:Hid (∀ u,(wr.setCell ⟨w1.heap.size,AN,none⟩ u).cell? ⟨w1.heap.size+1,0,none⟩=some (.slice (some ⟨w1.heap.size,0,none⟩) ZL ZL)/\(wr.setCell ⟨w1.heap.size,AN,none⟩ u).cell? ⟨g,i * 4+1,none⟩=some (.int .i64 (AN:Int))/\(wr.setCell ⟨w1.heap.size,AN,none⟩ u).cell? ⟨g,i * 4+3,none⟩=some (.int .u64 W)):=fun u=>⟨(World.cell?_setCell_other _ _ _ _ (fun e=>by simp only [Addr.mk.injEq] at e; omega)).trans hmr,(World.cell?_setCell_other _ _ _ _ (fun e=>by simp only [Addr.mk.injEq] at e; omega)).trans x1,(World.cell?_setCell_other _ _ _ _ (fun e=>by simp only [Addr.mk.injEq] at e; omega)).trans x3⟩
       go_wp2_with fail
       refine wp_region_held_drew (S:=fun wX=>wX.cell? ⟨w1.heap.size+1,0,none⟩=some (.slice (some ⟨w1.heap.size,0,none⟩) ZL ZL)/\wX.cell? ⟨g,i * 4+1,none⟩=some (.int .i64 (AN:Int))/\wX.cell? ⟨g,i * 4+3,none⟩=some (.int .u64 W)) (by kernel_rfl) ⟨hmr,x1,x3⟩ (fun hHeld=>?_)
       refine tk 0 ?_
       refine tk 1 ?_
       refine tk 2 ?_
       refine tk 3 ?_
       refine tk 4 ?_
       refine tk 5 ?_
       refine tk 6 ?_
       refine tk 7 ?_
       refine tk 8 ?_
       refine tk 9 ?_
       refine tk 10 ?_
       refine tk 11 ?_
       refine tk 12 ?_
       refine wpAnyH_ready (rs:=[13]) (by kernel_rfl) (by simp) ?_
       refine AllReadyH.cons rfl (fun K hK=>?_) AllReadyH.nil
       go_simp
       refine hK.out _ _ (HSB.out _) (fun hHeld2=>?_)
       clear hK K
       refine wpAnyH_done (by kernel_rfl) ?_ _
       clear hHeld hHeld2
       go_wp2_with fail
       go_roundw
       case rel=>exact ⟨i+1,by omega,by go_num,by rw [HS1.out]; exact (HNX.out wr (Below.refl _ _)).1,(HNX.out wr.drew (Below.refl _ _).drew).2⟩
       case measure=>simp [intOf]; omega
      ·have HS1:Hid (wrs ZS (l.take (i+1))=WS):=hidOf <| by rw [HSU.out]; unfold wr1; rw [if_neg hK]
       have dK:(K == 1)=false:=by simpa using hK
       have HNX:Hid (∀ w9,Below wr.heap.size wr w9->IRow w9 w1.heap.size WS/\Tch (fun k=>k=w1.heap.size) wY w9):=hidOf <| fun w9 h9=>⟨HROWR.out.below h9 (by omega),HTC.out.then (Tch.of_below (S:=fun _=>False) h9) (fun k _ hh=>hh.elim)⟩
       clear hrow htc hi9 hin HSU hrw hmem hWS
       go_wp2_with fail
       go_roundw
       case rel=>exact ⟨i+1,by omega,by go_num,by rw [HS1.out]; exact (HNX.out _ (Below.refl _ _)).1,(HNX.out _ (Below.refl _ _)).2⟩
       case measure=>simp [intOf]; omega
     ·have ei:i=l.length:=by omega
      subst ei
      rw [List.take_length] at hrow
      obtain ⟨k0,k1⟩:=HQ0.out wY HBY.out
      have kr0:wr.cell? ⟨w.heap.size,0,none⟩=some (.slice none 0 0):=(htc.cell (p:=⟨w.heap.size,0,none⟩) (by show w.heap.size < _; omega) (by show ¬ w.heap.size=_; omega)).trans k0
      have kr1:wr.frozen? ⟨w.heap.size,0,none⟩=false:=(htc.frozen (p:=⟨w.heap.size,0,none⟩) (by show w.heap.size < _; omega) (by show ¬ w.heap.size=_; omega)).trans k1
      have hl1:w.heap.size < wr.heap.size:=by omega
      have r0:(wr.setCell ⟨w.heap.size,0,none⟩ (.slice (some ⟨w1.heap.size,0,none⟩) ZL ZL)).cell? ⟨w.heap.size,0,none⟩=some (.slice (some ⟨w1.heap.size,0,none⟩) ZL ZL):=World.cell?_setCell_same _ _ _ kr0
      have hfin:BuildPost w (wrs ZS l,0) (.returned (.tuple #[.agg #[.slice (some ⟨w1.heap.size,0,none⟩) ZL ZL],.int .i64 0])) (wr.setCell ⟨w.heap.size,0,none⟩ (.slice (some ⟨w1.heap.size,0,none⟩) ZL ZL)):=by
       have hl9:=HLEN.out l
       have hrw2:IRow (wr.setCell ⟨w.heap.size,0,none⟩ (.slice (some ⟨w1.heap.size,0,none⟩) ZL ZL)) w1.heap.size (wrs ZS l):=hrow.tch (S:=fun k=>k=w.heap.size) ((Tch.refl wr).set _ _ rfl) (by omega)
       have he:=hrw2.erow (base:=w.heap.size) (by omega) (by rw [hl9]; omega)
       rw [hl9] at he
       refine ⟨some ⟨w1.heap.size,0,none⟩,ZL,by dsimp only; rw [hl9],by dsimp only; rw [hl9]; exact he,?_⟩
       have hB0:Below w.heap.size w wY:=HBB.out.trans (HBY.out.mono (by omega))
       have ht9:=((Tch.of_below (S:=fun k=>w.heap.size<=k) hB0).then htc (fun k _ hh=>by omega)).set ⟨w.heap.size,0,none⟩ (.slice (some ⟨w1.heap.size,0,none⟩) ZL ZL) (Nat.le_refl _)
       exact ht9.below (fun k hk hh=>by omega)
      clear hrow htc k0 k1
      go_wp2_with fail
      refine bodyPost_ret (v:=.tuple #[.agg #[.slice (some ⟨w1.heap.size,0,none⟩) ZL ZL],.int .i64 0]) (by simp [results,Tryz.results19,go_sem,r0]) rfl ?_
      exact hfin
   ·rw [if_pos hcode]
    have dc:(code != 0)=true:=by simpa using hcode
    go_enter Tryz.func19,Tryz.ntmps19
    go_wp2_with fail
    rw [<- HWB.out]
    refine hvs0.mono ?_
    rintro e w1 ⟨rfl,hb1⟩
    have HB1:Hid (Below wb.heap.size wb w1):=hb1
    clear hvs0 hb1
    obtain ⟨wM,hwM⟩:∃ wM,wM=(w1.alloc (.cells (madeCells #[.int .u64 0] ZL) 70)).alloc (.cells #[.slice (some ⟨w1.heap.size,0,none⟩) ZL ZL] 31):=⟨_,rfl⟩
    have hbM:Below w1.heap.size w1 wM:=by rw [hwM]; exact ((Below.refl _ _).alloc (Nat.le_refl _) _).alloc (by simp) _
    have hrow:IRow wM w1.heap.size ZS:=by
     unfold IRow
     rw [HZLN.out,hwM]
     refine World.rowIs.alloc ((World.rowIs_made w1 (.int .u64 0) ZL 70).congr (fun i hi=>?_)) _
     rw [HZ0.out]
    have HBM:Hid (Below wb.heap.size wb wM):=HB1.out.trans (hbM.mono HB1.out.size)
    have hp:=HPL2.out w1.heap.size wM HBM.out hrow.c
    have HWM:Hid (wM=_):=hwM
    clear hwM hbM hrow HPL2 hcode
    go_wp2_with fail
    rw [<- HWM.out]
    refine hp.mono ?_
    rintro e wY ⟨aP,cP,rfl,hrP,hbP⟩
    have hB:=HBM.out.trans (hbP.mono HBM.out.size)
    obtain ⟨k0,k1⟩:=HQ0.out wY hB
    have hl1:w.heap.size < wY.heap.size:=Nat.lt_of_lt_of_le N0 hB.size
    have hfin:=HEND.out 3 wY hB (.slice none 0 0)
    have r0:(wY.setCell ⟨w.heap.size,0,none⟩ (.slice none 0 0)).cell? ⟨w.heap.size,0,none⟩=some (.slice none 0 0):=World.cell?_setCell_same _ _ _ k0
    clear hp hrP hbP hB hmk
    go_wp2_with fail
    refine bodyPost_ret (v:=.tuple #[.agg #[.slice none 0 0],.int .i64 3]) (by simp [results,Tryz.results19,go_sem,r0]) rfl ?_
    exact hfin
end Go.Proofs.YtnmhkgmmpkjjeacGreat
