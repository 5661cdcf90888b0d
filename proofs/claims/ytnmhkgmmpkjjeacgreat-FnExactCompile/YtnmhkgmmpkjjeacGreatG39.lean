import Derived.Test.YtnmhkgmmpkjjeacGreatG30
namespace Go.Proofs.YtnmhkgmmpkjjeacGreat
open Go.ChangeShapes Go.WideShapes Go.ChangeAt Go.RowKit
set_option linter.unusedVariables false
set_option maxRecDepth 100000
attribute [local go_sem ↓] Go.wp_at_zero Go.wp_at_succ
set_option maxRecDepth 100000 in
set_option maxHeartbeats 8000000 in
theorem specPlan_yes (gz:Nat) (zs:List Int) (cz:Nat) (a:Option Addr) (cap b:Nat) (xs:List SpanE) (w:World) (hzl:zs.length<=1048576) (hzr:∀ i,0<=zs.getD i 0/\zs.getD i 0 < 2 ^ 64) (hz:CRow w gz zs) (hn:xs.length<=1048576) (hwf:∀ i,i < xs.length->wfS (eAt eSpan xs i)) (h:ERow eSpan w b (.slice a xs.length cap) xs)
  (ht:ptree zs=true) (hv:vsB xs=true) (hN:¬ nfr zs.length < ((wPre (lay xs) 256).length:Nat)) :
  Calls Tryz.prog 8 #[.agg #[.slice (some ⟨gz,0,none⟩) zs.length cz],.slice a xs.length cap] w fun e w'=>PlanPost w (planL zs (nfr zs.length).toNat (lay xs) (plist zs),0) e w':=by
 obtain ⟨iP,hiP,hzP0,hzP1,hzP2⟩:=info_parts info_place
 obtain ⟨iO,hiO,hzO0,hzO1,hzO2⟩:=info_parts infoOp
 have hnf:=ptree_nfr ht
 have hnm:=nfr_mul zs.length hnf
 have hnl:=nfr_le zs.length
 obtain ⟨n,hnn⟩:∃ n:Nat,nfr zs.length=n:=⟨(nfr zs.length).toNat,by omega⟩
 have hpo:PlcOk n (plist zs):=by rw [<- hnn]; exact plcOk_plist zs hnf
 have hpl:=plist_length zs
 have hT:(nfr zs.length).toNat=n:=by rw [hnn]; rfl
 rw [hT]
 obtain ⟨wb,hwb⟩:∃ wb,wb=(w.alloc (.cells #[.slice (some ⟨gz,0,none⟩) zs.length cz] 31)).alloc (.cells #[] 74):=⟨_,rfl⟩
 have hbb:Below w.heap.size w wb:=by rw [hwb]; exact ((Below.refl _ _).alloc (Nat.le_refl _) _).alloc (by simp) _
 have hzb:wb.heap.size=w.heap.size+2:=by rw [hwb]; simp
 have q0:wb.cell? ⟨w.heap.size,0,none⟩=some (.slice (some ⟨gz,0,none⟩) zs.length cz):=by rw [hwb]; simp [go_sem]
 have hpc:=specPlaces_any gz zs cz hzl hzr wb (hz.below hbb hz.lt)
 unfold PlacesPost at hpc
 rw [ht,hwb] at hpc
 have HK0:Hid (∀ wX,Below wb.heap.size wb wX->wX.cell? ⟨w.heap.size,0,none⟩=some (.slice (some ⟨gz,0,none⟩) zs.length cz)/\(∀ i:Nat,i < zs.length->wX.cell? ⟨gz,i,none⟩=some (.int .u64 (zs.getD i 0)))/\gz < wX.heap.size/\Below w.heap.size w wX):=hidOf <| fun wX hX=>⟨(hX.cell (by simp; omega)).trans q0,fun i hi=>((hz.below hbb hz.lt).below hX (by have:=hz.lt; have:=hbb.size; omega)).cell hi,by have:=hz.lt; have:=hbb.size; have:=hX.size; omega,hbb.trans (hX.mono (by omega))⟩
 have HVS:Hid (∀ wX,Below wb.heap.size wb wX->Calls Tryz.prog 27 #[.slice a xs.length cap] wX fun e w'=>e=.returned (.bool true)/\Below wX.heap.size wX w'):=hidOf <| fun wX hX=>by
  have:=specVS_any a cap b xs wX hn hwf (h.below (hbb.trans (hX.mono (by omega))))
  rw [hv] at this
  exact this
 have HH:Hid (∀ wX,Below wb.heap.size wb wX->Calls Tryz.prog 28 #[.slice a xs.length cap] wX fun e w'=>∃ g c,e=.returned (.slice (some ⟨g,0,none⟩) 4096 c)/\ERow eHit w' wX.heap.size (.slice (some ⟨g,0,none⟩) 4096 c) (hitsTo xs 4096)/\Below wX.heap.size wX w'):=hidOf <| fun wX hX=>l5Hits_any a cap b xs wX hn (VS.of_true hv) (h.below (hbb.trans (hX.mono (by omega))))
 have hfrm:=frames_any (some ⟨gz,0,none⟩) zs.length cz (by omega)
 rw [hnn] at hfrm hN
 have HPO:Hid (PlcOk n (plist zs)):=hpo
 have HZR:Hid (∀ i,0<=zs.getD i 0/\zs.getD i 0 < 2 ^ 64):=hzr
 have HNZ:Hid (n * 16=zs.length/\1<=n/\n<=512):=by
  rw [hnn] at hnm hnl
  exact ⟨by omega,by omega,by omega⟩
 obtain ⟨H,hH⟩:∃ H,lay xs=H:=⟨_,rfl⟩
 have HLY:Hid (hF (hitsTo xs 4096)=H):=hidOf <| by rw [<- hH]; rfl
 rw [hH] at hN ⊢
 obtain ⟨ps,hps⟩:∃ ps,plist zs=ps:=⟨_,rfl⟩
 rw [hps] at HPO hpl hpc ⊢
 have HWB:Hid (wb=_):=hwb
 have HBB:Hid (Below w.heap.size w wb):=hbb
 have HZ:Hid (wb.heap.size=w.heap.size+2):=hzb
 have hwn:(wPre H 256).length<=n:=by omega
 have dN:decide ((n:Int) < ((wPre H 256).length:Int))=false:=decide_eq_false (by omega)
 have dN2:decide (n < (wPre H 256).length)=false:=decide_eq_false (by omega)
 clear hwb hbb hzb hz h hwf hv hN hzr hpo hnm hnl hnn hnf hT ht hH hps q0
 obtain ⟨ws,hws⟩:∃ ws,wPre H 256=ws:=⟨_,rfl⟩
 have hwl:ws.length<=513:=by rw [<- hws]; have:=wPre_len H 256; omega
 have HWS:Hid (wPre H 256=ws):=hws
 rw [hws] at hwn dN dN2
 clear hws
 go_enter Tryz.func8,Tryz.ntmps8
 go_wp2_with fail
 refine hpc.mono ?_
 rintro e w1 ⟨ap,cp,rfl,hrp,hb1'⟩
 have hb1:Below wb.heap.size wb w1:=by rw [HWB.out]; exact hb1'
 have hrp:PRow w1 wb.heap.size (.slice ap ps.length cp) ps:=by rw [HWB.out]; exact hrp
 clear hpc hb1'
 have hvs:=HVS.out w1 hb1
 have HR1:Hid (PRow w1 wb.heap.size (.slice ap ps.length cp) ps):=hrp
 have HB1:Hid (Below wb.heap.size wb w1):=hb1
 clear hrp hb1
 go_wp2_with fail
 refine hvs.mono ?_
 rintro e w2 ⟨rfl,hb2⟩
 have b2:Below wb.heap.size wb w2:=HB1.out.trans (hb2.mono HB1.out.size)
 have hh:=HH.out w2 b2
 have HR2:Hid (PRow w2 wb.heap.size (.slice ap ps.length cp) ps):=HR1.out.below hb2
 have HB2:Hid (Below wb.heap.size wb w2):=b2
 clear hvs hb2 b2 HVS HH
 go_wp2_with fail
 refine hh.mono ?_
 rintro e w3 ⟨gh,ch,rfl,hrh,hb3⟩
 have b3:Below wb.heap.size wb w3:=HB2.out.trans (hb3.mono HB2.out.size)
 have hwt:=l5Wanted_any gh ch w2.heap.size (hitsTo xs 4096) w3 (hitsTo_len xs 4096) (by rw [hitsTo_len]; exact hrh)
 rw [HLY.out,HWS.out] at hwt
 have HR3:Hid (PRow w3 wb.heap.size (.slice ap ps.length cp) ps):=HR2.out.below hb3
 have HRH:Hid (ERow eHit w3 w2.heap.size (.slice (some ⟨gh,0,none⟩) (hitsTo xs 4096).length ch) (hitsTo xs 4096)):=hidOf <| by rw [hitsTo_len]; exact hrh
 have HB3:Hid (Below wb.heap.size wb w3):=b3
 clear hh hb3 b3 hrh
 go_wp2_with fail
 refine hwt.mono ?_
 rintro e w4 ⟨gw,cw,rfl,hrw,hb4⟩
 have b4:Below wb.heap.size wb w4:=HB3.out.trans (hb4.mono HB3.out.size)
 obtain ⟨k0,kz,kg,_⟩:=HK0.out w4 b4
 have HR4:Hid (PRow w4 wb.heap.size (.slice ap ps.length cp) ps):=HR3.out.below hb4
 have HH4:Hid (ERow eHit w4 w2.heap.size (.slice (some ⟨gh,0,none⟩) (hitsTo xs 4096).length ch) (hitsTo xs 4096)):=HRH.out.below hb4
 have HRW:Hid (ERow ePl w4 w3.heap.size (.slice (some ⟨gw,0,none⟩) ws.length cw) (asP ws)):=hidOf <| by have:=hrw; unfold PRow at this; rw [asP_len] at this; unfold ERow; rw [asP_len]; exact this
 have HB4:Hid (Below wb.heap.size wb w4):=b4
 clear hwt hb4 b4 hrw kz
 go_wp2_with fail
 refine (hfrm _).mono ?_
 rintro e w5 ⟨rfl,hb5⟩
 have b5:Below wb.heap.size wb w5:=HB4.out.trans (hb5.mono HB4.out.size)
 have HPS:Hid (∀ wX,Below w5.heap.size w5 wX->PRow wX wb.heap.size (.slice ap ps.length cp) ps):=hidOf <| fun wX hX=>(HR4.out.below hb5).below hX
 have HHS:Hid (∀ wX,Below w5.heap.size w5 wX->ERow eHit wX w2.heap.size (.slice (some ⟨gh,0,none⟩) (hitsTo xs 4096).length ch) (hitsTo xs 4096)):=hidOf <| fun wX hX=>(HH4.out.below hb5).below hX
 have HWR:Hid (∀ wX,Below w5.heap.size w5 wX->ERow ePl wX w3.heap.size (.slice (some ⟨gw,0,none⟩) (asP ws).length cw) (asP ws)):=hidOf <| fun wX hX=>by have h:=(HRW.out.below hb5).below hX; rw [asP_len]; exact h
 have HK:Hid (∀ wX,Below w5.heap.size w5 wX->wX.cell? ⟨w.heap.size,0,none⟩=some (.slice (some ⟨gz,0,none⟩) zs.length cz)/\(∀ i:Nat,i < zs.length->wX.cell? ⟨gz,i,none⟩=some (.int .u64 (zs.getD i 0)))/\gz < wX.heap.size/\Below w.heap.size w wX):=hidOf <| fun wX hX=>HK0.out wX (b5.trans (hX.mono b5.size))
 have HW5:Hid (w.heap.size+2<=w5.heap.size):=hidOf <| by have:=b5.size; have:=HZ.out; omega
 clear hb5 b5 k0 kg
 go_wp2_with fail
 have HT0:Hid (Two ePl ePl w5 ((w5.alloc (.cells #[] 62)).alloc (.cells #[] 62)) (.slice (some ⟨w5.heap.size,0,none⟩) 0 0) (.slice (some ⟨w5.heap.size+1,0,none⟩) 0 0) (keptTo H ps 0) (goneTo H ps 0)):=hidOf <| by
  have:=Two.second (F:=ePl) (LSt.new ePl w5)
  have h9:Two ePl ePl w5 ((w5.alloc (.cells #[] ePl.T)).alloc (.cells #[] ePl.T)) (.slice (some ⟨w5.heap.size,0,none⟩) 0 0) (.slice (some ⟨w5.heap.size+1,0,none⟩) 0 0) [] []:=by simpa using this
  exact h9
 go_loopw [11,12,13] (fun v1 v2 iv wr=>∃ i:Nat,i<=ps.length/\iv=.int .i64 i/\Two ePl ePl w5 wr v1 v2 (keptTo H ps i) (goneTo H ps i)) (fun _ _ iv _=>ps.length - (intOf iv).toNat)
 case atStart=>exact ⟨0,Nat.zero_le _,rfl,HT0.out⟩
 case round =>
  obtain ⟨i,hi,rfl,htw⟩:=hrel
  have hkl:=keptTo_len H ps i
  have hgl:=goneTo_len H ps i
  by_cases hlt:i < ps.length
  ·obtain ⟨gp,hp1,hp2⟩:=plc_cells (HPS.out wr htw.bel)
   obtain ⟨rfl,hgp⟩:=hp1 (by omega)
   obtain ⟨lv,pg,hlv,hpg,l1,l3,lp⟩:=HPO.out.nat (pAt_mem hlt)
   obtain ⟨F,hFR⟩:∃ F,(pAt ps i).fr=F:=⟨_,rfl⟩
   have hE:pAt ps i=⟨F,lv,pg⟩:=by rw [<- hFR,<- hlv,<- hpg]
   have HC:Hid (∀ wX,Below wr.heap.size wr wX->wX.cell? ⟨gp,i * 3,none⟩=some (.int .i64 F)/\wX.cell? ⟨gp,i * 3+1,none⟩=some (.int .i64 lv)/\wX.cell? ⟨gp,i * 3+2,none⟩=some (.int .i64 pg)):=hidOf <| fun wX hX=>hp2 i F lv pg hlt hE wX hX
   have HSK:Hid (keptTo H ps (i+1)=keptTo H ps i ++ (if nd H lv pg then [⟨F,lv,pg⟩] else [])):=hidOf <| by rw [keptTo_succ H ps i hlt,hE]; rfl
   have HSG:Hid (goneTo H ps (i+1)=goneTo H ps i ++ (if nd H lv pg then [] else [⟨F,lv,pg⟩])):=hidOf <| by rw [goneTo_succ H ps i hlt,hE]; rfl
   have HND:Hid (∀ wX,Below w5.heap.size w5 wX->Calls Tryz.prog 31 #[.slice (some ⟨gh,0,none⟩) 4096 ch,.int .i64 lv,.int .i64 pg] wX fun e w'=>e=.returned (.bool (nd H lv pg))/\Below wX.heap.size wX w'):=hidOf <| fun wX hX=>by
    have:=l5Needs_any gh ch w2.heap.size (hitsTo xs 4096) lv pg wX (hitsTo_len xs 4096) l1 l3 lp (HHS.out wX hX)
    rw [HLY.out] at this
    exact this
   have L1:(0:Int)<=(i:Int):=by omega
   have L2:(i:Int) < (ps.length:Int):=by omega
   have HTW:Hid _:=htw
   have hbw:=htw.bel
   generalize keptTo H ps i=K0 at HSK HTW hkl
   generalize goneTo H ps i=G0 at HSG HTW hgl
   have htw:=HTW.out
   clear hp1 hp2 hlv hpg hFR hE
   cases hd:nd H lv pg
   ·have HSK2:Hid (keptTo H ps (i+1)=K0):=hidOf <| by rw [HSK.out,hd]; simp
    have HSG2:Hid (goneTo H ps (i+1)=G0 ++ [⟨F,lv,pg⟩]):=hidOf <| by rw [HSG.out,hd]; simp
    have HCL:Hid (∀ wX,Below w5.heap.size w5 wX->Calls Tryz.prog 31 #[.slice (some ⟨gh,0,none⟩) 4096 ch,.int .i64 lv,.int .i64 pg] wX fun e w'=>e=.returned (.bool false)/\Below wX.heap.size wX w'):=hidOf <| fun wX hX=>by have:=HND.out wX hX; rw [hd] at this; exact this
    clear hd HND HSK HSG
    go_wp2_with fail
    refine wp_region_held_drew (S:=fun wX=>wX.cell? ⟨gp,i * 3,none⟩=some (.int .i64 F)/\wX.cell? ⟨gp,i * 3+1,none⟩=some (.int .i64 lv)/\wX.cell? ⟨gp,i * 3+2,none⟩=some (.int .i64 pg)) (by kernel_rfl) (HC.out _ (Below.refl _ _).drew) (fun hHeld=>?_)
    refine tk 0 ?_
    refine tk 1 ?_
    refine tk 2 ?_
    refine tk 3 ?_
    refine tk 4 ?_
    refine tk 5 ?_
    refine tk 6 ?_
    refine tk 7 ?_
    refine tk 8 ?_
    refine tk 9 ?_
    refine tk 10 ?_
    refine wpAnyH_ready (rs:=[11]) (by kernel_rfl) (by simp) ?_
    refine AllReadyH.cons rfl (fun K hK=>?_) AllReadyH.nil
    go_simp
    go_at_call 31
    refine (HCL.out _ (hbw.trans ((Below.refl _ _).drew.mono hbw.size))).mono ?_
    rintro e w6 ⟨rfl,hb6'⟩
    have hb6:Below wr.heap.size wr w6:=(Below.refl _ _).drew.trans (hb6'.mono (by simp))
    clear hb6'
    go_wp2_with fail
    refine hK.out _ _ (HC.out _ hb6) (fun hHeld2=>?_)
    clear hK K
    refine wpAnyH_done (by kernel_rfl) ?_ _
    have htw2:=htw.below hb6
    obtain ⟨c0,c1,c2⟩:=HC.out _ hb6
    clear hHeld hHeld2 hb6
    obtain ⟨gv,cv,e2,hrow⟩:=htw2.open2
    subst e2
    have hsz2:=htw2.bel.size
    have HROW:Hid _:=hrow
    have HTW2:Hid _:=htw2
    clear htw2 hrow htw
    go_wp2_with (at_builtin; refine wpList_append_lies _ rfl (.tmp 85) (.tmp 90) 52 rfl w5.heap.size 62 iP _ 3 24 Tryz.underlying52 hiP hzP0 hzP1 hzP2 rfl (by omega) _ _ _ rfl (World.ownsRow.alloc HROW.out _) ⟨w6.heap.size,0,none⟩ 1 1 [.int .i64 F,.int .i64 lv,.int .i64 pg] rfl rfl ?c1 ?c2 (by omega) ?c3 ?c4 ?c5 (w6.heap.size+1) ?c6 ?_)
    case c1=>exact World.news_of_block (heap_alloc_new w6 (.cells #[.int .i64 F,.int .i64 lv,.int .i64 pg] 62))
    case c2=>intro u hu; simp at hu; rcases hu with rfl | rfl | rfl <;> rfl
    case c3=>unfold maxLen; omega
    case c4=>omega
    case c5=>simp; omega
    case c6=>simp
    intro g1 cap1 wn hown hgrow hat hlt3
    have htn:=Two.push2 (x:=(⟨F,lv,pg⟩:P3)) HTW2.out hown hgrow hat
    clear hown hgrow hat hlt3
    go_wp2_with fail
    go_roundw
    case rel=>exact ⟨i+1,by omega,by go_num,by rw [HSK2.out,HSG2.out]; exact htn⟩
    case measure=>simp [intOf]; omega
   ·have HSK2:Hid (keptTo H ps (i+1)=K0 ++ [⟨F,lv,pg⟩]):=hidOf <| by rw [HSK.out,hd]; simp
    have HSG2:Hid (goneTo H ps (i+1)=G0):=hidOf <| by rw [HSG.out,hd]; simp
    have HCL:Hid (∀ wX,Below w5.heap.size w5 wX->Calls Tryz.prog 31 #[.slice (some ⟨gh,0,none⟩) 4096 ch,.int .i64 lv,.int .i64 pg] wX fun e w'=>e=.returned (.bool true)/\Below wX.heap.size wX w'):=hidOf <| fun wX hX=>by have:=HND.out wX hX; rw [hd] at this; exact this
    clear hd HND HSK HSG
    go_wp2_with fail
    refine wp_region_held_drew (S:=fun wX=>wX.cell? ⟨gp,i * 3,none⟩=some (.int .i64 F)/\wX.cell? ⟨gp,i * 3+1,none⟩=some (.int .i64 lv)/\wX.cell? ⟨gp,i * 3+2,none⟩=some (.int .i64 pg)) (by kernel_rfl) (HC.out _ (Below.refl _ _).drew) (fun hHeld=>?_)
    refine tk 0 ?_
    refine tk 1 ?_
    refine tk 2 ?_
    refine tk 3 ?_
    refine tk 4 ?_
    refine tk 5 ?_
    refine tk 6 ?_
    refine tk 7 ?_
    refine tk 8 ?_
    refine tk 9 ?_
    refine tk 10 ?_
    refine wpAnyH_ready (rs:=[11]) (by kernel_rfl) (by simp) ?_
    refine AllReadyH.cons rfl (fun K hK=>?_) AllReadyH.nil
    go_simp
    go_at_call 31
    refine (HCL.out _ (hbw.trans ((Below.refl _ _).drew.mono hbw.size))).mono ?_
    rintro e w6 ⟨rfl,hb6'⟩
    have hb6:Below wr.heap.size wr w6:=(Below.refl _ _).drew.trans (hb6'.mono (by simp))
    clear hb6'
    go_wp2_with fail
    refine hK.out _ _ (HC.out _ hb6) (fun hHeld2=>?_)
    clear hK K
    refine wpAnyH_done (by kernel_rfl) ?_ _
    have htw2:=htw.below hb6
    obtain ⟨c0,c1,c2⟩:=HC.out _ hb6
    clear hHeld hHeld2 hb6
    obtain ⟨gv,cv,e2,hrow⟩:=htw2.open1
    subst e2
    have hsz2:=htw2.bel.size
    have HROW:Hid _:=hrow
    have HTW2:Hid _:=htw2
    clear htw2 hrow htw
    go_wp2_with (at_builtin; refine wpList_append_lies _ rfl (.tmp 78) (.tmp 83) 52 rfl w5.heap.size 62 iP _ 3 24 Tryz.underlying52 hiP hzP0 hzP1 hzP2 rfl (by omega) _ _ _ rfl (World.ownsRow.alloc HROW.out _) ⟨w6.heap.size,0,none⟩ 1 1 [.int .i64 F,.int .i64 lv,.int .i64 pg] rfl rfl ?c1 ?c2 (by omega) ?c3 ?c4 ?c5 (w6.heap.size+1) ?c6 ?_)
    case c1=>exact World.news_of_block (heap_alloc_new w6 (.cells #[.int .i64 F,.int .i64 lv,.int .i64 pg] 62))
    case c2=>intro u hu; simp at hu; rcases hu with rfl | rfl | rfl <;> rfl
    case c3=>unfold maxLen; omega
    case c4=>omega
    case c5=>simp; omega
    case c6=>simp
    intro g1 cap1 wn hown hgrow hat hlt3
    have htn:=Two.push1 (x:=(⟨F,lv,pg⟩:P3)) HTW2.out hown hgrow hat
    clear hown hgrow hat hlt3
    go_wp2_with fail
    go_roundw
    case rel=>exact ⟨i+1,by omega,by go_num,by rw [HSK2.out,HSG2.out]; exact htn⟩
    case measure=>simp [intOf]; omega
  ·have ei:i=ps.length:=by omega
   subst ei
   rw [keptTo_all] at htw hkl
   rw [goneTo_all] at htw hgl
   as_aux_lemma =>
    obtain ⟨gk,ck,ek,hrk⟩:=htw.open1
    obtain ⟨gg,cg,eg,hrg⟩:=htw.open2
    subst ek
    subst eg
    have b56:=htw.bel
    obtain ⟨K,hK⟩:∃ K,keptL H ps=K:=⟨_,rfl⟩
    obtain ⟨G,hG⟩:∃ G,goneL H ps=G:=⟨_,rfl⟩
    rw [hK] at hrk hkl ⊢
    rw [hG] at hrg hgl ⊢
    have HKD:Hid (keptL H ps=K):=hK
    have HGD:Hid (goneL H ps=G):=hG
    obtain ⟨w6,hw6⟩:∃ w6:World,w6=wr:=⟨_,rfl⟩
    rw [<- hw6] at b56 hrk hrg ⊢
    have HKR:Hid (∀ wX,Below w6.heap.size w6 wX->ERow ePl wX w5.heap.size (.slice (some ⟨gk,0,none⟩) K.length ck) K):=hidOf <| fun wX hX=>hrk.below hX
    have HGR:Hid (∀ wX,Below w6.heap.size w6 wX->ERow ePl wX w5.heap.size (.slice (some ⟨gg,0,none⟩) G.length cg) G):=hidOf <| fun wX hX=>hrg.below hX
    have HB6:Hid (Below w5.heap.size w5 w6):=b56
    have hs6:=b56.size
    clear htw hrk hrg b56 hK hG hw6
    go_wp2_with fail
    have HL0:Hid (LSt ePl w6 (w6.alloc (.cells #[] 62)) (.slice (some ⟨w6.heap.size,0,none⟩) 0 0) (K.take 0)):=LSt.new ePl w6
    go_loopw [14,15] (fun v1 iv wr=>∃ i:Nat,i<=K.length/\iv=.int .i64 i/\LSt ePl w6 wr v1 (K.take i)) (fun _ iv _=>K.length - (intOf iv).toNat)
    case atStart=>exact ⟨0,Nat.zero_le _,rfl,HL0.out⟩
    case round =>
     obtain ⟨i,hi,rfl,hst⟩:=hrel
     by_cases hlt:i < K.length
     ·obtain ⟨hgl0,c0,c1,c2⟩:=ePl_cells (HKR.out wr hst.bel) i hlt
      have HSU:Hid (K.take (i+1)=K.take i ++ [pAt K i]):=take_snocP K i hlt
      obtain ⟨E,hE⟩:∃ E,pAt K i=E:=⟨_,rfl⟩
      rw [hE] at c0 c1 c2 HSU
      obtain ⟨F,lv,pg⟩:=E
      dsimp only at c0 c1 c2
      have L1:(0:Int)<=(i:Int):=by omega
      have L2:(i:Int) < (K.length:Int):=by omega
      obtain ⟨l,hl⟩:∃ l,K.take i=l:=⟨_,rfl⟩
      have hll:l.length<=4000:=by rw [<- hl,List.length_take]; omega
      rw [hl] at hst HSU
      obtain ⟨⟨gv,cv,rfl,hrow⟩,hbel⟩:=hst
      have hsz2:=hbel.size
      have HROW:Hid _:=hrow
      have HBL:Hid (Below _ w6 wr):=hbel
      clear hrow hbel hE hl
      go_wp2_with (at_builtin; refine wpList_append_lies _ rfl (.tmp 99) (.tmp 104) 52 rfl w6.heap.size 62 iP _ 3 24 Tryz.underlying52 hiP hzP0 hzP1 hzP2 rfl (by omega) _ _ _ rfl (World.ownsRow.alloc HROW.out _) ⟨wr.heap.size,0,none⟩ 1 1 [.int .i64 F,.int .i64 lv,.int .i64 pg] rfl rfl ?c1 ?c2 (by omega) ?c3 ?c4 ?c5 (wr.heap.size+1) ?c6 ?_)
      case c1=>exact World.news_of_block (heap_alloc_new wr (.cells #[.int .i64 F,.int .i64 lv,.int .i64 pg] 62))
      case c2=>intro u hu; simp at hu; rcases hu with rfl | rfl | rfl <;> rfl
      case c3=>unfold maxLen; omega
      case c4=>omega
      case c5=>simp; omega
      case c6=>simp
      intro g1 cap1 wn hown hgrow hat hlt3
      have hstn:=LSt.push (x:=(⟨F,lv,pg⟩:P3)) HBL.out HROW.out hown hgrow
      clear hown hgrow hat hlt3
      go_wp2_with fail
      go_roundw
      case rel=>exact ⟨i+1,by omega,by go_num,by rw [HSU.out]; exact hstn⟩
      case measure=>simp [intOf]; omega
     ·have ei:i=K.length:=by omega
      subst ei
      rw [List.take_length] at hst
      as_aux_lemma =>
       obtain ⟨w7,hw7⟩:∃ w7:World,w7=wr:=⟨_,rfl⟩
       rw [<- hw7] at hst ⊢
       have HT3:Hid (Two ePl ePl w6 (w7.alloc (.cells #[] 62)) _ (.slice (some ⟨w7.heap.size,0,none⟩) 0 0) (K ++ frTo K ws 0) (frTo K ws 0)):=hidOf <| by
        rw [frTo_zero,List.append_nil]
        exact Two.second (F:=ePl) hst
       have hs7:=hst.bel.size
       have HB7:Hid (Below w6.heap.size w6 w7):=hst.bel
       obtain ⟨⟨gq,cq,eq,hrq⟩,_⟩:=hst
       subst eq
       clear hrq hw7
       go_wp2_with fail
       go_loopw [14,16,17] (fun v1 v2 iv wr=>∃ i:Nat,i<=ws.length/\iv=.int .i64 i/\Two ePl ePl w6 wr v1 v2 (K ++ frTo K ws i) (frTo K ws i)) (fun _ _ iv _=>ws.length - (intOf iv).toNat)
       case atStart=>exact ⟨0,Nat.zero_le _,rfl,HT3.out⟩
       case round =>
        obtain ⟨i,hi,rfl,htw⟩:=hrel
        have hrm:(K ++ frTo K ws i).length<=1100:=by
         have:=frTo_room (H:=H) (ps:=ps) (n:=n) (by have:=HNZ.out; omega) HPO.out (by rw [HWS.out]; exact hwn) i (by rw [HWS.out]; exact hi)
         rw [HWS.out,HKD.out] at this
         exact this
        have hrf:(frTo K ws i).length<=1100:=by rw [List.length_append] at hrm; omega
        have hbw:=htw.bel
        have hsw:=hbw.size
        by_cases hlt:i < ws.length
        ·have hltA:i < (asP ws).length:=by rw [asP_len]; exact hlt
         have b5w:Below w5.heap.size w5 wr:=HB6.out.trans (hbw.mono hs6)
         have hat0:=asP_at ws i hlt
         obtain ⟨lv,hlv⟩:∃ lv,(ws[i]).1=lv:=⟨_,rfl⟩
         obtain ⟨pg,hpg⟩:∃ pg,(ws[i]).2=pg:=⟨_,rfl⟩
         rw [hlv,hpg] at hat0
         have HC:Hid (∀ wX,Below wr.heap.size wr wX->gw < wX.heap.size/\wX.cell? ⟨gw,i * 3,none⟩=some (.int .i64 (-1))/\wX.cell? ⟨gw,i * 3+1,none⟩=some (.int .i64 lv)/\wX.cell? ⟨gw,i * 3+2,none⟩=some (.int .i64 pg)):=hidOf <| fun wX hX=>by
          have:=ePl_cells (HWR.out wX (b5w.trans (hX.mono b5w.size))) i hltA
          rw [hat0] at this
          exact this
         have HFRC:Hid (∀ wX,Below wr.heap.size wr wX->Calls Tryz.prog 32 #[.slice (some ⟨gk,0,none⟩) K.length ck,.int .i64 lv,.int .i64 pg] wX fun e w'=>e=.returned (.int .i64 (frOf K lv pg))/\w'=wX):=hidOf <| fun wX hX=>l5Frame_any (some ⟨gk,0,none⟩) ck w5.heap.size K lv pg wX (by omega) (HKR.out wX (hbw.trans (hX.mono hsw)))
         have HSU:Hid (frTo K ws (i+1)=if frOf K lv pg < 0 then frTo K ws i ++ [⟨(lowF (K ++ frTo K ws i):Nat),lv,pg⟩] else frTo K ws i):=hidOf <| by
          rw [frTo_succ K ws i hlt]
          unfold frStep
          rw [hlv,hpg]
         have L1:(0:Int)<=(i:Int):=by omega
         have L2:(i:Int) < (ws.length:Int):=by omega
         generalize frTo K ws i=FS at htw hrm hrf HSU
         generalize frOf K lv pg=FK at HFRC HSU
         obtain ⟨AL,hAL⟩:∃ AL,K ++ FS=AL:=⟨_,rfl⟩
         rw [hAL] at htw hrm HSU
         have HALD:Hid (K ++ FS=AL):=hAL
         have HTW:Hid _:=htw
         clear hAL
         clear hat0 hlv hpg htw
         obtain ⟨_,ca0,ca1,ca2⟩:=HC.out wr (Below.refl _ _)
         obtain ⟨bb,hbb⟩:∃ bb,decide (FK < 0)=bb:=⟨_,rfl⟩
         obtain ⟨gA,cA,eA,_⟩:=HTW.out.open1
         obtain ⟨gF,cF,eF,_⟩:=HTW.out.open2
         subst eA
         subst eF
         have HBBF:Hid (decide (FK < 0)=bb):=hbb
         go_wp2_with fail
         refine wp_region_held_drew (S:=fun wX=>gw < wX.heap.size/\wX.cell? ⟨gw,i * 3,none⟩=some (.int .i64 (-1))/\wX.cell? ⟨gw,i * 3+1,none⟩=some (.int .i64 lv)/\wX.cell? ⟨gw,i * 3+2,none⟩=some (.int .i64 pg)) (by kernel_rfl) (HC.out _ (Below.refl _ _).drew) (fun hHeld=>?_)
         refine tk 0 ?_
         refine tk 1 ?_
         refine tk 2 ?_
         refine tk 3 ?_
         refine tk 4 ?_
         refine tk 5 ?_
         refine tk 6 ?_
         refine tk 7 ?_
         refine tk 8 ?_
         refine tk 9 ?_
         refine tk 10 ?_
         refine wpAnyH_ready (rs:=[11]) (by kernel_rfl) (by simp) ?_
         refine AllReadyH.cons rfl (fun K0 hK0=>?_) AllReadyH.nil
         go_simp
         go_at_call 32
         refine (HFRC.out _ (Below.refl _ _).drew).mono ?_
         rintro e wD ⟨rfl,hwD⟩
         subst hwD
         go_wp2_with fail
         refine hK0.out _ _ (HC.out _ (Below.refl _ _).drew) (fun hHeld2=>?_)
         clear hK0 K0
         refine tk 12 ?_
         refine wpAnyH_done (by kernel_rfl) ?_ _
         clear hHeld hHeld2 hbb
         cases bb
         ·have hf:¬ FK < 0:=of_decide_eq_false HBBF.out
          have HSU2:Hid (frTo K ws (i+1)=FS):=hidOf <| by rw [HSU.out,if_neg hf]
          clear hf HSU HBBF
          go_wp2_with fail
          go_roundw
          case rel=>exact ⟨i+1,by omega,by go_num,by rw [HSU2.out,HALD.out]; exact HTW.out.below (Below.refl _ _).drew⟩
          case measure=>simp [intOf]; omega
         ·have hf:FK < 0:=of_decide_eq_true HBBF.out
          have HSU2:Hid (frTo K ws (i+1)=FS ++ [⟨(lowF AL:Nat),lv,pg⟩]):=hidOf <| by rw [HSU.out,if_pos hf]
          have HLO:Hid (∀ v1 v2 wX,Two ePl ePl w6 wX v1 v2 AL FS->Calls Tryz.prog 33 #[v1] wX fun e w'=>e=.returned (.int .i64 (lowF AL:Nat))/\w'=wX):=hidOf <| fun v1 v2 wX ht=>by
           obtain ⟨g1,c1,e1,hr1⟩:=ht.open1
           subst e1
           exact l5Lowest_any (some ⟨g1,0,none⟩) c1 w6.heap.size AL wX (by omega) hr1
          have hlow:=(lowF_spec AL).1
          generalize lowF AL=LO at HSU2 HLO hlow
          clear hf HSU HBBF
          have N0:gw < wr.heap.size:=(HC.out wr (Below.refl _ _)).1
          go_wp2_with fail
          refine (HLO.out _ _ _ (HTW.out.below ?_)).mono ?_
          ·(repeat (first | exact Below.refl _ _ | with_reducible refine Below.drew ?_ | with_reducible refine Below.setCell ?_ (by first | omega | (simp <;> omega)) _ | with_reducible refine Below.alloc ?_ (by first | omega | (simp <;> omega)) _))
          rintro e w8 ⟨rfl,hw8⟩
          have hb8:Below wr.heap.size wr w8:=by rw [hw8]; (repeat (first | exact Below.refl _ _ | with_reducible refine Below.drew ?_ | with_reducible refine Below.setCell ?_ (by first | omega | (simp <;> omega)) _ | with_reducible refine Below.alloc ?_ (by first | omega | (simp <;> omega)) _))
          have p0:w8.cell? ⟨wr.heap.size,0,none⟩=some (.int .i64 (-1)):=by rw [hw8]; simp [go_sem]
          have p1:w8.cell? ⟨wr.heap.size,1,none⟩=some (.int .i64 lv):=by rw [hw8]; simp [go_sem]
          have p2:w8.cell? ⟨wr.heap.size,2,none⟩=some (.int .i64 pg):=by rw [hw8]; simp [go_sem]
          have pf:w8.frozen? ⟨wr.heap.size,0,none⟩=false:=by rw [hw8]; simp [go_sem]
          have hs8:wr.heap.size+1<=w8.heap.size:=by rw [hw8]; simp
          obtain ⟨w9,hw9⟩:∃ w9,w9=w8.setCell ⟨wr.heap.size,0,none⟩ (.int .i64 LO):=⟨_,rfl⟩
          have hb9:Below wr.heap.size wr w9:=by rw [hw9]; exact hb8.setCell (Nat.le_refl _) _
          have r0:w9.cell? ⟨wr.heap.size,0,none⟩=some (.int .i64 LO):=by rw [hw9]; simp [go_sem,p0]
          have r1:w9.cell? ⟨wr.heap.size,1,none⟩=some (.int .i64 lv):=by rw [hw9]; simp [go_sem,p1]
          have r2:w9.cell? ⟨wr.heap.size,2,none⟩=some (.int .i64 pg):=by rw [hw9]; simp [go_sem,p2]
          have hs9:w9.heap.size=w8.heap.size:=by rw [hw9]; simp
          have ht9:Two ePl ePl w6 w9 _ _ AL FS:=HTW.out.below hb9
          obtain ⟨gA2,cA2,eA2,hrA⟩:=ht9.open1
          simp only [Value.slice.injEq,Option.some.injEq,Addr.mk.injEq,and_true,true_and] at eA2
          obtain ⟨rfl,rfl⟩:=eA2
          have hgA:=(hrA.own gA rfl).2
          have hneA:wr.heap.size ≠ gA:=by have:=(HTW.out.open1); obtain ⟨g',c',e',hr'⟩:=this; simp only [Value.slice.injEq,Option.some.injEq,Addr.mk.injEq,and_true,true_and] at e'; obtain ⟨rfl,rfl⟩:=e'; have:=(hr'.own gA rfl).2; omega
          have HRA:Hid _:=hrA
          have HT9:Hid _:=ht9
          have HW9:Hid (w9=_):=hw9
          have HS9:Hid (w9.heap.size=w8.heap.size):=hs9
          have HRA8:Hid ((w8.setCell ⟨wr.heap.size,0,none⟩ (.int .i64 LO)).ownsRow w6.heap.size 62 3 (.slice (some ⟨gA,0,none⟩) AL.length cA) AL.length (ecells ePl AL)):=hidOf <| by rw [<- hw9]; exact hrA
          have HR9:Hid (w9.cell? ⟨wr.heap.size,0,none⟩=some (.int .i64 LO)/\w9.cell? ⟨wr.heap.size,1,none⟩=some (.int .i64 lv)/\w9.cell? ⟨wr.heap.size,2,none⟩=some (.int .i64 pg)):=⟨r0,r1,r2⟩
          clear hw8 hb8 hw9 hrA ht9 hs9 r0 r1 r2 hgA
          go_wp2_with (at_builtin; refine wpList_append_lies _ rfl (.tmp 133) (.tmp 135) 52 rfl w6.heap.size 62 iP _ 3 24 Tryz.underlying52 hiP hzP0 hzP1 hzP2 rfl (by omega) _ _ _ rfl (World.ownsRow.alloc HRA8.out _) ⟨w8.heap.size,0,none⟩ 1 1 [.int .i64 LO,.int .i64 lv,.int .i64 pg] rfl rfl ?c1 ?c2 (by omega) ?c3 ?c4 ?c5 (w8.heap.size+1) ?c6 ?_)
          case c1=>simpa using World.news_of_block (heap_alloc_new (w8.setCell ⟨wr.heap.size,0,none⟩ (.int .i64 LO)) (.cells #[.int .i64 LO,.int .i64 lv,.int .i64 pg] 62))
          case c2=>intro u hu; simp at hu; rcases hu with rfl | rfl | rfl <;> rfl
          case c3=>unfold maxLen; omega
          case c4=>omega
          case c5=>simp; omega
          case c6=>simp
          intro g1 cap1 wn hown hgrow hat hlt3
          rw [<- HW9.out] at hgrow
          rw [<- HS9.out] at hat
          have htn:=Two.push1 (x:=(⟨LO,lv,pg⟩:P3)) HT9.out hown hgrow hat
          have hbk:wn.heap[wr.heap.size]?=w9.heap[wr.heap.size]?:=(hgrow.block wr.heap.size (by simp; have:=HS9.out; omega) (fun e=>hneA (by have e':some wr.heap.size=some gA:=e; simpa using e'))).trans (Below.heap_alloc _ _ _ (by have:=HS9.out; omega))
          have s0:wn.cell? ⟨wr.heap.size,0,none⟩=some (.int .i64 LO):=(cob hbk).trans HR9.out.1
          have s1:wn.cell? ⟨wr.heap.size,1,none⟩=some (.int .i64 lv):=(cob hbk).trans HR9.out.2.1
          have s2:wn.cell? ⟨wr.heap.size,2,none⟩=some (.int .i64 pg):=(cob hbk).trans HR9.out.2.2
          have hsn:w9.heap.size<=wn.heap.size:=by have:=hgrow.size; simp at this; omega
          obtain ⟨gF2,cF2,eF2,hrF⟩:=htn.open2
          simp only [Value.slice.injEq,Option.some.injEq,Addr.mk.injEq,and_true,true_and] at eF2
          obtain ⟨rfl,rfl⟩:=eF2
          have HRF:Hid _:=hrF
          have HTN:Hid _:=htn
          have N3:w6.heap.size<=wn.heap.size:=htn.bel.size
          clear hown hgrow hat hlt3 hbk hrF htn p0 p1 p2 pf
          go_wp2_with (at_builtin; refine wpList_append_lies _ rfl (.tmp 137) (.tmp 139) 52 rfl w6.heap.size 62 iP _ 3 24 Tryz.underlying52 hiP hzP0 hzP1 hzP2 rfl (by omega) _ _ _ rfl (World.ownsRow.alloc HRF.out _) ⟨wn.heap.size,0,none⟩ 1 1 [.int .i64 LO,.int .i64 lv,.int .i64 pg] rfl rfl ?c1 ?c2 (by omega) ?c3 ?c4 ?c5 (wn.heap.size+1) ?c6 ?_)
          case c1=>exact World.news_of_block (heap_alloc_new wn (.cells #[.int .i64 LO,.int .i64 lv,.int .i64 pg] 62))
          case c2=>intro u hu; simp at hu; rcases hu with rfl | rfl | rfl <;> rfl
          case c3=>unfold maxLen; omega
          case c4=>omega
          case c5=>simp; omega
          case c6=>simp
          intro g2 cap2 wm hown hgrow hat hlt3
          have htm:=Two.push2 (x:=(⟨LO,lv,pg⟩:P3)) HTN.out hown hgrow hat
          clear hown hgrow hat hlt3 s0 s1 s2
          go_wp2_with fail
          go_roundw
          case rel =>
           refine ⟨i+1,by omega,by go_num,?_⟩
           rw [HSU2.out,<- List.append_assoc,HALD.out]
           exact htm
          case measure=>simp [intOf]; omega
        ·have ei:i=ws.length:=by omega
         subst ei
         as_aux_lemma =>
          obtain ⟨gA,cA,eA,hrA⟩:=htw.open1
          obtain ⟨gF,cF,eF,hrF⟩:=htw.open2
          subst eA
          subst eF
          obtain ⟨FR,hFR⟩:∃ FR,frTo K ws ws.length=FR:=⟨_,rfl⟩
          rw [hFR] at hrA hrF hrm hrf ⊢
          have HFD:Hid (newL H ps=FR):=hidOf <| by unfold newL; rw [HKD.out,HWS.out,hFR]
          obtain ⟨AL,hAL⟩:∃ AL,K ++ FR=AL:=⟨_,rfl⟩
          rw [hAL] at hrA hrm ⊢
          have HAD:Hid (allL H ps=AL):=hidOf <| by unfold allL; rw [HFD.out,HKD.out,hAL]
          have HFM:Hid (∀ q ∈ FR,∃ lv pg F:Nat,q=⟨F,lv,pg⟩/\1<=lv/\lv<=3/\pg+tpg lv<=4096/\F < n):=hidOf <| by
           intro q hq
           rw [<- hFR] at hq
           have hnz:=HNZ.out
           obtain ⟨j,hj,hj2,e1,e2,_,F,e3,hF⟩:=fresh_mem (H:=H) (n:=n) (ps:=ps) (by omega) HPO.out (by rw [HWS.out]; exact hwn) (wPre H 256).length (Nat.le_refl _) q (by rw [HKD.out,HWS.out]; exact hq)
           obtain ⟨w1',w2',w3',_⟩:=wanted_cases (H:=H) (List.getElem_mem hj2)
           refine ⟨_,_,F,?_,w1',w2',w3',hF⟩
           rcases q with ⟨qa,qb,qc⟩
           dsimp only at e1 e2 e3
           rw [e1,e2,e3]
          obtain ⟨w10,hw10⟩:∃ w10:World,w10=wr:=⟨_,rfl⟩
          rw [<- hw10] at hbw hrA hrF ⊢
          have hs10:w6.heap.size<=w10.heap.size:=hbw.size
          have HAR:Hid (∀ wX,Below w10.heap.size w10 wX->ERow ePl wX w6.heap.size (.slice (some ⟨gA,0,none⟩) AL.length cA) AL):=hidOf <| fun wX hX=>hrA.below hX
          have HFRR:Hid (∀ wX,Below w10.heap.size w10 wX->ERow ePl wX w6.heap.size (.slice (some ⟨gF,0,none⟩) FR.length cF) FR):=hidOf <| fun wX hX=>hrF.below hX
          have HB10:Hid (Below w6.heap.size w6 w10):=hbw
          have hent:=l5Entries_any (some ⟨gk,0,none⟩) ck w5.heap.size K w10 (fun lv pg=>by have:=frOf_lt (n:=n) H (by have:=HNZ.out; omega) HPO.out lv pg; rw [HKD.out] at this; have:=HNZ.out; omega) (by omega) (HKR.out w10 hbw)
          have hel:=enTo_len K 4096
          have HEA:Hid (∀ i,i < (enTo K 4096).length->∃ lv pg ad:Nat,eAt eEn (enTo K 4096) i=⟨lv,pg,ad⟩/\1<=lv/\lv<=3/\pg+epg lv<=4096/\ad < zs.length):=hidOf <| fun i hi=>by
           have hnz:=HNZ.out
           have:=ent_at (n:=n) H (by omega) HPO.out i (by rw [HKD.out]; exact hi)
           rw [HKD.out] at this
           obtain ⟨lv,pg,ad,h1,h2,h3,h4,h5⟩:=this
           exact ⟨lv,pg,ad,h1,h2,h3,h4,by omega⟩
          obtain ⟨ES,hES⟩:∃ ES,enTo K 4096=ES:=⟨_,rfl⟩
          rw [hES] at hent hel HEA
          have HED:Hid (entL H ps=ES):=hidOf <| by unfold entL; rw [HKD.out,hES]
          clear htw hrA hrF hbw hw10 hFR hES hsw hAL
          go_wp2_with fail
          refine hent.mono ?_
          rintro e w11 ⟨ge,ce,rfl,hre,hb11⟩
          have HER:Hid (∀ wX,Below w11.heap.size w11 wX->ERow eEn wX w10.heap.size (.slice (some ⟨ge,0,none⟩) ES.length ce) ES):=hidOf <| fun wX hX=>hre.below hX
          have HB11:Hid (Below w10.heap.size w10 w11):=hb11
          have hs11:=hb11.size
          clear hent hre hb11
          have hmk:∀ wX:World,(Instr.makeSlice 67 (.int .i64 4096) (.int .i64 4096)).run Tryz.prog wX=.ok (.slice (some ⟨wX.heap.size,0,none⟩) 4096 4096) (wX.alloc (.cells (madeCells #[.bool false] 4096) 4)):=fun wX=>run_make_row' (P:=Tryz.prog) 67 4 (.bool false) 1 Tryz.underlying67 (by kernel_rfl) rfl .i64 .i64 4096 (by decide) (by decide) wX
          have HTH:Hid (Thr w11 (((w11.alloc (.cells #[] 74)).alloc (.cells #[] 74)).alloc (.cells (madeCells #[.bool false] 4096) 4)) (.slice (some ⟨w11.heap.size,0,none⟩) 0 0) (.slice (some ⟨w11.heap.size+1,0,none⟩) 0 0) (brkOps zs H AL (ES.take 0)) (lnkOps zs H AL (ES.take 0)) (w11.heap.size+2) (mkB zs H AL (ES.take 0))):=hidOf <| by
           have h2:Two eOp eOp w11 ((w11.alloc (.cells #[] 74)).alloc (.cells #[] 74)) (.slice (some ⟨w11.heap.size,0,none⟩) 0 0) (.slice (some ⟨w11.heap.size+1,0,none⟩) 0 0) [] []:=by
            have:=Two.second (F:=eOp) (LSt.new eOp w11)
            have h9:Two eOp eOp w11 ((w11.alloc (.cells #[] eOp.T)).alloc (.cells #[] eOp.T)) (.slice (some ⟨w11.heap.size,0,none⟩) 0 0) (.slice (some ⟨w11.heap.size+1,0,none⟩) 0 0) [] []:=by simpa using this
            exact h9
           have h3:=World.rowIs_made ((w11.alloc (.cells #[] 74)).alloc (.cells #[] 74)) (.bool false) 4096 4
           refine ⟨h2.below bal,?_,?_,by omega⟩
           ·intro g nn c hh
            rcases hh with hh | hh <;> (simp only [Value.slice.injEq,Option.some.injEq,Addr.mk.injEq,and_true] at hh; obtain ⟨rfl,_⟩:=hh; omega)
           ·have e:(fun p=>Value.bool (mkB zs H AL (ES.take 0) p))=(fun _=>Value.bool false):=by funext p; unfold mkB; rw [List.take_zero]; rfl
            rw [e]
            simpa using h3
          go_wp2_with fail
          go_loopw [20,21,23] (fun v1 v2 iv wr=>∃ i:Nat,i<=ES.length/\iv=.int .i64 i/\Thr w11 wr v1 v2 (brkOps zs H AL (ES.take i)) (lnkOps zs H AL (ES.take i)) (w11.heap.size+2) (mkB zs H AL (ES.take i))) (fun _ _ iv _=>ES.length - (intOf iv).toNat)
          case atStart=>exact ⟨0,Nat.zero_le _,rfl,HTH.out⟩
          case round =>
           obtain ⟨i,hi,rfl,hth⟩:=hrel
           by_cases hlt:i < ES.length
           ·have hb11:=hth.two.bel
            have hsw:=hb11.size
            have b10:Below w10.heap.size w10 wr:=HB11.out.trans (hb11.mono hs11)
            have b5:Below w5.heap.size w5 wr:=(HB6.out.trans (HB10.out.mono hs6)).trans (b10.mono (by omega))
            obtain ⟨lv,pg,ad,hE,l1,l3,lp,la⟩:=HEA.out i hlt
            have hec:=eEn_cells (HER.out wr hb11) i hlt
            rw [hE] at hec
            obtain ⟨hge,c0,c1,c2⟩:=hec
            dsimp only at c0 c1 c2
            obtain ⟨k0,kz,kg,_⟩:=HK.out wr b5
            have NW:w.heap.size < wr.heap.size:=by have:=HW5.out; have:=b5.size; omega
            have kw:=kz ad la
            have HZW:Hid (0<=zs.getD ad 0/\zs.getD ad 0 < 18446744073709551616):=HZR.out ad
            have HRI:Hid (∀ wX,Below wr.heap.size wr wX->Calls Tryz.prog 35 #[.slice (some ⟨gh,0,none⟩) 4096 ch,.slice (some ⟨gA,0,none⟩) AL.length cA,.int .i64 lv,.int .i64 pg] wX fun e w'=>e=.returned (.int .u64 (rgt H AL lv pg))/\Below wX.heap.size wX w'):=hidOf <| fun wX hX=>by
             have:=l5Right_any gh ch w2.heap.size (hitsTo xs 4096) (some ⟨gA,0,none⟩) cA w6.heap.size AL lv pg wX (hitsTo_len xs 4096) l1 l3 (by have:=epg_pos lv; omega) (HHS.out wX (b5.trans (hX.mono b5.size))) (by omega) (HAR.out wX (b10.trans (hX.mono b10.size)))
             rw [HLY.out] at this
             exact this
            have hcv:=covers_any lv
            rw [cov_epg] at hcv
            have hcp:=epg_pos lv
            have hcm:epg lv<=256:=by unfold epg; split <;> (try split) <;> omega
            have HTK:Hid (ES.take (i+1)=ES.take i ++ [⟨lv,pg,ad⟩]):=hidOf <| by rw [take_snocE eEn ES i hlt,hE]
            have HS1:Hid (brkOps zs H AL (ES.take (i+1))=brkOps zs H AL (ES.take i) ++ (if decide (zs.getD ad 0 % 2=1/\¬ zs.getD ad 0=rgt H AL lv pg) then [⟨1,ad,0,0⟩] else [])):=hidOf <| by rw [HTK.out,brkOps_succ]; rfl
            have HS2:Hid (lnkOps zs H AL (ES.take (i+1))=lnkOps zs H AL (ES.take i) ++ (if decide (¬ rgt H AL lv pg=0/\¬ rgt H AL lv pg=zs.getD ad 0) then [⟨1,ad,0,rgt H AL lv pg⟩] else [])):=hidOf <| by rw [HTK.out,lnkOps_succ]; rfl
            have HS3:Hid (∀ p,mkB zs H AL (ES.take (i+1)) p=(mkB zs H AL (ES.take i) p || (decide (zs.getD ad 0 % 2=1/\¬ zs.getD ad 0=rgt H AL lv pg) && decide (pg<=p/\p < pg+epg lv)))):=hidOf <| fun p=>by
             rw [HTK.out,mkB_succ]
             dsimp only
             rw [cov_epg]
             have e:decide ((pg:Int)<=(p:Int)/\(p:Int) < (pg:Int)+(epg lv:Nat))=decide (pg<=p/\p < pg+epg lv):=by
              by_cases hh:pg<=p/\p < pg+epg lv
              ·rw [decide_eq_true hh,decide_eq_true (by omega)]
              ·rw [decide_eq_false hh,decide_eq_false (by omega)]
             rw [e]
             rfl
            have hbl:(brkOps zs H AL (ES.take i)).length<=12288:=Nat.le_trans (brkOps_len _ _ _ _) (by rw [List.length_take]; omega)
            have hll:(lnkOps zs H AL (ES.take i)).length<=12288:=Nat.le_trans (lnkOps_len _ _ _ _) (by rw [List.length_take]; omega)
            have HTHI:Hid _:=hth
            generalize brkOps zs H AL (ES.take i)=BL at HS1 HTHI hbl
            generalize lnkOps zs H AL (ES.take i)=LL at HS2 HTHI hll
            generalize mkB zs H AL (ES.take i)=MK at HS3 HTHI
            generalize rgt H AL lv pg=RG at HS1 HS2 HS3 HRI
            generalize zs.getD ad 0=WD at HS1 HS2 HS3 kw HZW
            generalize epg lv=EC at hcv hcp hcm HS3 lp
            have hbt:=bitZ_any WD HZW.out.1 HZW.out.2
            have L1:(0:Int)<=(i:Int):=by omega
            have L2:(i:Int) < (ES.length:Int):=by omega
            have L3:(0:Int)<=(ad:Int):=by omega
            have L4:(ad:Int) < (zs.length:Int):=by omega
            obtain ⟨gB,cB,eB,_⟩:=HTHI.out.two.open1
            obtain ⟨gL,cL,eL,_⟩:=HTHI.out.two.open2
            subst eB
            subst eL
            clear hth hE kz
            by_cases h2:WD % 2=1
            ·have d2:(WD % 2 == 1)=true:=by simpa using h2
             by_cases hW:WD=RG
             ·have dW:(WD != RG)=false:=by simpa using hW
              have dW2:(RG != WD)=false:=by simpa using hW.symm
              have d0:(RG != 0)=true:=by simp; omega
              have hbrk:¬ (WD % 2=1/\¬ WD=RG):=fun h=>h.2 hW
              have hlnk:¬ (¬ RG=0/\¬ RG=WD):=fun h=>h.2 hW.symm
              clear hW h2
              have HQ1:Hid (brkOps zs H AL (ES.take (i+1))=BL):=hidOf <| by rw [HS1.out,decide_eq_false hbrk]; simp
              have HQ3:Hid (mkB zs H AL (ES.take (i+1))=MK):=hidOf <| by funext p; rw [HS3.out,decide_eq_false hbrk]; simp
              have HQ2:Hid (lnkOps zs H AL (ES.take (i+1))=LL):=hidOf <| by rw [HS2.out,decide_eq_false hlnk]; simp
              clear HS1 HS2 HS3 hbrk hlnk
              go_wp2_with fail
              refine (HRI.out _ ?_).mono ?_
              ·(repeat (first | exact Below.refl _ _ | with_reducible refine Below.drew ?_ | with_reducible refine Below.setCell ?_ (by first | omega | (simp <;> omega)) _ | with_reducible refine Below.alloc ?_ (by first | omega | (simp <;> omega)) _))
              rintro e w20 ⟨rfl,hb20'⟩
              have hb20:Below wr.heap.size wr w20:=Below.trans (by (repeat (first | exact Below.refl _ _ | with_reducible refine Below.drew ?_ | with_reducible refine Below.setCell ?_ (by first | omega | (simp <;> omega)) _ | with_reducible refine Below.alloc ?_ (by first | omega | (simp <;> omega)) _))) (hb20'.mono (by simp))
              have hs20:wr.heap.size+1<=w20.heap.size:=by have:=hb20'.size; simp at this; omega
              have z0:w20.cell? ⟨wr.heap.size,0,none⟩=some (.int .i64 lv):=(hb20'.cell (by simp)).trans (by simp [go_sem])
              have z1:w20.cell? ⟨wr.heap.size,1,none⟩=some (.int .i64 pg):=(hb20'.cell (by simp)).trans (by simp [go_sem])
              have z2:w20.cell? ⟨wr.heap.size,2,none⟩=some (.int .i64 ad):=(hb20'.cell (by simp)).trans (by simp [go_sem])
              have HT20:Hid (Thr w11 w20 _ _ BL LL (w11.heap.size+2) MK):=HTHI.out.below hb20
              clear hb20' hb20 k0 kw c0 c1 c2
              go_wp2_with (go_at_call 36; refine (hbt _).mono ?_; rintro e wE ⟨rfl,hwE⟩; obtain rfl:=hwE.symm)
              go_roundw
              case rel=>exact ⟨i+1,by omega,by go_num,by rw [HQ1.out,HQ2.out,HQ3.out]; exact HT20.out⟩
              case measure=>simp [intOf]; omega
             ·have dW:(WD != RG)=true:=by simpa using hW
              have dW2:(RG != WD)=true:=by simpa using (fun h=>hW h.symm:¬ RG=WD)
              by_cases h0:RG=0
              ·have d0:(RG != 0)=false:=by simpa using h0
               have hbrk:WD % 2=1/\¬ WD=RG:=⟨h2,hW⟩
               have hlnk:¬ (¬ RG=0/\¬ RG=WD):=fun h=>h.1 h0
               clear hW h2 h0
               have HQ1:Hid (brkOps zs H AL (ES.take (i+1))=BL ++ [⟨1,ad,0,0⟩]):=hidOf <| by rw [HS1.out,decide_eq_true hbrk]; rfl
               have HQ3:Hid (∀ p,mkB zs H AL (ES.take (i+1)) p=(MK p || decide (pg<=p/\p < pg+EC))):=hidOf <| fun p=>by rw [HS3.out,decide_eq_true hbrk,Bool.true_and]
               have HQ2:Hid (lnkOps zs H AL (ES.take (i+1))=LL):=hidOf <| by rw [HS2.out,decide_eq_false hlnk]; simp
               clear HS1 HS2 HS3 hbrk hlnk
               go_wp2_with fail
               refine (HRI.out _ ?_).mono ?_
               ·(repeat (first | exact Below.refl _ _ | with_reducible refine Below.drew ?_ | with_reducible refine Below.setCell ?_ (by first | omega | (simp <;> omega)) _ | with_reducible refine Below.alloc ?_ (by first | omega | (simp <;> omega)) _))
               rintro e w20 ⟨rfl,hb20'⟩
               have hb20:Below wr.heap.size wr w20:=Below.trans (by (repeat (first | exact Below.refl _ _ | with_reducible refine Below.drew ?_ | with_reducible refine Below.setCell ?_ (by first | omega | (simp <;> omega)) _ | with_reducible refine Below.alloc ?_ (by first | omega | (simp <;> omega)) _))) (hb20'.mono (by simp))
               have hs20:wr.heap.size+1<=w20.heap.size:=by have:=hb20'.size; simp at this; omega
               have z0:w20.cell? ⟨wr.heap.size,0,none⟩=some (.int .i64 lv):=(hb20'.cell (by simp)).trans (by simp [go_sem])
               have z1:w20.cell? ⟨wr.heap.size,1,none⟩=some (.int .i64 pg):=(hb20'.cell (by simp)).trans (by simp [go_sem])
               have z2:w20.cell? ⟨wr.heap.size,2,none⟩=some (.int .i64 ad):=(hb20'.cell (by simp)).trans (by simp [go_sem])
               have HT20:Hid (Thr w11 w20 _ _ BL LL (w11.heap.size+2) MK):=HTHI.out.below hb20
               clear hb20' hb20 k0 kw c0 c1 c2
               obtain ⟨gB2,cB2,eB2,hrB⟩:=HT20.out.two.open1
               simp only [Value.slice.injEq,Option.some.injEq,Addr.mk.injEq,and_true,true_and] at eB2
               obtain ⟨rfl,rfl⟩:=eB2
               have HRB:Hid _:=hrB
               have N8:w11.heap.size<=w20.heap.size:=HT20.out.two.bel.size
               have HGB:Hid (gB < wr.heap.size):=hidOf <| by obtain ⟨g',c',e',hr'⟩:=HTHI.out.two.open1; simp only [Value.slice.injEq,Option.some.injEq,Addr.mk.injEq,and_true,true_and] at e'; obtain ⟨rfl,rfl⟩:=e'; exact (hr'.own gB rfl).2
               clear hrB
               go_wp2_with (first | (go_at_call 36; refine (hbt _).mono ?_; rintro e wE ⟨rfl,hwE⟩; obtain rfl:=hwE.symm) | (at_builtin; refine wpList_append_lies _ rfl (.tmp 177) (.tmp 181) 28 rfl w11.heap.size 74 iO _ 4 32 Tryz.underlying28 hiO hzO0 hzO1 hzO2 rfl (by omega) _ _ _ rfl (World.ownsRow.alloc HRB.out _) ⟨w20.heap.size,0,none⟩ 1 1 [.int .i64 1,.int .i64 ad,.int .i64 0,.int .u64 0] rfl rfl ?c1 ?c2 (by omega) ?c3 ?c4 ?c5 (w20.heap.size+1) ?c6 ?_))
               case c1=>exact World.news_of_block (heap_alloc_new w20 (.cells #[.int .i64 1,.int .i64 ad,.int .i64 0,.int .u64 0] 74))
               case c2=>intro u hu; simp at hu; rcases hu with rfl | rfl | rfl | rfl <;> rfl
               case c3=>unfold maxLen; omega
               case c4=>omega
               case c5=>simp; omega
               case c6=>simp
               intro g7 cap7 w21 hown hgrow hat hlt3
               have ht21:=Thr.push1 (x:=(⟨1,ad,0,0⟩:OpE)) HT20.out hown hgrow hat
               have hbk:w21.heap[wr.heap.size]?=w20.heap[wr.heap.size]?:=(hgrow.block wr.heap.size (by simp; omega) (fun e=>by have e':some wr.heap.size=some gB:=e; have e2:wr.heap.size=gB:=(by simpa using e'); have:=HGB.out; omega)).trans (Below.heap_alloc _ _ _ (by omega))
               have HZ21:Hid (∀ wX:World,wX.heap[wr.heap.size]?=w21.heap[wr.heap.size]?->wX.cell? ⟨wr.heap.size,0,none⟩=some (.int .i64 lv)/\wX.cell? ⟨wr.heap.size,1,none⟩=some (.int .i64 pg)/\wX.cell? ⟨wr.heap.size,2,none⟩=some (.int .i64 ad)):=hidOf <| fun wX hX=>⟨(cob (hX.trans hbk)).trans z0,(cob (hX.trans hbk)).trans z1,(cob (hX.trans hbk)).trans z2⟩
               have HT21:Hid _:=ht21
               have HMN:Hid (w11.heap.size+2 ≠ wr.heap.size):=hidOf <| by have:=HTHI.out.mark.lt; omega
               clear hown hgrow hat hlt3 hbk z0 z1 z2 ht21
               go_wp2_with fail
               go_loopw [27] (fun iv wr2=>∃ k:Nat,k<=EC/\iv=.int .i64 k/\Thr w11 wr2 (.slice (some ⟨g7,0,none⟩) (BL.length+1) cap7) (.slice (some ⟨gL,0,none⟩) LL.length cL) (BL ++ [⟨1,ad,0,0⟩]) LL (w11.heap.size+2) (fun p=>MK p || decide (pg<=p/\p < pg+k))/\wr2.heap[wr.heap.size]?=w21.heap[wr.heap.size]?) (fun iv _=>EC - (intOf iv).toNat)
               case atStart =>
                refine ⟨0,Nat.zero_le _,rfl,?_,rfl⟩
                have e:(fun p=>MK p || decide (pg<=p/\p < pg+0))=MK:=by funext p; rw [decide_eq_false (by omega),Bool.or_false]
                rw [e]
                exact HT21.out
               case round =>
                obtain ⟨k,hk,rfl,hthk,hbk⟩:=hrel
                obtain ⟨z0,z1,z2⟩:=HZ21.out _ hbk
                by_cases hltk:k < EC
                ·have m0:=hthk.mark.cell (i:=pg+k) (by omega)
                 have mf:=hthk.mark.frozen (pg+k)
                 have HTHK:Hid _:=hthk
                 have HBK:Hid _:=hbk
                 have L5:(0:Int)<=(pg:Int)+(k:Int):=by omega
                 have L6:(pg:Int)+(k:Int) < 4096:=by omega
                 generalize (MK (pg+k) || decide (pg<=pg+k/\pg+k < pg+k))=mb at m0
                 clear hthk hbk
                 go_wp2_with (go_at_call 37; refine (hcv _).mono ?_; rintro e wE ⟨rfl,hwE⟩; obtain rfl:=hwE.symm)
                 go_roundw
                 case rel =>
                  refine ⟨k+1,by omega,by go_num,HTHK.out.set (fun q=>?_),?_⟩
                  ·by_cases hq:q=pg+k
                   ·rw [decide_eq_true hq,decide_eq_true (show pg<=q/\q < pg+(k+1) by omega)]; simp
                   ·rw [decide_eq_false hq,Bool.or_false]
                    congr 1
                    by_cases hh:pg<=q/\q < pg+k
                    ·rw [decide_eq_true hh,decide_eq_true (by omega)]
                    ·rw [decide_eq_false hh,decide_eq_false (by omega)]
                  ·exact (Below.heap_setCell _ _ _ _ (fun e=>HMN.out (by first | exact e | exact e.symm))).trans HBK.out
                 case measure=>simp [intOf]; omega
                ·have ek:k=EC:=by omega
                 subst ek
                 have HT22:Hid _:=hthk
                 have HQM:Hid (mkB zs H AL (ES.take (i+1))=(fun p=>MK p || decide (pg<=p/\p < pg+k))):=hidOf <| by funext p; exact HQ3.out p
                 clear hthk hbk
                 go_wp2_with (go_at_call 37; refine (hcv _).mono ?_; rintro e wE ⟨rfl,hwE⟩; obtain rfl:=hwE.symm)
                 go_roundw
                 case rel=>exact ⟨i+1,by omega,by go_num,by rw [HQ1.out,HQ2.out,HQM.out]; exact HT22.out⟩
                 case measure=>simp [intOf]; omega
              ·have d0:(RG != 0)=true:=by simpa using h0
               have hbrk:WD % 2=1/\¬ WD=RG:=⟨h2,hW⟩
               have hlnk:¬ RG=0/\¬ RG=WD:=⟨h0,fun h=>hW h.symm⟩
               clear hW h2 h0
               have HQ1:Hid (brkOps zs H AL (ES.take (i+1))=BL ++ [⟨1,ad,0,0⟩]):=hidOf <| by rw [HS1.out,decide_eq_true hbrk]; rfl
               have HQ3:Hid (∀ p,mkB zs H AL (ES.take (i+1)) p=(MK p || decide (pg<=p/\p < pg+EC))):=hidOf <| fun p=>by rw [HS3.out,decide_eq_true hbrk,Bool.true_and]
               have HQ2:Hid (lnkOps zs H AL (ES.take (i+1))=LL ++ [⟨1,ad,0,RG⟩]):=hidOf <| by rw [HS2.out,decide_eq_true hlnk]; rfl
               clear HS1 HS2 HS3 hbrk hlnk
               go_wp2_with fail
               refine (HRI.out _ ?_).mono ?_
               ·(repeat (first | exact Below.refl _ _ | with_reducible refine Below.drew ?_ | with_reducible refine Below.setCell ?_ (by first | omega | (simp <;> omega)) _ | with_reducible refine Below.alloc ?_ (by first | omega | (simp <;> omega)) _))
               rintro e w20 ⟨rfl,hb20'⟩
               have hb20:Below wr.heap.size wr w20:=Below.trans (by (repeat (first | exact Below.refl _ _ | with_reducible refine Below.drew ?_ | with_reducible refine Below.setCell ?_ (by first | omega | (simp <;> omega)) _ | with_reducible refine Below.alloc ?_ (by first | omega | (simp <;> omega)) _))) (hb20'.mono (by simp))
               have hs20:wr.heap.size+1<=w20.heap.size:=by have:=hb20'.size; simp at this; omega
               have z0:w20.cell? ⟨wr.heap.size,0,none⟩=some (.int .i64 lv):=(hb20'.cell (by simp)).trans (by simp [go_sem])
               have z1:w20.cell? ⟨wr.heap.size,1,none⟩=some (.int .i64 pg):=(hb20'.cell (by simp)).trans (by simp [go_sem])
               have z2:w20.cell? ⟨wr.heap.size,2,none⟩=some (.int .i64 ad):=(hb20'.cell (by simp)).trans (by simp [go_sem])
               have HT20:Hid (Thr w11 w20 _ _ BL LL (w11.heap.size+2) MK):=HTHI.out.below hb20
               clear hb20' hb20 k0 kw c0 c1 c2
               obtain ⟨gB2,cB2,eB2,hrB⟩:=HT20.out.two.open1
               simp only [Value.slice.injEq,Option.some.injEq,Addr.mk.injEq,and_true,true_and] at eB2
               obtain ⟨rfl,rfl⟩:=eB2
               have HRB:Hid _:=hrB
               have N8:w11.heap.size<=w20.heap.size:=HT20.out.two.bel.size
               have HGB:Hid (gB < wr.heap.size):=hidOf <| by obtain ⟨g',c',e',hr'⟩:=HTHI.out.two.open1; simp only [Value.slice.injEq,Option.some.injEq,Addr.mk.injEq,and_true,true_and] at e'; obtain ⟨rfl,rfl⟩:=e'; exact (hr'.own gB rfl).2
               clear hrB
               go_wp2_with (first | (go_at_call 36; refine (hbt _).mono ?_; rintro e wE ⟨rfl,hwE⟩; obtain rfl:=hwE.symm) | (at_builtin; refine wpList_append_lies _ rfl (.tmp 177) (.tmp 181) 28 rfl w11.heap.size 74 iO _ 4 32 Tryz.underlying28 hiO hzO0 hzO1 hzO2 rfl (by omega) _ _ _ rfl (World.ownsRow.alloc HRB.out _) ⟨w20.heap.size,0,none⟩ 1 1 [.int .i64 1,.int .i64 ad,.int .i64 0,.int .u64 0] rfl rfl ?c1 ?c2 (by omega) ?c3 ?c4 ?c5 (w20.heap.size+1) ?c6 ?_))
               case c1=>exact World.news_of_block (heap_alloc_new w20 (.cells #[.int .i64 1,.int .i64 ad,.int .i64 0,.int .u64 0] 74))
               case c2=>intro u hu; simp at hu; rcases hu with rfl | rfl | rfl | rfl <;> rfl
               case c3=>unfold maxLen; omega
               case c4=>omega
               case c5=>simp; omega
               case c6=>simp
               intro g7 cap7 w21 hown hgrow hat hlt3
               have ht21:=Thr.push1 (x:=(⟨1,ad,0,0⟩:OpE)) HT20.out hown hgrow hat
               have hbk:w21.heap[wr.heap.size]?=w20.heap[wr.heap.size]?:=(hgrow.block wr.heap.size (by simp; omega) (fun e=>by have e':some wr.heap.size=some gB:=e; have e2:wr.heap.size=gB:=(by simpa using e'); have:=HGB.out; omega)).trans (Below.heap_alloc _ _ _ (by omega))
               have HZ21:Hid (∀ wX:World,wX.heap[wr.heap.size]?=w21.heap[wr.heap.size]?->wX.cell? ⟨wr.heap.size,0,none⟩=some (.int .i64 lv)/\wX.cell? ⟨wr.heap.size,1,none⟩=some (.int .i64 pg)/\wX.cell? ⟨wr.heap.size,2,none⟩=some (.int .i64 ad)):=hidOf <| fun wX hX=>⟨(cob (hX.trans hbk)).trans z0,(cob (hX.trans hbk)).trans z1,(cob (hX.trans hbk)).trans z2⟩
               have HT21:Hid _:=ht21
               have HMN:Hid (w11.heap.size+2 ≠ wr.heap.size):=hidOf <| by have:=HTHI.out.mark.lt; omega
               clear hown hgrow hat hlt3 hbk z0 z1 z2 ht21
               go_wp2_with fail
               go_loopw [27] (fun iv wr2=>∃ k:Nat,k<=EC/\iv=.int .i64 k/\Thr w11 wr2 (.slice (some ⟨g7,0,none⟩) (BL.length+1) cap7) (.slice (some ⟨gL,0,none⟩) LL.length cL) (BL ++ [⟨1,ad,0,0⟩]) LL (w11.heap.size+2) (fun p=>MK p || decide (pg<=p/\p < pg+k))/\wr2.heap[wr.heap.size]?=w21.heap[wr.heap.size]?) (fun iv _=>EC - (intOf iv).toNat)
               case atStart =>
                refine ⟨0,Nat.zero_le _,rfl,?_,rfl⟩
                have e:(fun p=>MK p || decide (pg<=p/\p < pg+0))=MK:=by funext p; rw [decide_eq_false (by omega),Bool.or_false]
                rw [e]
                exact HT21.out
               case round =>
                obtain ⟨k,hk,rfl,hthk,hbk⟩:=hrel
                obtain ⟨z0,z1,z2⟩:=HZ21.out _ hbk
                by_cases hltk:k < EC
                ·have m0:=hthk.mark.cell (i:=pg+k) (by omega)
                 have mf:=hthk.mark.frozen (pg+k)
                 have HTHK:Hid _:=hthk
                 have HBK:Hid _:=hbk
                 have L5:(0:Int)<=(pg:Int)+(k:Int):=by omega
                 have L6:(pg:Int)+(k:Int) < 4096:=by omega
                 generalize (MK (pg+k) || decide (pg<=pg+k/\pg+k < pg+k))=mb at m0
                 clear hthk hbk
                 go_wp2_with (go_at_call 37; refine (hcv _).mono ?_; rintro e wE ⟨rfl,hwE⟩; obtain rfl:=hwE.symm)
                 go_roundw
                 case rel =>
                  refine ⟨k+1,by omega,by go_num,HTHK.out.set (fun q=>?_),?_⟩
                  ·by_cases hq:q=pg+k
                   ·rw [decide_eq_true hq,decide_eq_true (show pg<=q/\q < pg+(k+1) by omega)]; simp
                   ·rw [decide_eq_false hq,Bool.or_false]
                    congr 1
                    by_cases hh:pg<=q/\q < pg+k
                    ·rw [decide_eq_true hh,decide_eq_true (by omega)]
                    ·rw [decide_eq_false hh,decide_eq_false (by omega)]
                  ·exact (Below.heap_setCell _ _ _ _ (fun e=>HMN.out (by first | exact e | exact e.symm))).trans HBK.out
                 case measure=>simp [intOf]; omega
                ·have ek:k=EC:=by omega
                 subst ek
                 have HT22:Hid _:=hthk
                 have HQM:Hid (mkB zs H AL (ES.take (i+1))=(fun p=>MK p || decide (pg<=p/\p < pg+k))):=hidOf <| by funext p; exact HQ3.out p
                 clear hthk hbk
                 have ht3:=HT22.out
                 obtain ⟨gL2,cL2,eL2,hrL⟩:=ht3.two.open2
                 simp only [Value.slice.injEq,Option.some.injEq,Addr.mk.injEq,and_true,true_and] at eL2
                 obtain ⟨rfl,rfl⟩:=eL2
                 have HRL:Hid _:=hrL
                 have N9:w11.heap.size<=wr.heap.size:=ht3.two.bel.size
                 clear ht3 hrL
                 go_wp2_with (first | (go_at_call 37; refine (hcv _).mono ?_; rintro e wE ⟨rfl,hwE⟩; obtain rfl:=hwE.symm) | (at_builtin; refine wpList_append_lies _ rfl (.tmp 203) (.tmp 208) 28 rfl w11.heap.size 74 iO _ 4 32 Tryz.underlying28 hiO hzO0 hzO1 hzO2 rfl (by omega) _ _ _ rfl (World.ownsRow.alloc HRL.out _) ⟨wr.heap.size,0,none⟩ 1 1 [.int .i64 1,.int .i64 ad,.int .i64 0,.int .u64 RG] rfl rfl ?c1 ?c2 (by omega) ?c3 ?c4 ?c5 (wr.heap.size+1) ?c6 ?_))
                 case c1=>exact World.news_of_block (heap_alloc_new wr (.cells #[.int .i64 1,.int .i64 ad,.int .i64 0,.int .u64 RG] 74))
                 case c2=>intro u hu; simp at hu; rcases hu with rfl | rfl | rfl | rfl <;> rfl
                 case c3=>unfold maxLen; omega
                 case c4=>omega
                 case c5=>simp; omega
                 case c6=>simp
                 intro g9 cap9 w29 hown hgrow hat hlt3
                 have htn:=Thr.push2 (x:=(⟨1,ad,0,RG⟩:OpE)) HT22.out hown hgrow hat
                 clear hown hgrow hat hlt3
                 go_wp2_with fail
                 go_roundw
                 case rel=>exact ⟨i+1,by omega,by go_num,by rw [HQ1.out,HQ2.out,HQM.out]; exact htn⟩
                 case measure=>simp [intOf]; omega
            ·have d2:(WD % 2 == 1)=false:=by simpa using h2
             by_cases h0:RG=0
             ·have d0:(RG != 0)=false:=by simpa using h0
              have hbrk:¬ (WD % 2=1/\¬ WD=RG):=fun h=>h2 h.1
              have hlnk:¬ (¬ RG=0/\¬ RG=WD):=fun h=>h.1 h0
              clear h2 h0
              have HQ1:Hid (brkOps zs H AL (ES.take (i+1))=BL):=hidOf <| by rw [HS1.out,decide_eq_false hbrk]; simp
              have HQ3:Hid (mkB zs H AL (ES.take (i+1))=MK):=hidOf <| by funext p; rw [HS3.out,decide_eq_false hbrk]; simp
              have HQ2:Hid (lnkOps zs H AL (ES.take (i+1))=LL):=hidOf <| by rw [HS2.out,decide_eq_false hlnk]; simp
              clear HS1 HS2 HS3 hbrk hlnk
              go_wp2_with fail
              refine (HRI.out _ ?_).mono ?_
              ·(repeat (first | exact Below.refl _ _ | with_reducible refine Below.drew ?_ | with_reducible refine Below.setCell ?_ (by first | omega | (simp <;> omega)) _ | with_reducible refine Below.alloc ?_ (by first | omega | (simp <;> omega)) _))
              rintro e w20 ⟨rfl,hb20'⟩
              have hb20:Below wr.heap.size wr w20:=Below.trans (by (repeat (first | exact Below.refl _ _ | with_reducible refine Below.drew ?_ | with_reducible refine Below.setCell ?_ (by first | omega | (simp <;> omega)) _ | with_reducible refine Below.alloc ?_ (by first | omega | (simp <;> omega)) _))) (hb20'.mono (by simp))
              have hs20:wr.heap.size+1<=w20.heap.size:=by have:=hb20'.size; simp at this; omega
              have z0:w20.cell? ⟨wr.heap.size,0,none⟩=some (.int .i64 lv):=(hb20'.cell (by simp)).trans (by simp [go_sem])
              have z1:w20.cell? ⟨wr.heap.size,1,none⟩=some (.int .i64 pg):=(hb20'.cell (by simp)).trans (by simp [go_sem])
              have z2:w20.cell? ⟨wr.heap.size,2,none⟩=some (.int .i64 ad):=(hb20'.cell (by simp)).trans (by simp [go_sem])
              have HT20:Hid (Thr w11 w20 _ _ BL LL (w11.heap.size+2) MK):=HTHI.out.below hb20
              clear hb20' hb20 k0 kw c0 c1 c2
              go_wp2_with (go_at_call 36; refine (hbt _).mono ?_; rintro e wE ⟨rfl,hwE⟩; obtain rfl:=hwE.symm)
              go_roundw
              case rel=>exact ⟨i+1,by omega,by go_num,by rw [HQ1.out,HQ2.out,HQ3.out]; exact HT20.out⟩
              case measure=>simp [intOf]; omega
             ·have d0:(RG != 0)=true:=by simpa using h0
              by_cases hW:RG=WD
              ·have dW2:(RG != WD)=false:=by simpa using hW
               have hbrk:¬ (WD % 2=1/\¬ WD=RG):=fun h=>h2 h.1
               have hlnk:¬ (¬ RG=0/\¬ RG=WD):=fun h=>h.2 hW
               clear h2 h0 hW
               have HQ1:Hid (brkOps zs H AL (ES.take (i+1))=BL):=hidOf <| by rw [HS1.out,decide_eq_false hbrk]; simp
               have HQ3:Hid (mkB zs H AL (ES.take (i+1))=MK):=hidOf <| by funext p; rw [HS3.out,decide_eq_false hbrk]; simp
               have HQ2:Hid (lnkOps zs H AL (ES.take (i+1))=LL):=hidOf <| by rw [HS2.out,decide_eq_false hlnk]; simp
               clear HS1 HS2 HS3 hbrk hlnk
               go_wp2_with fail
               refine (HRI.out _ ?_).mono ?_
               ·(repeat (first | exact Below.refl _ _ | with_reducible refine Below.drew ?_ | with_reducible refine Below.setCell ?_ (by first | omega | (simp <;> omega)) _ | with_reducible refine Below.alloc ?_ (by first | omega | (simp <;> omega)) _))
               rintro e w20 ⟨rfl,hb20'⟩
               have hb20:Below wr.heap.size wr w20:=Below.trans (by (repeat (first | exact Below.refl _ _ | with_reducible refine Below.drew ?_ | with_reducible refine Below.setCell ?_ (by first | omega | (simp <;> omega)) _ | with_reducible refine Below.alloc ?_ (by first | omega | (simp <;> omega)) _))) (hb20'.mono (by simp))
               have hs20:wr.heap.size+1<=w20.heap.size:=by have:=hb20'.size; simp at this; omega
               have z0:w20.cell? ⟨wr.heap.size,0,none⟩=some (.int .i64 lv):=(hb20'.cell (by simp)).trans (by simp [go_sem])
               have z1:w20.cell? ⟨wr.heap.size,1,none⟩=some (.int .i64 pg):=(hb20'.cell (by simp)).trans (by simp [go_sem])
               have z2:w20.cell? ⟨wr.heap.size,2,none⟩=some (.int .i64 ad):=(hb20'.cell (by simp)).trans (by simp [go_sem])
               have HT20:Hid (Thr w11 w20 _ _ BL LL (w11.heap.size+2) MK):=HTHI.out.below hb20
               clear hb20' hb20 k0 kw c0 c1 c2
               go_wp2_with (go_at_call 36; refine (hbt _).mono ?_; rintro e wE ⟨rfl,hwE⟩; obtain rfl:=hwE.symm)
               go_roundw
               case rel=>exact ⟨i+1,by omega,by go_num,by rw [HQ1.out,HQ2.out,HQ3.out]; exact HT20.out⟩
               case measure=>simp [intOf]; omega
              ·have dW2:(RG != WD)=true:=by simpa using hW
               have hbrk:¬ (WD % 2=1/\¬ WD=RG):=fun h=>h2 h.1
               have hlnk:¬ RG=0/\¬ RG=WD:=⟨h0,hW⟩
               clear h2 h0 hW
               have HQ1:Hid (brkOps zs H AL (ES.take (i+1))=BL):=hidOf <| by rw [HS1.out,decide_eq_false hbrk]; simp
               have HQ3:Hid (mkB zs H AL (ES.take (i+1))=MK):=hidOf <| by funext p; rw [HS3.out,decide_eq_false hbrk]; simp
               have HQ2:Hid (lnkOps zs H AL (ES.take (i+1))=LL ++ [⟨1,ad,0,RG⟩]):=hidOf <| by rw [HS2.out,decide_eq_true hlnk]; rfl
               clear HS1 HS2 HS3 hbrk hlnk
               go_wp2_with fail
               refine (HRI.out _ ?_).mono ?_
               ·(repeat (first | exact Below.refl _ _ | with_reducible refine Below.drew ?_ | with_reducible refine Below.setCell ?_ (by first | omega | (simp <;> omega)) _ | with_reducible refine Below.alloc ?_ (by first | omega | (simp <;> omega)) _))
               rintro e w20 ⟨rfl,hb20'⟩
               have hb20:Below wr.heap.size wr w20:=Below.trans (by (repeat (first | exact Below.refl _ _ | with_reducible refine Below.drew ?_ | with_reducible refine Below.setCell ?_ (by first | omega | (simp <;> omega)) _ | with_reducible refine Below.alloc ?_ (by first | omega | (simp <;> omega)) _))) (hb20'.mono (by simp))
               have hs20:wr.heap.size+1<=w20.heap.size:=by have:=hb20'.size; simp at this; omega
               have z0:w20.cell? ⟨wr.heap.size,0,none⟩=some (.int .i64 lv):=(hb20'.cell (by simp)).trans (by simp [go_sem])
               have z1:w20.cell? ⟨wr.heap.size,1,none⟩=some (.int .i64 pg):=(hb20'.cell (by simp)).trans (by simp [go_sem])
               have z2:w20.cell? ⟨wr.heap.size,2,none⟩=some (.int .i64 ad):=(hb20'.cell (by simp)).trans (by simp [go_sem])
               have HT20:Hid (Thr w11 w20 _ _ BL LL (w11.heap.size+2) MK):=HTHI.out.below hb20
               clear hb20' hb20 k0 kw c0 c1 c2
               have ht3:=HT20.out
               obtain ⟨gL2,cL2,eL2,hrL⟩:=ht3.two.open2
               simp only [Value.slice.injEq,Option.some.injEq,Addr.mk.injEq,and_true,true_and] at eL2
               obtain ⟨rfl,rfl⟩:=eL2
               have HRL:Hid _:=hrL
               have N9:w11.heap.size<=w20.heap.size:=ht3.two.bel.size
               clear ht3 hrL
               go_wp2_with (first | (go_at_call 36; refine (hbt _).mono ?_; rintro e wE ⟨rfl,hwE⟩; obtain rfl:=hwE.symm) | (at_builtin; refine wpList_append_lies _ rfl (.tmp 203) (.tmp 208) 28 rfl w11.heap.size 74 iO _ 4 32 Tryz.underlying28 hiO hzO0 hzO1 hzO2 rfl (by omega) _ _ _ rfl (World.ownsRow.alloc HRL.out _) ⟨w20.heap.size,0,none⟩ 1 1 [.int .i64 1,.int .i64 ad,.int .i64 0,.int .u64 RG] rfl rfl ?c1 ?c2 (by omega) ?c3 ?c4 ?c5 (w20.heap.size+1) ?c6 ?_))
               case c1=>exact World.news_of_block (heap_alloc_new w20 (.cells #[.int .i64 1,.int .i64 ad,.int .i64 0,.int .u64 RG] 74))
               case c2=>intro u hu; simp at hu; rcases hu with rfl | rfl | rfl | rfl <;> rfl
               case c3=>unfold maxLen; omega
               case c4=>omega
               case c5=>simp; omega
               case c6=>simp
               intro g9 cap9 w29 hown hgrow hat hlt3
               have htn:=Thr.push2 (x:=(⟨1,ad,0,RG⟩:OpE)) HT20.out hown hgrow hat
               clear hown hgrow hat hlt3
               go_wp2_with fail
               go_roundw
               case rel=>exact ⟨i+1,by omega,by go_num,by rw [HQ1.out,HQ2.out,HQ3.out]; exact htn⟩
               case measure=>simp [intOf]; omega
           ·have ei:i=ES.length:=by omega
            subst ei
            rw [List.take_length] at hth
            as_aux_lemma =>
             obtain ⟨gB,cB,eB,hrB⟩:=hth.two.open1
             obtain ⟨gL,cL,eL,hrL⟩:=hth.two.open2
             subst eB
             subst eL
             have hbl:(brkOps zs H AL ES).length<=12288:=Nat.le_trans (brkOps_len _ _ _ _) (by omega)
             have hll:(lnkOps zs H AL ES).length<=12288:=Nat.le_trans (lnkOps_len _ _ _ _) (by omega)
             obtain ⟨BR,hBR⟩:∃ BR,brkOps zs H AL ES=BR:=⟨_,rfl⟩
             obtain ⟨LK,hLK⟩:∃ LK,lnkOps zs H AL ES=LK:=⟨_,rfl⟩
             obtain ⟨MK,hMK⟩:∃ MK,mkB zs H AL ES=MK:=⟨_,rfl⟩
             rw [hBR] at hrB hbl ⊢
             rw [hLK] at hrL hll ⊢
             have hmark:=hth.mark
             rw [hMK] at hmark
             have HOUT:Hid (planL zs n H ps=(if BR.isEmpty then [] else ((BR ++ [dsbO]) ++ tlbOps MK) ++ [dsbO]) ++ (freeOps n G ++ (sealO (fillOps H AL FR) ++ sealO LK))):=hidOf <| by rw [planL_eq,HAD.out,HED.out,HFD.out,HGD.out,hBR,hLK,hMK]
             obtain ⟨w12,hw12⟩:∃ w12:World,w12=wr:=⟨_,rfl⟩
             rw [<- hw12] at hrB hrL hmark ⊢
             have b12:Below w11.heap.size w11 w12:=by rw [hw12]; exact hth.two.bel
             have hs12:=b12.size
             have HBR:Hid (∀ wX,Below w12.heap.size w12 wX->ERow eOp wX w11.heap.size (.slice (some ⟨gB,0,none⟩) BR.length cB) BR):=hidOf <| fun wX hX=>hrB.below hX
             have HLK:Hid (∀ wX,Below w12.heap.size w12 wX->ERow eOp wX w11.heap.size (.slice (some ⟨gL,0,none⟩) LK.length cL) LK):=hidOf <| fun wX hX=>hrL.below hX
             have HBO:Hid (gB < w12.heap.size/\gL < w12.heap.size):=⟨(hrB.own gB rfl).2,(hrL.own gL rfl).2⟩
             have HMR:Hid (∀ wX,Below w12.heap.size w12 wX->w11.heap.size+2 < wX.heap.size/\∀ p,p < 4096->wX.cell? ⟨w11.heap.size+2,p,none⟩=some (.bool (MK p))):=hidOf <| fun wX hX=>⟨Nat.lt_of_lt_of_le hmark.lt hX.size,fun p hp=>(hX.cell (p:=⟨w11.heap.size+2,p,none⟩) hmark.lt).trans (hmark.cell hp)⟩
             have HB12:Hid (Below w10.heap.size w10 w12):=HB11.out.trans (b12.mono hs11)
             have HBW:Hid (Below w.heap.size w w12/\Below w5.heap.size w5 w12/\Below w6.heap.size w6 w12):=by
              have b6:=HB10.out.trans (HB12.out.mono hs10)
              have b5:=HB6.out.trans (b6.mono hs6)
              exact ⟨(HK.out w12 b5).2.2.2,b5,b6⟩
             obtain ⟨w13,hw13⟩:∃ w13,w13=w12.alloc (.cells #[.int .i64 2,.int .i64 0,.int .i64 0,.int .u64 0] 74):=⟨_,rfl⟩
             have b13:Below w12.heap.size w12 w13:=by rw [hw13]; exact bal
             have hs13:w13.heap.size=w12.heap.size+1:=by rw [hw13]; simp
             have HDS:Hid (∀ wX,Below w13.heap.size w13 wX->ERow eOp wX w12.heap.size (.slice (some ⟨w12.heap.size,0,none⟩) [dsbO].length 1) [dsbO]):=hidOf <| fun wX hX=>by
              have h0:=eOp_new w12 dsbO
              have h1:ERow eOp w13 w12.heap.size (.slice (some ⟨w12.heap.size,0,none⟩) 1 1) [dsbO]:=by rw [hw13]; exact h0
              exact h1.below hX
             have HO0:Hid (LSt eOp w13 (w13.alloc (.cells #[] 74)) (.slice (some ⟨w13.heap.size,0,none⟩) 0 0) []):=LSt.new eOp w13
             have HB13:Hid (Below w12.heap.size w12 w13):=b13
             have HS13:Hid (w13.heap.size=w12.heap.size+1):=hs13
             have HW13:Hid (w13=_):=hw13
             have HTLC:Hid (∀ wX,Below w12.heap.size w12 wX->Calls Tryz.prog 39 #[.slice (some ⟨w11.heap.size+2,0,none⟩) 4096 4096] wX fun e w'=>∃ v,e=.returned v/\LSt eOp wX w' v (tlbOps MK)):=hidOf <| fun wX hX=>l5Tlbis_any (w11.heap.size+2) MK wX (HMR.out wX hX).1 (HMR.out wX hX).2
             have htl:(tlbOps MK).length<=4096:=runOps_len MK 4096
             clear hth hrB hrL hmark b12 b13 hs13 hw13 hw12 hBR hLK hMK
             go_upto_if 215 with fail
             rw [<- HW13.out]
             have e13:w12.heap.size+1=w13.heap.size:=HS13.out.symm
             rw [e13]
             clear e13
             go_cut [29] (fun v wz=>LSt eOp w13 wz v (if BR.isEmpty then [] else ((BR ++ [dsbO]) ++ tlbOps MK) ++ [dsbO]))
             case first =>
              by_cases hB0:BR=[]
              ·subst hB0
               go_wp2_with fail
               go_meet
               case rel=>exact HO0.out
              ·have dB:decide ((0:Int) < (BR.length:Int))=true:=posB hB0
               have dB2:decide (0 < BR.length)=true:=posB2 hB0
               have pB:0 < BR.length:=List.length_pos_iff.2 hB0
               have pB2:(0:Int) < (BR.length:Int):=of_decide_eq_true dB
               have HB0:Hid (¬ BR=[]):=hB0
               have HQ:Hid ((if BR.isEmpty then [] else ((BR ++ [dsbO]) ++ tlbOps MK) ++ [dsbO])=(([] ++ BR ++ [dsbO]) ++ tlbOps MK) ++ [dsbO]):=headQ hB0
               clear hB0
               obtain ⟨wz,hwz⟩:∃ wz,wz=w13.alloc (.cells #[] 74):=⟨_,rfl⟩
               have bz:Below w13.heap.size w13 wz:=by rw [hwz]; exact bal
               have ho0:=HO0.out
               rw [<- hwz] at ho0
               have bz12:Below w12.heap.size w12 wz:=HB13.out.trans (bz.mono (by have:=HS13.out; omega))
               have hc1:=appL w13 wz _ [] (some ⟨gB,0,none⟩) cB w11.heap.size BR (by simp; omega) ho0 (HBR.out wz bz12) (fun k hk g nn c e=>by
                have hk':some gB=some k:=hk
                simp only [Option.some.injEq] at hk'
                simp only [Value.slice.injEq,Option.some.injEq,Addr.mk.injEq,and_true] at e
                have:=HBO.out.1; have:=HS13.out; omega)
               rw [hwz] at hc1
               clear hwz bz ho0 bz12
               go_wp2_with fail
               refine hc1.mono ?_
               rintro e wy1 ⟨v1,rfl,hl1,_⟩
               clear hc1
               have b1:=HB13.out.trans (hl1.bel.mono (by have:=HS13.out; omega))
               have hc2:=appL w13 wy1 v1 ([] ++ BR) (some ⟨w12.heap.size,0,none⟩) 1 w12.heap.size [dsbO] (by simp; omega) hl1 (HDS.out wy1 hl1.bel) (fun k hk g nn c e=>by
                have hk':some w12.heap.size=some k:=hk
                simp only [Option.some.injEq] at hk'
                obtain ⟨⟨g',c',e',hr'⟩,_⟩:=hl1
                rw [e'] at e
                simp only [Value.slice.injEq,Option.some.injEq,Addr.mk.injEq,and_true] at e
                have:=(hr'.own g' rfl).1; have:=HS13.out; omega)
               clear b1
               have hc2:Calls Tryz.prog 38 #[v1,.slice (some ⟨w12.heap.size,0,none⟩) 1 1] wy1 _:=hc2
               clear hl1
               go_wp2_with fail
               refine hc2.mono ?_
               rintro e wy2 ⟨v2,rfl,hl2,_⟩
               clear hc2
               have hc3:=HTLC.out wy2 (HB13.out.trans (hl2.bel.mono (by have:=HS13.out; omega)))
               have HL2:Hid (LSt eOp w13 wy2 v2 ([] ++ BR ++ [dsbO])):=hl2
               clear hl2
               go_wp2_with fail
               refine hc3.mono ?_
               rintro e wy3 ⟨v3,rfl,hl3⟩
               clear hc3
               have hl2:=HL2.out.below hl3.bel
               obtain ⟨⟨gt,ct,et,hrt⟩,hbt⟩:=hl3
               subst et
               have hc4:=appL w13 wy3 v2 ([] ++ BR ++ [dsbO]) (some ⟨gt,0,none⟩) ct wy2.heap.size (tlbOps MK) (by simp; omega) hl2 hrt (fun k hk g nn c e=>by
                have hk':some gt=some k:=hk
                simp only [Option.some.injEq] at hk'
                obtain ⟨⟨g',c',e',hr'⟩,_⟩:=HL2.out
                rw [e'] at e
                simp only [Value.slice.injEq,Option.some.injEq,Addr.mk.injEq,and_true] at e
                have h1:=(hr'.own g' rfl).2
                have h2:=(hrt.own gt rfl).1
                omega)
               clear hl2 hrt hbt
               go_wp2_with fail
               refine hc4.mono ?_
               rintro e wy4 ⟨v4,rfl,hl4,_⟩
               clear hc4
               have hc5:=appL w13 wy4 v4 ([] ++ BR ++ [dsbO] ++ tlbOps MK) (some ⟨w12.heap.size,0,none⟩) 1 w12.heap.size [dsbO] (by simp; omega) hl4 (HDS.out wy4 hl4.bel) (fun k hk g nn c e=>by
                have hk':some w12.heap.size=some k:=hk
                simp only [Option.some.injEq] at hk'
                obtain ⟨⟨g',c',e',hr'⟩,_⟩:=hl4
                rw [e'] at e
                simp only [Value.slice.injEq,Option.some.injEq,Addr.mk.injEq,and_true] at e
                have:=(hr'.own g' rfl).1; have:=HS13.out; omega)
               have hc5:Calls Tryz.prog 38 #[v4,.slice (some ⟨w12.heap.size,0,none⟩) 1 1] wy4 _:=hc5
               clear hl4
               go_wp2_with fail
               refine hc5.mono ?_
               rintro e wy5 ⟨v5,rfl,hl5,_⟩
               clear hc5
               go_wp2_with fail
               go_meet
               case rel=>rw [HQ.out]; exact hl5
             case rest =>
              obtain ⟨wz,rfl⟩:∃ wz:World,wz=wc:=⟨_,rfl⟩
              obtain ⟨O1,hO1⟩:∃ O1,(if BR.isEmpty then [] else ((BR ++ [dsbO]) ++ tlbOps MK) ++ [dsbO])=O1:=⟨_,rfl⟩
              have hol:O1.length<=20000:=by
               rw [<- hO1]
               split
               ·simp
               ·simp; omega
              rw [hO1] at hcut HOUT
              obtain ⟨⟨go,co,rfl,hro⟩,hbo⟩:=hcut
              have HCUT:Hid (LSt eOp w13 wz (.slice (some ⟨go,0,none⟩) O1.length co) (O1 ++ freeOps 0 G)):=hidOf <| by
               have e0:freeOps 0 G=[]:=rfl
               rw [e0,List.append_nil]
               exact ⟨⟨go,co,rfl,hro⟩,hbo⟩
              have HB5:Hid (∀ wX,Below w13.heap.size w13 wX->Below w5.heap.size w5 wX/\Below w6.heap.size w6 wX/\Below w10.heap.size w10 wX/\Below w12.heap.size w12 wX/\Below w.heap.size w wX):=hidOf <| fun wX hX=>by
               have b12:=HB13.out.trans (hX.mono (by have:=HS13.out; omega))
               have h1:=HBW.out.1.size
               have h2:=HBW.out.2.1.size
               have h3:=HBW.out.2.2.size
               have h4:=HB12.out.size
               exact ⟨HBW.out.2.1.trans (b12.mono h2),HBW.out.2.2.trans (b12.mono h3),HB12.out.trans (b12.mono h4),b12,HBW.out.1.trans (b12.mono h1)⟩
              clear hro hbo hO1
              as_aux_lemma =>
               have hn512:n<=512:=HNZ.out.2.2
               go_wp2_with fail
               go_loopw [29,30] (fun v iv wr=>∃ t:Nat,t<=n/\iv=.int .i64 t/\LSt eOp w13 wr v (O1 ++ freeOps t G)) (fun _ iv _=>n - (intOf iv).toNat)
               case atStart=>exact ⟨0,Nat.zero_le _,rfl,HCUT.out⟩
               case round =>
                obtain ⟨t,ht,rfl,hst⟩:=hrel
                obtain ⟨b5,b6,b10,b12,_⟩:=HB5.out wr hst.bel
                obtain ⟨k0,_,_,_⟩:=HK.out wr b5
                have hol2:(O1 ++ freeOps t G).length<=30000:=by rw [List.length_append]; have:=freeOps_len G t; have:=HNZ.out; omega
                have hf1:=hfrm wr
                by_cases hlt:t < n
                ·have HSU:Hid (freeOps (t+1) G=freeOps t G ++ (if hasFr G (t:Nat) then [⟨4,(t:Nat),0,0⟩] else [])):=freeTo_succ G t
                 have HHF:Hid (∀ wX,Below wr.heap.size wr wX->Calls Tryz.prog 40 #[.slice (some ⟨gg,0,none⟩) G.length cg,.int .i64 t] wX fun e w'=>e=.returned (.bool (hasFr G (t:Nat)))/\w'=wX):=hidOf <| fun wX hX=>hasFr_any (some ⟨gg,0,none⟩) cg w5.heap.size G t wX (by omega) (HGR.out wX (b6.trans (hX.mono b6.size)))
                 have dt:decide ((t:Int) < (n:Int))=true:=decide_eq_true (by omega)
                 obtain ⟨l,hl⟩:∃ l,O1 ++ freeOps t G=l:=⟨_,rfl⟩
                 rw [hl] at hst hol2
                 have HLQ:Hid (O1 ++ freeOps (t+1) G=l ++ (if hasFr G (t:Nat) then [⟨4,(t:Nat),0,0⟩] else [])):=hidOf <| by rw [HSU.out,<- List.append_assoc,hl]
                 have HST:Hid _:=hst
                 clear hl hst HSU
                 go_wp2_with fail
                 refine hf1.mono ?_
                 rintro e w30 ⟨rfl,hb30⟩
                 have h30:=HST.out.below hb30
                 have hh:=HHF.out w30 hb30
                 cases hd:hasFr G (t:Nat)
                 ·rw [hd] at hh
                  have HLE:Hid (O1 ++ freeOps (t+1) G=l):=hidOf <| by rw [HLQ.out,hd]; simp
                  clear hd hb30 hf1
                  go_wp2_with (go_at_call 40; refine hh.mono ?_; rintro e wE ⟨rfl,hwE⟩; obtain rfl:=hwE.symm)
                  go_roundw
                  case rel=>exact ⟨t+1,by omega,by go_num,by rw [HLE.out]; exact h30⟩
                  case measure=>simp [intOf]; omega
                 ·rw [hd] at hh
                  have HLE:Hid (O1 ++ freeOps (t+1) G=l ++ [⟨4,(t:Nat),0,0⟩]):=hidOf <| by rw [HLQ.out,hd]; rfl
                  obtain ⟨⟨gv,cv,evv,hrow⟩,hbel⟩:=h30
                  subst evv
                  have hsz2:=hbel.size
                  have HROW:Hid _:=hrow
                  have HBL:Hid (Below _ w13 w30):=hbel
                  clear hd hb30 hf1 hrow hbel
                  go_wp2_with (first | (go_at_call 40; refine hh.mono ?_; rintro e wE ⟨rfl,hwE⟩; obtain rfl:=hwE.symm) | (at_builtin; refine wpList_append_lies _ rfl (.tmp 235) (.tmp 238) 28 rfl w13.heap.size 74 iO _ 4 32 Tryz.underlying28 hiO hzO0 hzO1 hzO2 rfl (by omega) _ _ _ rfl (World.ownsRow.alloc HROW.out _) ⟨w30.heap.size,0,none⟩ 1 1 [.int .i64 4,.int .i64 t,.int .i64 0,.int .u64 0] rfl rfl ?c1 ?c2 (by omega) ?c3 ?c4 ?c5 (w30.heap.size+1) ?c6 ?_))
                  case c1=>exact World.news_of_block (heap_alloc_new w30 (.cells #[.int .i64 4,.int .i64 t,.int .i64 0,.int .u64 0] 74))
                  case c2=>intro u hu; simp at hu; rcases hu with rfl | rfl | rfl | rfl <;> rfl
                  case c3=>unfold maxLen; omega
                  case c4=>omega
                  case c5=>simp; omega
                  case c6=>simp
                  intro g1 cap1 wn hown hgrow hat hlt3
                  have hstn:=LSt.push (x:=(⟨4,(t:Nat),0,0⟩:OpE)) HBL.out HROW.out hown hgrow
                  clear hown hgrow hat hlt3
                  go_wp2_with fail
                  go_roundw
                  case rel=>exact ⟨t+1,by omega,by go_num,by rw [HLE.out]; exact hstn⟩
                  case measure=>simp [intOf]; omega
                ·have et:t=n:=by omega
                 subst et
                 have dt:decide ((t:Int) < (t:Int))=false:=decide_eq_false (by omega)
                 obtain ⟨O2,hO2⟩:∃ O2,O1 ++ freeOps t G=O2:=⟨_,rfl⟩
                 rw [hO2] at hst hol2
                 have HOUT2:Hid (planL zs t H ps=O2 ++ (sealO (fillOps H AL FR) ++ sealO LK)):=hidOf <| by rw [HOUT.out,<- List.append_assoc,hO2]
                 have HST:Hid _:=hst
                 clear hO2 hst
                 go_wp2_with fail
                 refine hf1.mono ?_
                 rintro e w30 ⟨rfl,hb30⟩
                 have h30:=HST.out.below hb30
                 have HL7:Hid (LSt eOp w13 w30 _ (O2 ++ fillOps H AL (FR.take 0))):=hidOf <| by
                  have e0:fillOps H AL (FR.take 0)=[]:=by rw [List.take_zero]; rfl
                  rw [e0,List.append_nil]
                  exact h30
                 clear hb30 hf1 h30
                 go_wp2_with fail
                 go_loopw [29,31] (fun v iv wr=>∃ i:Nat,i<=FR.length/\iv=.int .i64 i/\LSt eOp w13 wr v (O2 ++ fillOps H AL (FR.take i))) (fun _ iv _=>FR.length - (intOf iv).toNat)
                 case atStart=>exact ⟨0,Nat.zero_le _,rfl,HL7.out⟩
                 case round =>
                  obtain ⟨i,hi,rfl,hst⟩:=hrel
                  have hfl:(O2 ++ fillOps H AL (FR.take i)).length<=50000:=by rw [List.length_append,fillOps_len,List.length_take]; omega
                  by_cases hlt:i < FR.length
                  ·obtain ⟨lv,pg,F,hE,l1,l3,lp,lF⟩:=HFM.out _ (pAt_mem hlt)
                   have HSU:Hid (fillOps H AL (FR.take (i+1))=fillOps H AL (FR.take i) ++ fillOne H AL ⟨F,lv,pg⟩ 16):=hidOf <| by rw [fillTo_succ H AL FR i hlt,hE]
                   have HCF:Hid (∀ wX,Below w13.heap.size w13 wX->gF < wX.heap.size/\wX.cell? ⟨gF,i * 3,none⟩=some (.int .i64 F)/\wX.cell? ⟨gF,i * 3+1,none⟩=some (.int .i64 lv)/\wX.cell? ⟨gF,i * 3+2,none⟩=some (.int .i64 pg)):=hidOf <| fun wX hX=>by
                    have:=ePl_cells (HFRR.out wX (HB5.out wX hX).2.2.1) i hlt
                    rw [hE] at this
                    exact this
                   have L1:(0:Int)<=(i:Int):=by omega
                   have L2:(i:Int) < (FR.length:Int):=by omega
                   obtain ⟨l,hl⟩:∃ l,O2 ++ fillOps H AL (FR.take i)=l:=⟨_,rfl⟩
                   rw [hl] at hst hfl
                   have HLQ:Hid (O2 ++ fillOps H AL (FR.take (i+1))=l ++ fillOne H AL ⟨F,lv,pg⟩ 16):=hidOf <| by rw [HSU.out,<- List.append_assoc,hl]
                   have HST7:Hid (LSt eOp w13 wr _ (l ++ fillOne H AL ⟨F,lv,pg⟩ 0)):=hidOf <| by
                    have e0:fillOne H AL ⟨F,lv,pg⟩ 0=[]:=rfl
                    rw [e0,List.append_nil]
                    exact hst
                   have hcv:=covers_any lv
                   rw [cov_epg] at hcv
                   have hcp:=epg_pos lv
                   have hcm:epg lv<=256:=by unfold epg; split <;> (try split) <;> omega
                   have htp:tpg lv=epg lv * 16:=by
                    rcases (show lv=1\/lv=2\/lv=3 by omega) with rfl | rfl | rfl <;> rfl
                   rw [htp] at lp
                   have HCE:Hid (cov (lv:Int)=((epg lv:Nat):Int)):=cov_epg lv
                   clear hl hst hE HSU htp
                   go_wp2_with fail
                   go_loopw [29,32] (fun v iv wr=>∃ k:Nat,k<=16/\iv=.int .i64 k/\LSt eOp w13 wr v (l ++ fillOne H AL ⟨F,lv,pg⟩ k)) (fun _ iv _=>16 - (intOf iv).toNat)
                   case atStart=>exact ⟨0,Nat.zero_le _,rfl,HST7.out⟩
                   case round =>
                    obtain ⟨k,hk,rfl,hst⟩:=hrel
                    have hfl2:(l ++ fillOne H AL ⟨F,lv,pg⟩ k).length<=50100:=by rw [List.length_append,fillOne_len]; omega
                    by_cases hltk:k < 16
                    ·have hke:k * epg lv<=15 * epg lv:=Nat.mul_le_mul_right _ (by omega)
                     obtain ⟨l2,hl2⟩:∃ l2,l ++ fillOne H AL ⟨F,lv,pg⟩ k=l2:=⟨_,rfl⟩
                     rw [hl2] at hst hfl2
                     have HL2:Hid (l ++ fillOne H AL ⟨F,lv,pg⟩ k=l2):=hl2
                     clear hl2
                     have HSK:Hid (fillOne H AL ⟨F,lv,pg⟩ (k+1)=fillOne H AL ⟨F,lv,pg⟩ k ++ [⟨1,(F:Int) * 16+(k:Nat),0,rgt H AL lv ((pg+k * epg lv:Nat):Int)⟩]):=hidOf <| by
                      rw [fillOne_succ]
                      have e1:(pg:Int)+(k:Nat) * cov (lv:Int)=((pg+k * epg lv:Nat):Int):=by rw [HCE.out]; simp
                      dsimp only
                      rw [e1]
                     have hbw:=hst.bel
                     have HCR:Hid (∀ wX,Below wr.heap.size wr wX->gF < wX.heap.size/\wX.cell? ⟨gF,i * 3,none⟩=some (.int .i64 F)/\wX.cell? ⟨gF,i * 3+1,none⟩=some (.int .i64 lv)/\wX.cell? ⟨gF,i * 3+2,none⟩=some (.int .i64 pg)):=hidOf <| fun wX hX=>HCF.out wX (hbw.trans (hX.mono hbw.size))
                     have HRI:Hid (∀ wX,Below wr.heap.size wr wX->Calls Tryz.prog 35 #[.slice (some ⟨gh,0,none⟩) 4096 ch,.slice (some ⟨gA,0,none⟩) AL.length cA,.int .i64 lv,.int .i64 ((pg+k * epg lv:Nat):Int)] wX fun e w'=>e=.returned (.int .u64 (rgt H AL lv ((pg+k * epg lv:Nat):Int)))/\Below wX.heap.size wX w'):=hidOf <| fun wX hX=>by
                      have b13:=hbw.trans (hX.mono hbw.size)
                      have:=l5Right_any gh ch w2.heap.size (hitsTo xs 4096) (some ⟨gA,0,none⟩) cA w6.heap.size AL lv (pg+k * epg lv) wX (hitsTo_len xs 4096) l1 l3 (by omega) (HHS.out wX (HB5.out wX b13).1) (by omega) (HAR.out wX (HB5.out wX b13).2.2.1)
                      rw [HLY.out] at this
                      exact this
                     have epk:((pg+k * epg lv:Nat):Int)=(pg:Int)+(k:Int) * (epg lv:Nat):=by simp
                     rw [epk] at HSK HRI
                     generalize rgt H AL lv ((pg:Int)+(k:Int) * (epg lv:Nat))=RG at HSK HRI
                     have hkeI:(k:Int) * (epg lv:Nat)<=4096:=(by have h9:((k * epg lv:Nat):Int)<=4096:=(by omega); simpa using h9)
                     have hkeJ:(0:Int)<=(k:Int) * (epg lv:Nat):=Int.mul_nonneg (by omega) (by omega)
                     generalize epg lv=EC at hcv hcp hcm HSK HRI hke hkeI hkeJ epk
                     have W1:IntKind.i64.wrap ((k:Int) * (EC:Int))=(k:Int) * (EC:Int):=by rw [IntKind.wrap_i64]; omega
                     have W2:IntKind.i64.wrap ((pg:Int)+(k:Int) * (EC:Int))=(pg:Int)+(k:Int) * (EC:Int):=by rw [IntKind.wrap_i64]; omega
                     have HST:Hid _:=hst
                     have hnz:F < 512:=by have:=HNZ.out; omega
                     clear hst epk
                     go_wp2_with fail
                     refine wp_region_held_drew (S:=fun wX=>gF < wX.heap.size/\wX.cell? ⟨gF,i * 3,none⟩=some (.int .i64 F)/\wX.cell? ⟨gF,i * 3+1,none⟩=some (.int .i64 lv)/\wX.cell? ⟨gF,i * 3+2,none⟩=some (.int .i64 pg)) (by kernel_rfl) (HCR.out _ (Below.refl _ _).drew) (fun hHeld=>?_)
                     refine tk 0 ?_
                     refine tk 1 ?_
                     refine tk 2 ?_
                     refine tk 3 ?_
                     refine tk 4 ?_
                     refine tk 5 ?_
                     refine tk 6 ?_
                     refine tk 7 ?_
                     refine tk 8 ?_
                     refine tk 9 ?_
                     refine tk 10 ?_
                     refine wpAnyH_ready (rs:=[11]) (by kernel_rfl) (by simp) ?_
                     refine AllReadyH.cons rfl (fun K0 hK0=>?_) AllReadyH.nil
                     go_simp
                     go_at_call 37
                     refine (hcv _).mono ?_
                     rintro e wD ⟨rfl,hwD⟩
                     subst hwD
                     go_wp2_with fail
                     refine hK0.out _ _ (HCR.out _ (Below.refl _ _).drew) (fun hHeld2=>?_)
                     clear hK0 K0
                     refine tk 12 ?_
                     refine tk 13 ?_
                     refine tk 14 ?_
                     refine wpAnyH_done (by kernel_rfl) ?_ _
                     clear hHeld hHeld2
                     obtain ⟨hgF,c0,c1,c2⟩:=HCR.out wr (Below.refl _ _)
                     go_wp2_with fail
                     refine (HRI.out _ (Below.refl _ _).drew).mono ?_
                     rintro e w40 ⟨rfl,hb40'⟩
                     have hb40:Below wr.heap.size wr w40:=(Below.refl _ _).drew.trans (hb40'.mono (by simp))
                     clear hb40'
                     have h40:=HST.out.below hb40
                     obtain ⟨hgF,c0,c1,c2⟩:=HCR.out w40 hb40
                     obtain ⟨⟨gv,cv,evv,hrow⟩,hbel⟩:=h40
                     first | subst evv | (simp only [Value.slice.injEq,Option.some.injEq,Addr.mk.injEq,and_true,true_and] at evv; obtain ⟨rfl,rfl⟩:=evv)
                     have hsz2:=hbel.size
                     have HROW:Hid _:=hrow
                     have HBL:Hid (Below _ w13 w40):=hbel
                     clear hb40 hrow hbel
                     go_wp2_with (at_builtin; refine wpList_append_lies _ rfl (.tmp 273) (.tmp 284) 28 rfl w13.heap.size 74 iO _ 4 32 Tryz.underlying28 hiO hzO0 hzO1 hzO2 rfl (by omega) _ _ _ rfl (World.ownsRow.alloc HROW.out _) ⟨w40.heap.size,0,none⟩ 1 1 [.int .i64 1,.int .i64 ((F:Int) * 16+(k:Int)),.int .i64 0,.int .u64 RG] rfl rfl ?c1 ?c2 (by omega) ?c3 ?c4 ?c5 (w40.heap.size+1) ?c6 ?_)
                     case c1=>exact World.news_of_block (heap_alloc_new w40 (.cells #[.int .i64 1,.int .i64 ((F:Int) * 16+(k:Int)),.int .i64 0,.int .u64 RG] 74))
                     case c2=>intro u hu; simp at hu; rcases hu with rfl | rfl | rfl | rfl <;> rfl
                     case c3=>unfold maxLen; omega
                     case c4=>omega
                     case c5=>simp; omega
                     case c6=>simp
                     intro g1 cap1 wn hown hgrow hat hlt3
                     have hstn:=LSt.push (x:=(⟨1,(F:Int) * 16+(k:Int),0,RG⟩:OpE)) HBL.out HROW.out hown hgrow
                     clear hown hgrow hat hlt3 c0 c1 c2
                     go_wp2_with fail
                     go_roundw
                     case rel=>exact ⟨k+1,by omega,by go_num,by rw [HSK.out,<- List.append_assoc,HL2.out]; exact hstn⟩
                     case measure=>simp [intOf]; omega
                    ·have ek:k=16:=by omega
                     subst ek
                     go_wp2_with fail
                     go_roundw
                     case rel=>exact ⟨i+1,by omega,by go_num,by rw [HLQ.out]; exact hst⟩
                     case measure=>simp [intOf]; omega
                  ·have ei:i=FR.length:=by omega
                   subst ei
                   rw [List.take_length] at hst hfl
                   as_aux_lemma =>
                    have HST:Hid _:=hst
                    have htot:=hfl
                    clear hst
                    go_upto_if 288 with fail
                    go_cut [29] (fun v wz=>LSt eOp w13 wz v (O2 ++ sealO (fillOps H AL FR)))
                    case first =>
                     by_cases hF0:FR=[]
                     ·have HQ:Hid (O2 ++ sealO (fillOps H AL FR)=O2 ++ fillOps H AL FR):=sealF0 H AL FR O2 hF0
                      obtain ⟨dF,dF2⟩:=noB hF0
                      have pF:¬ 0 < FR.length:=of_decide_eq_false dF2
                      clear hF0
                      go_wp2_with fail
                      go_meet
                      case rel=>rw [HQ.out]; exact HST.out
                     ·have dF:decide ((0:Int) < (FR.length:Int))=true:=posB hF0
                      have dF2:decide (0 < FR.length)=true:=posB2 hF0
                      have pF:0 < FR.length:=List.length_pos_iff.2 hF0
                      have pF2:(0:Int) < (FR.length:Int):=of_decide_eq_true dF
                      have HQ:Hid (O2 ++ sealO (fillOps H AL FR)=(O2 ++ fillOps H AL FR) ++ [dsbO]):=sealF1 H AL FR O2 hF0
                      have hc:=appL w13 wr _ (O2 ++ fillOps H AL FR) (some ⟨w12.heap.size,0,none⟩) 1 w12.heap.size [dsbO] (by simp at htot ⊢; omega) HST.out (HDS.out wr HST.out.bel) (fun k hk g nn c e=>by
                       have hk':some w12.heap.size=some k:=hk
                       simp only [Option.some.injEq] at hk'
                       obtain ⟨⟨g',c',e',hr'⟩,_⟩:=HST.out
                       rw [e'] at e
                       simp only [Value.slice.injEq,Option.some.injEq,Addr.mk.injEq,and_true] at e
                       have:=(hr'.own g' rfl).1; have:=HS13.out; omega)
                      clear hF0
                      go_wp2_with fail
                      refine hc.mono ?_
                      rintro e wy1 ⟨v1,rfl,hl1,_⟩
                      clear hc
                      go_wp2_with fail
                      go_meet
                      case rel=>rw [HQ.out]; exact hl1
                    case rest =>
                     obtain ⟨wz2,hwz2⟩:∃ wz2:World,wz2=wc:=⟨_,rfl⟩
                     rw [<- hwz2] at hcut ⊢
                     clear hwz2
                     obtain ⟨O3,hO3⟩:∃ O3,O2 ++ sealO (fillOps H AL FR)=O3:=⟨_,rfl⟩
                     have hol3:O3.length<=51000:=by
                      rw [<- hO3,List.length_append]
                      unfold sealO
                      split <;> (simp at htot ⊢; omega)
                     rw [hO3] at hcut
                     have HOUT3:Hid (planL zs t H ps=O3 ++ sealO LK):=hidOf <| by rw [HOUT2.out,<- List.append_assoc,hO3]
                     obtain ⟨⟨gy,cy,rfl,hry⟩,hby⟩:=hcut
                     have HL3:Hid (LSt eOp w13 wz2 (.slice (some ⟨gy,0,none⟩) O3.length cy) O3):=⟨⟨gy,cy,rfl,hry⟩,hby⟩
                     clear hO3 hry hby HST
                     have HFIN:Hid (∀ v wF l,planL zs t H ps=l->LSt eOp w13 wF v l->PlanPost w (planL zs t H ps,0) (.returned (.tuple #[v,.int .i64 0])) wF):=hidOf <| fun v wF l hl hst=>by
                      obtain ⟨⟨g,c,e,hr⟩,hb⟩:=hst
                      subst hl
                      subst e
                      have b:=(HB5.out wF hb).2.2.2.2
                      refine ⟨_,_,rfl,hr.rebase ?_,b⟩
                      have h1:=(HB5.out w13 (Below.refl _ _)).2.2.2.2.size
                      exact h1
                     by_cases hL0:LK=[]
                     ·obtain ⟨dL,dL2⟩:=noB hL0
                      have pL:¬ 0 < LK.length:=of_decide_eq_false dL2
                      have HE:Hid (planL zs t H ps=O3):=hidOf <| by rw [HOUT3.out,hL0,sealO_nil,List.append_nil]
                      clear hL0
                      go_wp2_with fail
                      go_ret2
                      exact HFIN.out _ _ _ HE.out HL3.out
                     ·have dL:decide ((0:Int) < (LK.length:Int))=true:=posB hL0
                      have dL2:decide (0 < LK.length)=true:=posB2 hL0
                      have pL:0 < LK.length:=List.length_pos_iff.2 hL0
                      have pL2:(0:Int) < (LK.length:Int):=of_decide_eq_true dL
                      have HE:Hid (planL zs t H ps=(O3 ++ LK) ++ [dsbO]):=hidOf <| by rw [HOUT3.out,sealO_cons hL0,List.append_assoc]
                      have hc:=appL w13 wz2 _ O3 (some ⟨gL,0,none⟩) cL w11.heap.size LK (by omega) HL3.out (HLK.out wz2 (HB5.out wz2 HL3.out.bel).2.2.2.1) (fun k hk g nn c e=>by
                       have hk':some gL=some k:=hk
                       simp only [Option.some.injEq] at hk'
                       obtain ⟨⟨g',c',e',hr'⟩,_⟩:=HL3.out
                       rw [e'] at e
                       simp only [Value.slice.injEq,Option.some.injEq,Addr.mk.injEq,and_true] at e
                       have:=(hr'.own g' rfl).1; have:=HS13.out; have:=HBO.out.2; omega)
                      clear hL0
                      go_wp2_with fail
                      refine hc.mono ?_
                      rintro e wy1 ⟨v1,rfl,hl1,_⟩
                      have hc2:=appL w13 wy1 v1 (O3 ++ LK) (some ⟨w12.heap.size,0,none⟩) 1 w12.heap.size [dsbO] (by simp; omega) hl1 (HDS.out wy1 hl1.bel) (fun k hk g nn c e=>by
                       have hk':some w12.heap.size=some k:=hk
                       simp only [Option.some.injEq] at hk'
                       obtain ⟨⟨g',c',e',hr'⟩,_⟩:=hl1
                       rw [e'] at e
                       simp only [Value.slice.injEq,Option.some.injEq,Addr.mk.injEq,and_true] at e
                       have:=(hr'.own g' rfl).1; have:=HS13.out; omega)
                      have hc2:Calls Tryz.prog 38 #[v1,.slice (some ⟨w12.heap.size,0,none⟩) 1 1] wy1 _:=hc2
                      clear hc hl1
                      go_wp2_with fail
                      refine hc2.mono ?_
                      rintro e wy2 ⟨v2,rfl,hl2,_⟩
                      clear hc2
                      go_wp2_with fail
                      go_ret2
                      exact HFIN.out _ _ _ HE.out hl2
end Go.Proofs.YtnmhkgmmpkjjeacGreat
