import Derived.Test.YtiiejckfcnmhoabGreatQ56
import Derived.Test.YtiiejckfcnmhoabGreatQ46
import Derived.Test.YtiiejckfcnmhoabGreatQ47
import Derived.Test.YtiiejckfcnmhoabGreatQ45
import Derived.Test.YtiiejckfcnmhoabGreatQ29
import Derived.Test.YtiiejckfcnmhoabGreatQ24
import Derived.Lib.SmallJoins
namespace Go.Proofs.YtiiejckfcnmhoabGreat
open Go.ChangeShapes Go.WideShapes Go.ChangeAt Go.RowKit
set_option linter.unusedVariables false
attribute [local go_sem ↓] Go.wp_at_zero Go.wp_at_succ
theorem execOk_eq (M:Mach) (ops:List OpE) (evs:List EventE):execOk M ops evs=(validB M && decide (ops.length<=20000) && (decide (evs.length<=10000) && evsOk evs)):=by
 unfold execOk evsOk
 rw [Bool.and_assoc,Bool.and_assoc]
set_option maxRecDepth 100000 in
set_option maxHeartbeats 8000000 in
theorem implExec_gen (s:SV) (M:Mach) (b bo be:Nat) (oa ea:Option Addr) (oc ec:Nat) (ops:List OpE) (evs:List EventE) (w:World) (R:XS) (hR:R=execR M ops evs) (hk:MOk M) (hs:M.Small) (hol:ops.length<=1048576) (hel:evs.length<=1048576) (ho:∀ i,OpOk (opAt ops i)) (hm:MRow w b (s.mv M) M) (hops:ERow eOp w bo (.slice oa ops.length oc) ops) (hevs:ERow eEvent w be (.slice ea evs.length ec) evs) :
  Calls Tryz.prog 22 #[.agg #[.slice s.a1 M.mem.length s.c1,.slice s.a2 M.pend.length s.c2,.slice s.a3 M.tlb.length s.c3,.slice s.a4 M.wc.length s.c4],.slice oa ops.length oc,.slice ea evs.length ec] w fun e w'=>∃ (s':SV) (sa:Option Addr) (sc:Nat),e=.returned (.agg #[.int .i64 R.code,.int .i64 (R.at':Int),.slice s'.a1 R.M.mem.length s'.c1,.slice s'.a2 R.M.pend.length s'.c2,.slice s'.a3 R.M.tlb.length s'.c3,.slice s'.a4 R.M.wc.length s'.c4,.slice sa R.seen.length sc])/\MRow w' w.heap.size (s'.mv R.M) R.M/\ERow eSeen w' w.heap.size (.slice sa R.seen.length sc) R.seen/\(s'.mv R.M).apart/\(∀ k,oOf sa=some k->¬ (s'.mv R.M).owns k)/\Below w.heap.size w w':=by
 obtain ⟨wb,hwb⟩:∃ wb,wb=(w.alloc (.cells #[.slice s.a1 M.mem.length s.c1,.slice s.a2 M.pend.length s.c2,.slice s.a3 M.tlb.length s.c3,.slice s.a4 M.wc.length s.c4] 36)).alloc (.cells #[.int .i64 0,.int .i64 0,.slice none 0 0,.slice none 0 0,.slice none 0 0,.slice none 0 0,.slice none 0 0] 60):=⟨_,rfl⟩
 have hbb:Below w.heap.size w wb:=by rw [hwb]; exact bal.alloc (by simp) _
 have hzb:wb.heap.size=w.heap.size+2:=by rw [hwb]; simp
 have HBOX:Hid (∀ wX,Below wb.heap.size wb wX->(wX.cell? ⟨w.heap.size,0,none⟩=some (.slice s.a1 M.mem.length s.c1)/\wX.cell? ⟨w.heap.size,1,none⟩=some (.slice s.a2 M.pend.length s.c2)/\wX.cell? ⟨w.heap.size,2,none⟩=some (.slice s.a3 M.tlb.length s.c3)/\wX.cell? ⟨w.heap.size,3,none⟩=some (.slice s.a4 M.wc.length s.c4))/\(wX.cell? ⟨w.heap.size+1,0,none⟩=some (.int .i64 0)/\wX.cell? ⟨w.heap.size+1,1,none⟩=some (.int .i64 0)/\wX.cell? ⟨w.heap.size+1,2,none⟩=some (.slice none 0 0)/\wX.cell? ⟨w.heap.size+1,3,none⟩=some (.slice none 0 0)/\wX.cell? ⟨w.heap.size+1,4,none⟩=some (.slice none 0 0)/\wX.cell? ⟨w.heap.size+1,5,none⟩=some (.slice none 0 0)/\wX.cell? ⟨w.heap.size+1,6,none⟩=some (.slice none 0 0))/\(wX.frozen? ⟨w.heap.size+1,0,none⟩=false/\wX.frozen? ⟨w.heap.size+1,1,none⟩=false/\wX.frozen? ⟨w.heap.size+1,2,none⟩=false/\wX.frozen? ⟨w.heap.size+1,3,none⟩=false/\wX.frozen? ⟨w.heap.size+1,4,none⟩=false/\wX.frozen? ⟨w.heap.size+1,5,none⟩=false/\wX.frozen? ⟨w.heap.size+1,6,none⟩=false)/\w.heap.size < wX.heap.size/\w.heap.size+1 < wX.heap.size):=fun wX hX=>by
  have hsz:=hX.size
  refine ⟨⟨?_,?_,?_,?_⟩,⟨?_,?_,?_,?_,?_,?_,?_⟩,⟨?_,?_,?_,?_,?_,?_,?_⟩,by omega,by omega⟩
  iterate 11 (exact (hX.cell (by simp; omega)).trans (by rw [hwb]; simp [go_sem]))
  iterate 7 (exact (hX.frozen (by simp; omega)).trans (by rw [hwb]; simp [go_sem]))
 have hvm:=validM_any s M b wb hs (hm.below hbb)
 rw [hwb] at hvm
 have HM:Hid (∀ wX,Below wb.heap.size wb wX->MRow wX b (s.mv M) M):=fun wX hX=>hm.below (hbb.trans (hX.mono (by omega)))
 have HVS:Hid (∀ wX,Below wb.heap.size wb wX->Calls Tryz.prog 77 #[.slice ea evs.length ec] wX fun e w'=>e=.returned (.bool (decide (evs.length<=10000) && evsOk evs))/\Below wX.heap.size wX w'):=fun wX hX=>validScript_any ea ec be evs wX hel (hevs.below (hbb.trans (hX.mono (by omega))))
 have HB0:Hid (Below w.heap.size w wb):=hbb
 have HZB:Hid (wb.heap.size=w.heap.size+2):=hzb
 have HWB:Hid (wb=_):=hwb
 have HBAD:Hid (execOk M ops evs=false->R=⟨zM,0,9,[]⟩):=fun hx=>by rw [hR]; unfold execR; rw [hx]; rfl
 have HGOOD:Hid (execOk M ops evs=true->R=endX M ops evs):=fun hx=>by rw [hR]; unfold execR; rw [hx]; rfl
 clear hwb hbb hzb hR
 cases hv:validB M
 ·have HBD:Hid (R=⟨zM,0,9,[]⟩):=HBAD.out (by rw [execOk_eq,hv]; rfl)
  rw [hv] at hvm
  clear hv hm hops hevs
  go_enter Tryz.func22,Tryz.ntmps22
  go_wp2_with fail
  refine hvm.mono ?_
  rintro e w1 ⟨rfl,hb1'⟩
  have hb1:Below wb.heap.size wb w1:=by rw [HWB.out]; exact hb1'
  have HB1:Hid (Below wb.heap.size wb w1):=hb1
  clear hb1' hb1 hvm
  obtain ⟨_,⟨r0,r1,r2,r3,r4,r5,r6⟩,⟨z0,z1,z2,z3,z4,z5,z6⟩,N0,N1⟩:=HBOX.out w1 HB1.out
  go_wp2_with fail
  obtain ⟨wF,hwF⟩:∃ wF,wF=(((((((w1.setCell ⟨w.heap.size+1,0,none⟩ (.int .i64 9)).setCell ⟨w.heap.size+1,1,none⟩ (.int .i64 0)).setCell ⟨w.heap.size+1,2,none⟩ (.slice none 0 0)).setCell ⟨w.heap.size+1,3,none⟩ (.slice none 0 0)).setCell ⟨w.heap.size+1,4,none⟩ (.slice none 0 0)).setCell ⟨w.heap.size+1,5,none⟩ (.slice none 0 0)).setCell ⟨w.heap.size+1,6,none⟩ (.slice none 0 0)):=⟨_,rfl⟩
  have tF:Touch (fun k=>k=w.heap.size+1) w1 wF:=by
   rw [hwF]
   exact Touch.put (Touch.put (Touch.put (Touch.put (Touch.put (Touch.put (Touch.put (Touch.none _) _ _ (by rfl)) _ _ (by rfl)) _ _ (by rfl)) _ _ (by rfl)) _ _ (by rfl)) _ _ (by rfl)) _ _ (by rfl)
  have bF:Below w.heap.size w wF:=Touch.below (HB0.out.trans (HB1.out.mono (by have:=HZB.out; omega))) tF (by omega) (fun k hk=>by omega)
  obtain ⟨y0,y1,y2,y3,y4,y5,y6⟩:=put7c hwF r0 r1 r2 r3 r4 r5 r6
  rw [<- hwF]
  refine bodyPost_ret (v:=.agg #[.int .i64 9,.int .i64 0,.slice none 0 0,.slice none 0 0,.slice none 0 0,.slice none 0 0,.slice none 0 0]) (by simp [results,Tryz.results22,go_sem,y0,y1,y2,y3,y4,y5,y6]) rfl ⟨zS,none,0,?_,?_,?_,?_,?_,bF⟩
  ·rw [HBD.out]; rfl
  ·rw [HBD.out]; exact zM_row _ _
  ·rw [HBD.out]; exact ERow.nilz _ _ _
  ·rw [HBD.out]; exact zM_apart
  ·intro k hk; cases hk
 ·rw [hv] at hvm
  by_cases hl1:20000 < ops.length
  ·have HBD:Hid (R=⟨zM,0,9,[]⟩):=HBAD.out (by rw [execOk_eq,decide_eq_false (p:=ops.length<=20000) (by omega)]; simp)
   have d1:decide ((20000:Int) < (ops.length:Int))=true:=by simp; omega
   clear hv hm hops hevs hl1
   go_enter Tryz.func22,Tryz.ntmps22
   go_wp2_with fail
   refine hvm.mono ?_
   rintro e w1 ⟨rfl,hb1'⟩
   have hb1:Below wb.heap.size wb w1:=by rw [HWB.out]; exact hb1'
   have HB1:Hid (Below wb.heap.size wb w1):=hb1
   clear hb1' hb1 hvm
   obtain ⟨_,⟨r0,r1,r2,r3,r4,r5,r6⟩,⟨z0,z1,z2,z3,z4,z5,z6⟩,N0,N1⟩:=HBOX.out w1 HB1.out
   go_wp2_with fail
   obtain ⟨wF,hwF⟩:∃ wF,wF=(((((((w1.setCell ⟨w.heap.size+1,0,none⟩ (.int .i64 9)).setCell ⟨w.heap.size+1,1,none⟩ (.int .i64 0)).setCell ⟨w.heap.size+1,2,none⟩ (.slice none 0 0)).setCell ⟨w.heap.size+1,3,none⟩ (.slice none 0 0)).setCell ⟨w.heap.size+1,4,none⟩ (.slice none 0 0)).setCell ⟨w.heap.size+1,5,none⟩ (.slice none 0 0)).setCell ⟨w.heap.size+1,6,none⟩ (.slice none 0 0)):=⟨_,rfl⟩
   have tF:Touch (fun k=>k=w.heap.size+1) w1 wF:=by
    rw [hwF]
    exact Touch.put (Touch.put (Touch.put (Touch.put (Touch.put (Touch.put (Touch.put (Touch.none _) _ _ (by rfl)) _ _ (by rfl)) _ _ (by rfl)) _ _ (by rfl)) _ _ (by rfl)) _ _ (by rfl)) _ _ (by rfl)
   have bF:Below w.heap.size w wF:=Touch.below (HB0.out.trans (HB1.out.mono (by have:=HZB.out; omega))) tF (by omega) (fun k hk=>by omega)
   obtain ⟨y0,y1,y2,y3,y4,y5,y6⟩:=put7c hwF r0 r1 r2 r3 r4 r5 r6
   rw [<- hwF]
   refine bodyPost_ret (v:=.agg #[.int .i64 9,.int .i64 0,.slice none 0 0,.slice none 0 0,.slice none 0 0,.slice none 0 0,.slice none 0 0]) (by simp [results,Tryz.results22,go_sem,y0,y1,y2,y3,y4,y5,y6]) rfl ⟨zS,none,0,?_,?_,?_,?_,?_,bF⟩
   ·rw [HBD.out]; rfl
   ·rw [HBD.out]; exact zM_row _ _
   ·rw [HBD.out]; exact ERow.nilz _ _ _
   ·rw [HBD.out]; exact zM_apart
   ·intro k hk; cases hk
  ·have d1:decide ((20000:Int) < (ops.length:Int))=false:=by simp; omega
   cases hvs:(decide (evs.length<=10000) && evsOk evs)
   ·have HBD:Hid (R=⟨zM,0,9,[]⟩):=HBAD.out (by rw [execOk_eq,hvs]; simp)
    rw [hvs] at HVS
    clear hv hm hops hevs hl1 hvs
    go_enter Tryz.func22,Tryz.ntmps22
    go_wp2_with fail
    refine hvm.mono ?_
    rintro e w1 ⟨rfl,hb1'⟩
    have hb1:Below wb.heap.size wb w1:=by rw [HWB.out]; exact hb1'
    have HB1:Hid (Below wb.heap.size wb w1):=hb1
    clear hb1' hb1 hvm
    go_wp2_with fail
    refine (HVS.out w1 HB1.out).mono ?_
    rintro e w2 ⟨rfl,hb2⟩
    have HB2:Hid (Below wb.heap.size wb w2):=HB1.out.trans (hb2.mono HB1.out.size)
    clear hb2
    obtain ⟨_,⟨r0,r1,r2,r3,r4,r5,r6⟩,⟨z0,z1,z2,z3,z4,z5,z6⟩,N0,N1⟩:=HBOX.out w2 HB2.out
    go_wp2_with fail
    obtain ⟨wF,hwF⟩:∃ wF,wF=(((((((w2.setCell ⟨w.heap.size+1,0,none⟩ (.int .i64 9)).setCell ⟨w.heap.size+1,1,none⟩ (.int .i64 0)).setCell ⟨w.heap.size+1,2,none⟩ (.slice none 0 0)).setCell ⟨w.heap.size+1,3,none⟩ (.slice none 0 0)).setCell ⟨w.heap.size+1,4,none⟩ (.slice none 0 0)).setCell ⟨w.heap.size+1,5,none⟩ (.slice none 0 0)).setCell ⟨w.heap.size+1,6,none⟩ (.slice none 0 0)):=⟨_,rfl⟩
    have tF:Touch (fun k=>k=w.heap.size+1) w2 wF:=by
     rw [hwF]
     exact Touch.put (Touch.put (Touch.put (Touch.put (Touch.put (Touch.put (Touch.put (Touch.none _) _ _ (by rfl)) _ _ (by rfl)) _ _ (by rfl)) _ _ (by rfl)) _ _ (by rfl)) _ _ (by rfl)) _ _ (by rfl)
    have bF:Below w.heap.size w wF:=Touch.below (HB0.out.trans (HB2.out.mono (by have:=HZB.out; omega))) tF (by omega) (fun k hk=>by omega)
    obtain ⟨y0,y1,y2,y3,y4,y5,y6⟩:=put7c hwF r0 r1 r2 r3 r4 r5 r6
    rw [<- hwF]
    refine bodyPost_ret (v:=.agg #[.int .i64 9,.int .i64 0,.slice none 0 0,.slice none 0 0,.slice none 0 0,.slice none 0 0,.slice none 0 0]) (by simp [results,Tryz.results22,go_sem,y0,y1,y2,y3,y4,y5,y6]) rfl ⟨zS,none,0,?_,?_,?_,?_,?_,bF⟩
    ·rw [HBD.out]; rfl
    ·rw [HBD.out]; exact zM_row _ _
    ·rw [HBD.out]; exact ERow.nilz _ _ _
    ·rw [HBD.out]; exact zM_apart
    ·intro k hk; cases hk
   ·have HRE:Hid (R=endX M ops evs):=HGOOD.out (by rw [execOk_eq,hv,hvs,decide_eq_true (p:=ops.length<=20000) (by omega)]; rfl)
    rw [hvs] at HVS
    have hel2:evs.length<=10000:=by
     simp only [Bool.and_eq_true,decide_eq_true_eq] at hvs
     exact hvs.1
    have hev:∀ i,i < evs.length->evOk (eAt eEvent evs i)=true:=by
     simp only [Bool.and_eq_true,decide_eq_true_eq] at hvs
     have:=hvs.2
     unfold evsOk at this
     rw [List.all_eq_true] at this
     exact fun i hi=>this i (List.mem_range.2 hi)
    have hvm0:VM M:=VM.of hk hv
    have hok:=hvm0.wok
    have hxo:XOk ops (begX M):=⟨hvm0,by simp [begX],by simp [begX]⟩
    have HOP:Hid (∀ wX,Below wb.heap.size wb wX->Calls Tryz.prog 51 #[.agg #[.slice s.a1 M.mem.length s.c1,.slice s.a2 M.pend.length s.c2,.slice s.a3 M.tlb.length s.c3,.slice s.a4 M.wc.length s.c4]] wX fun r w'=>∃ gu u,r=.returned (.pointer (some ⟨gu,0,none⟩))/\wX.heap.size<=gu/\UM w' gu wX.heap.size wX.heap.size true u M/\UThree u/\Below wX.heap.size wX w'):=fun wX hX=>open_all s M b wX hok (fun i hi=>valid_pend hv i hi) (HM.out wX hX)
    have HOR:Hid (∀ wX,Below wb.heap.size wb wX->ERow eOp wX bo (.slice oa ops.length oc) ops/\ERow eEvent wX be (.slice ea evs.length ec) evs):=fun wX hX=>⟨hops.below (HB0.out.trans (hX.mono (by have:=HZB.out; omega))),hevs.below (HB0.out.trans (hX.mono (by have:=HZB.out; omega)))⟩
    have HOL:Hid ((∀ k,oOf oa=some k->k < w.heap.size)/\∀ k,oOf ea=some k->k < w.heap.size):=⟨fun k hk=>(hops.ownA k hk).2,fun k hk=>(hevs.ownA k hk).2⟩
    have HPL:Hid (∀ (gx gu b0:Nat) (v:XV) (wX:World),Below wb.heap.size wb wX->b0<=wX.heap.size->(∀ k,v.all gx gu k->wb.heap.size<=k)->XM wX gx gu b0 oa oc ops v (begX M)->Calls Tryz.prog 78 #[.pointer (some ⟨gx,0,none⟩),.slice ea evs.length ec] wX fun r w'=>r=.returned (.tuple #[])/\∃ v',XStep wX w' gx gu b0 oa oc ops v v' (playX ops evs evs.length (begX M))):=fun gx gu b0 v wX hX hB hall hXM=>xPlay_any gx gu b0 bo oa oc ops v (begX M) ea ec be evs wX ho (by omega) hxo (HOR.out wX hX).1 (fun k hk hh=>by have:=hall k hh; have:=HOL.out.1 k hk; have:=HZB.out; omega) hB hXM rfl rfl hel2 hev (HOR.out wX hX).2 (fun k hk hh=>by have:=hall k hh; have:=HOL.out.2 k hk; have:=HZB.out; omega)
    have HFI:Hid (∀ (gx gu b0:Nat) (v:XV) (wX:World),Below wb.heap.size wb wX->b0<=wX.heap.size->(∀ k,v.all gx gu k->wb.heap.size<=k)->XM wX gx gu b0 oa oc ops v (playX ops evs evs.length (begX M))->Calls Tryz.prog 79 #[.pointer (some ⟨gx,0,none⟩)] wX fun r w'=>r=.returned (.tuple #[])/\∃ v',XStep wX w' gx gu b0 oa oc ops v v' R):=fun gx gu b0 v wX hX hB hall hXM=>by
     rw [HRE.out]
     exact xFinish_any gx gu b0 bo oa oc ops v _ wX ho (by omega) (playX_ok ho hev hxo _ (Nat.le_refl _)) (HOR.out wX hX).1 (fun k hk hh=>by have:=hall k hh; have:=HOL.out.1 k hk; have:=HZB.out; omega) hB hXM
    have hRsm:R.M.Small:=by
     rw [HRE.out]
     exact (restX_ok ho (playX_ok ho hev hxo _ (Nat.le_refl _)) _).vm.small
    clear hv hm hops hevs hl1 hvs hev hvm0 hok hxo hk ho
    go_enter Tryz.func22,Tryz.ntmps22
    go_wp2_with fail
    refine hvm.mono ?_
    rintro e w1 ⟨rfl,hb1'⟩
    have hb1:Below wb.heap.size wb w1:=by rw [HWB.out]; exact hb1'
    have HB1:Hid (Below wb.heap.size wb w1):=hb1
    clear hb1' hb1 hvm
    go_wp2_with fail
    refine (HVS.out w1 HB1.out).mono ?_
    rintro e w1b ⟨rfl,hb1b⟩
    have HB1b:Hid (Below wb.heap.size wb w1b):=HB1.out.trans (hb1b.mono HB1.out.size)
    obtain ⟨⟨p0,p1,p2,p3⟩,_,_,N0,N1⟩:=HBOX.out w1b HB1b.out
    clear hb1b
    go_wp2_with fail
    refine (HOP.out w1b HB1b.out).mono ?_
    rintro e w2 ⟨gu,u,rfl,hgu,hum,hth,hb2⟩
    have s12:=hb2.size
    have b2:Below wb.heap.size wb w2:=HB1b.out.trans (hb2.mono HB1b.out.size)
    obtain ⟨wX,hwX⟩:∃ wX,wX=w2.alloc (.cells #[.pointer (some ⟨gu,0,none⟩),.slice oa ops.length oc,.int .i64 0,.int .i64 0,.slice none 0 0] 127):=⟨_,rfl⟩
    have bX2:Below w2.heap.size w2 wX:=by rw [hwX]; exact bal
    have bX:Below wb.heap.size wb wX:=b2.trans (bX2.mono b2.size)
    have hzX:wX.heap.size=w2.heap.size+1:=by rw [hwX]; simp
    have hgul:=hum.lt
    have hxm:XM wX w2.heap.size gu w1b.heap.size oa oc ops ⟨u,none,0⟩ (begX M):=by
     refine ⟨by omega,?_,?_,?_,?_,?_,?_,?_,?_,hum.below bX2,hth,ERow.nilz _ _ _,fun hh=>?_,(by intro h; cases h),(by intro k h; cases h)⟩
     iterate 5 (rw [hwX]; simp [go_sem,begX])
     iterate 3 (rw [hwX]; simp [go_sem])
     have:=hum.all_lt _ hh
     omega
    have s1b:=HB1b.out.size
    have hall:∀ k,(⟨u,none,0⟩:XV).all w2.heap.size gu k->wb.heap.size<=k:=fun k hk=>by
     rcases hk with hk | hk | hk
     ·omega
     ·rcases hk with hk | hk | hk | hk | hk | hk
      ·omega
      ·have:=(hum.w.ownA k hk).1; omega
      ·have:=((hum.l rfl).2.ownA k hk).1; omega
      ·have:=(hum.p.ownA k hk).1; omega
      ·have:=(hum.t.ownA k hk).1; omega
      ·have:=(hum.c.ownA k hk).1; omega
     ·cases hk
    have hpl:=HPL.out w2.heap.size gu w1b.heap.size ⟨u,none,0⟩ wX bX (by omega) hall hxm
    have HBX:Hid (Below wb.heap.size wb wX):=bX
    have HAL:Hid (∀ k,(⟨u,none,0⟩:XV).all w2.heap.size gu k->wb.heap.size<=k):=hall
    have HWX:Hid (wX=w2.alloc (.cells #[.pointer (some ⟨gu,0,none⟩),.slice oa ops.length oc,.int .i64 0,.int .i64 0,.slice none 0 0] 127)):=hwX
    have HS1:Hid (w1b.heap.size<=wX.heap.size/\wb.heap.size<=w1b.heap.size):=⟨by omega,s1b⟩
    clear hum hth hb2 b2 hwX bX2 bX hzX hxm hall hgu s12 hgul p0 p1 p2 p3 s1b
    go_wp2_with fail
    rw [<- HWX.out]
    refine hpl.mono ?_
    rintro e w3 ⟨rfl,v3,hst3⟩
    have hu3:=hst3.under HBX.out (HBX.out.size) HAL.out
    have hfi:=HFI.out w2.heap.size gu w1b.heap.size v3 w3 hu3.1 (by have:=HS1.out; have:=hst3.tch.size; omega) hu3.2 hst3.xm
    have HU3:Hid (Below wb.heap.size wb w3/\(∀ k,v3.all w2.heap.size gu k->wb.heap.size<=k)):=hu3
    have HS3:Hid (w1b.heap.size<=w3.heap.size):=hidOf <| by have:=HS1.out; have:=hst3.tch.size; omega
    clear hst3 hu3 hpl
    go_wp2_with fail
    refine hfi.mono ?_
    rintro e w4 ⟨rfl,v4,hst4⟩
    have hu4:=hst4.under HU3.out.1 HU3.out.1.size HU3.out.2
    have hX4:=hst4.xm
    have q0:=hX4.q0
    have q2:=hX4.q2
    have q3:=hX4.q3
    have q4:=hX4.q4
    have hl4:=hX4.lt
    have HX4:Hid (XM w4 w2.heap.size gu w1b.heap.size oa oc ops v4 R):=hX4
    have HU4:Hid (Below wb.heap.size wb w4):=hu4.1
    have HCL:Hid (∀ wX,Below w4.heap.size w4 wX->Calls Tryz.prog 53 #[.pointer (some ⟨gu,0,none⟩)] wX fun r w'=>∃ a3 c3 a4 c4,r=.returned (.agg #[.slice v4.u.a1 R.M.mem.length v4.u.c1,.slice v4.u.a3 R.M.pend.length v4.u.c3,.slice a3 R.M.tlb.length c3,.slice a4 R.M.wc.length c4])/\ERow eTlb w' wX.heap.size (.slice a3 R.M.tlb.length c3) R.M.tlb/\ERow eWc w' wX.heap.size (.slice a4 R.M.wc.length c4) R.M.wc/\(∀ k,oOf a3=some k->oOf a4 ≠ some k)/\Below wX.heap.size wX w'):=fun wX hX=>close_any gu w1b.heap.size w1b.heap.size true v4.u R.M wX hRsm (hX4.um.below hX)
    have HS4:Hid (w1b.heap.size<=w4.heap.size):=hidOf <| by have:=HS3.out; have:=hst4.tch.size; omega
    clear hst4 hu4 hX4 hfi
    go_wp2_with fail
    have HK:Hid (∀ wX,Below w4.heap.size w4 wX->wX.cell? ⟨w2.heap.size,0,none⟩=some (.pointer (some ⟨gu,0,none⟩))/\wX.cell? ⟨w2.heap.size,2,none⟩=some (.int .i64 (R.at':Int))/\wX.cell? ⟨w2.heap.size,3,none⟩=some (.int .i64 R.code)/\wX.cell? ⟨w2.heap.size,4,none⟩=some (.slice v4.sa R.seen.length v4.sc)):=fun wX hX=>⟨(hX.cell hl4).trans q0,(hX.cell hl4).trans q2,(hX.cell hl4).trans q3,(hX.cell hl4).trans q4⟩
    refine wp_region_held_drew (S:=fun wX=>wX.cell? ⟨w2.heap.size,0,none⟩=some (.pointer (some ⟨gu,0,none⟩))/\wX.cell? ⟨w2.heap.size,2,none⟩=some (.int .i64 (R.at':Int))/\wX.cell? ⟨w2.heap.size,3,none⟩=some (.int .i64 R.code)/\wX.cell? ⟨w2.heap.size,4,none⟩=some (.slice v4.sa R.seen.length v4.sc)) (by kernel_rfl) (HK.out _ (br.drew)) (fun hHeld=>?_)
    refine tk 0 ?_
    refine tk 1 ?_
    refine tk 2 ?_
    refine tk 3 ?_
    refine tk 4 ?_
    refine tk 5 ?_
    refine tk 6 ?_
    refine tk 7 ?_
    refine tk 8 ?_
    refine tk 9 ?_
    refine tk 10 ?_
    refine tk 11 ?_
    refine tk 13 ?_
    refine tk 14 ?_
    refine tk 15 ?_
    refine tk 16 ?_
    refine wpAnyH_ready (rs:=[12]) (by kernel_rfl) (by simp) ?_
    refine AllReadyH.cons rfl (fun K hK=>?_) AllReadyH.nil
    go_simp
    refine (HCL.out _ (br.drew)).mono ?_
    rintro e w5 ⟨a3,c3,a4,c4,rfl,ht5,hc5,hap5,hb5⟩
    have b45:Below w4.heap.size w4 w5:=(br.drew).trans hb5
    have b5:Below wb.heap.size wb w5:=HU4.out.trans (b45.mono HU4.out.size)
    have hKw:=HK.out w5 b45
    have hs45:=b45.size
    obtain ⟨_,⟨o0,o1,o2,o3,o4,o5,o6⟩,⟨y0,y1,y2,y3,y4,y5,y6⟩,N0,N1⟩:=HBOX.out w5 b5
    have HB5:Hid (Below wb.heap.size wb w5):=b5
    have HB45:Hid (Below w4.heap.size w4 w5):=b45
    have HT5:Hid (ERow eTlb w5 w4.heap.size (.slice a3 R.M.tlb.length c3) R.M.tlb/\ERow eWc w5 w4.heap.size (.slice a4 R.M.wc.length c4) R.M.wc/\(∀ k,oOf a3=some k->oOf a4 ≠ some k)):=⟨ht5,hc5,hap5⟩
    have hwne:w2.heap.size ≠ w.heap.size+1:=by have:=HU4.out.size; have:=HX4.out.um.lt; have:=HS1.out; have:=HZB.out; have:=HAL.out w2.heap.size (.inl rfl); omega
    clear ht5 hc5 hap5 hb5 b45 b5
    go_wp2_with fail
    refine hK.out _ _ hKw (fun hHeld=>?_)
    clear hK K
    refine tk 17 ?_
    refine wpAnyH_ready (rs:=[18]) (by kernel_rfl) (by simp) ?_
    refine AllReadyH.cons rfl (fun K hK=>?_) AllReadyH.nil
    go_simp
    obtain ⟨wF,hwF⟩:∃ wF,wF=(((((((w5.setCell ⟨w.heap.size+1,0,none⟩ (.int .i64 R.code)).setCell ⟨w.heap.size+1,1,none⟩ (.int .i64 (R.at':Int))).setCell ⟨w.heap.size+1,2,none⟩ (.slice v4.u.a1 R.M.mem.length v4.u.c1)).setCell ⟨w.heap.size+1,3,none⟩ (.slice v4.u.a3 R.M.pend.length v4.u.c3)).setCell ⟨w.heap.size+1,4,none⟩ (.slice a3 R.M.tlb.length c3)).setCell ⟨w.heap.size+1,5,none⟩ (.slice a4 R.M.wc.length c4)).setCell ⟨w.heap.size+1,6,none⟩ (.slice v4.sa R.seen.length v4.sc)):=⟨_,rfl⟩
    have tF:Touch (fun k=>k=w.heap.size+1) w5 wF:=by
     rw [hwF]
     exact Touch.put (Touch.put (Touch.put (Touch.put (Touch.put (Touch.put (Touch.put (Touch.none _) _ _ (by rfl)) _ _ (by rfl)) _ _ (by rfl)) _ _ (by rfl)) _ _ (by rfl)) _ _ (by rfl)) _ _ (by rfl)
    have hKF:wF.cell? ⟨w2.heap.size,0,none⟩=some (.pointer (some ⟨gu,0,none⟩))/\wF.cell? ⟨w2.heap.size,2,none⟩=some (.int .i64 (R.at':Int))/\wF.cell? ⟨w2.heap.size,3,none⟩=some (.int .i64 R.code)/\wF.cell? ⟨w2.heap.size,4,none⟩=some (.slice v4.sa R.seen.length v4.sc):=by
     have hk:=tF.block w2.heap.size (by omega) hwne
     exact ⟨(cob hk).trans hKw.1,(cob hk).trans hKw.2.1,(cob hk).trans hKw.2.2.1,(cob hk).trans hKw.2.2.2⟩
    obtain ⟨g0,g1,g2,g3,g4,g5,g6⟩:=put7c hwF o0 o1 o2 o3 o4 o5 o6
    rw [<- hwF]
    have HFIN:Hid (MRow wF w.heap.size ((⟨v4.u.a1,v4.u.c1,v4.u.a3,v4.u.c3,a3,c3,a4,c4⟩:SV).mv R.M) R.M/\ERow eSeen wF w.heap.size (.slice v4.sa R.seen.length v4.sc) R.seen/\((⟨v4.u.a1,v4.u.c1,v4.u.a3,v4.u.c3,a3,c3,a4,c4⟩:SV).mv R.M).apart/\(∀ k,oOf v4.sa=some k->¬ ((⟨v4.u.a1,v4.u.c1,v4.u.a3,v4.u.c3,a3,c3,a4,c4⟩:SV).mv R.M).owns k)/\Below w.heap.size w wF):=hidOf <| by
     have hb:=HB45.out
     have hx:=HX4.out
     have hS:=HS1.out
     have hZ:=HZB.out
     have hrow:MRow w5 w1b.heap.size ((⟨v4.u.a1,v4.u.c1,v4.u.a3,v4.u.c3,a3,c3,a4,c4⟩:SV).mv R.M) R.M:=⟨hx.um.w.below hb,hx.um.p.below hb,HT5.out.1.rebase (by have:=HS4.out; omega),HT5.out.2.1.rebase (by have:=HS4.out; omega)⟩
     have hsr:=hx.s.below hb
     refine ⟨MRow.rebase (base:=w1b.heap.size) (hrow.touch tF (fun k hk hh=>?_)) (by omega),ERow.rebase (base:=w1b.heap.size) (hsr.touchA tF (fun k hk hh=>?_)) (by omega),?_,?_,Touch.below (HB0.out.trans (HB5.out.mono (by omega))) tF (by omega) (fun k hk=>by omega)⟩
     ·have:=(hrow.own k hk).1
      omega
     ·have:=(hsr.ownA k hk).1
      omega
     ·intro k
      have o1:=fun h=>(hx.um.w.ownA k h).2
      have o3:=fun h=>(hx.um.p.ownA k h).2
      have ot:=fun h=>(HT5.out.1.ownA k h).1
      have oc:=fun h=>(HT5.out.2.1.ownA k h).1
      simp only [SV.mv,own_slice]
      refine ⟨fun h=>⟨hx.th.a13 k h,fun h'=>?_,fun h'=>?_⟩,fun h=>⟨fun h'=>?_,fun h'=>?_⟩,fun h h'=>HT5.out.2.2 k h h'⟩
      ·have:=o1 h; have:=ot h'; omega
      ·have:=o1 h; have:=oc h'; omega
      ·have:=o3 h; have:=ot h'; omega
      ·have:=o3 h; have:=oc h'; omega
     ·intro k hk hh
      have hlt:=(hx.s.ownA k hk).2
      simp only [MV.owns,SV.mv,own_slice] at hh
      rcases hh with h | h | h | h
      ·exact hx.nu k hk (.inr (.inl h))
      ·exact hx.nu k hk (.inr (.inr (.inr (.inl h))))
      ·have:=(HT5.out.1.ownA k h).1; omega
      ·have:=(HT5.out.2.1.ownA k h).1; omega
    clear hwF tF
    refine hK.out _ _ hKF (fun hHeld=>?_)
    clear hK K
    refine wpAnyH_done (by kernel_rfl) ?_ _
    go_wp2_with fail
    exact bodyPost_ret (v:=.agg #[.int .i64 R.code,.int .i64 (R.at':Int),.slice v4.u.a1 R.M.mem.length v4.u.c1,.slice v4.u.a3 R.M.pend.length v4.u.c3,.slice a3 R.M.tlb.length c3,.slice a4 R.M.wc.length c4,.slice v4.sa R.seen.length v4.sc]) (by simp [results,Tryz.results22,go_sem,g0,g1,g2,g3,g4,g5,g6]) rfl ⟨(⟨v4.u.a1,v4.u.c1,v4.u.a3,v4.u.c3,a3,c3,a4,c4⟩:SV),v4.sa,v4.sc,rfl,HFIN.out⟩
theorem opAt_ok {ops:List OpE} (h:∀ i,i < ops.length->OpOk (eAt eOp ops i)) (i:Nat):OpOk (opAt ops i):=by
 by_cases hi:i < ops.length
 ·exact h i hi
 ·have e:opAt ops i=⟨0,0,0,0⟩:=by
   unfold opAt eAt
   rw [List.getD_eq_getElem?_getD,List.getElem?_eq_none (by omega)]
   rfl
  rw [e]
  exact ⟨⟨by decide,by decide⟩,⟨by decide,by decide⟩,⟨by decide,by decide⟩,⟨by decide,by decide⟩⟩
theorem execR_small {M:Mach} (hk:MOk M) {ops:List OpE} (ho:∀ i,OpOk (opAt ops i)) (evs:List EventE):(execR M ops evs).M.Small/\(execR M ops evs).seen.length<=1048576:=by
 unfold execR
 cases hx:execOk M ops evs
 ·exact ⟨zM_small,by simp⟩
 ·unfold execOk at hx
  simp only [Bool.and_eq_true,decide_eq_true_eq,List.all_eq_true] at hx
  obtain ⟨⟨⟨hv,h1⟩,h2⟩,h3⟩:=hx
  have he:∀ i,i < evs.length->evOk (eAt eEvent evs i)=true:=fun i hi=>h3 i (List.mem_range.2 hi)
  have hb:XOk ops (begX M):=⟨VM.of hk hv,by simp [begX],by simp [begX]⟩
  refine ⟨(restX_ok ho (playX_ok ho he hb _ (Nat.le_refl _)) _).vm.small,?_⟩
  show (endX M ops evs).seen.length<=1048576
  unfold endX
  rw [restX_seen]
  have:=playX_seen ops evs (begX M) evs.length
  simp [begX] at this ⊢
  omega
theorem exec_law (s:SV) (M:Mach) (oa ea:Option Addr) (oc ec:Nat) (ops:List OpE) (evs:List EventE) (w:World) (hk:MOk M) (ho:∀ i,OpOk (opAt ops i)) (h5:ops.length<=9223372036854775807) (h6:evs.length<=9223372036854775807) (hsrc:MSrc w (s.mv M) M) (hvo:ESrc eOp w (.slice oa ops.length oc) ops) (hve:ESrc eEvent w (.slice ea evs.length ec) evs) :
  Calls Tryz.prog 5 #[.agg #[.slice s.a1 M.mem.length s.c1,.slice s.a2 M.pend.length s.c2,.slice s.a3 M.tlb.length s.c3,.slice s.a4 M.wc.length s.c4],.slice oa ops.length oc,.slice ea evs.length ec] w fun e w'=>e=.returned (.bool true)/\Below w.heap.size w w':=by
 by_cases hb:M.mem.length+M.pend.length+M.tlb.length+M.wc.length+ops.length+evs.length<=1048576
 ·have hs:M.Small:=⟨by omega,by omega,by omega,by omega⟩
  have hr:=execR_small hk ho evs
  exact fnexactexec_walk s M (execR M ops evs) oa ea oc ec ops evs w hs hr.1 hr.2 hb hsrc hvo hve
   (fun s b bo be oa ea oc ec w h1 h2 h3=>specExec_gen s M b bo be oa ea oc ec ops evs w _ rfl hk hs (by omega) (by omega) ho h1 h2 h3)
   (fun s b bo be oa ea oc ec w h1 h2 h3=>implExec_gen s M b bo be oa ea oc ec ops evs w _ rfl hk hs (by omega) (by omega) ho h1 h2 h3)
 ·exact fnexactexec_big s M oa ea oc ec ops evs w hk.w hk.p hk.t hk.c h5 h6 hb
theorem exec_own:ownKnob Tryz.prog.godebug=none:=by kernel_rfl
set_option maxRecDepth 100000 in
theorem exec_lifted (os:Os) (started:os.Started) (H:Type) (enc:TypeId × Value->H) :
  ReturnsInHanded {} Tryz.checked os 5 .any (Rows.fnExactExecSpec.pre6 enc Tryz.prog Tryz.f5 Rows.fnExactExecRow.domain false) (Rows.fnExactExecSpec.post enc Tryz.prog Tryz.f5 false true false false):=by
 refine returnsInHanded_of_change (C:=Tryz.checked) exec_own started (by kernel_rfl) Tryz.func5
  (ChangeSpec.witness6 (enc:=enc) (C:=Tryz.checked) false ⟨#[],#[.agg #[.slice none 0 0,.slice none 0 0,.slice none 0 0,.slice none 0 0],.slice none 0 0,.slice none 0 0],[]⟩ 8 (by kernel_rfl) (by kernel_rfl) (by kernel_rfl) (by kernel_rfl)) ?_
 intro W base args ds gs before hval0 hW hcnd _
 have hval:∀ (j:Nat) t v,Tryz.f5.params[j]?=some t->args[j]?=some v->Value.okWide Tryz.prog W .any base t v:=hval0
 have hW':=hW
 obtain ⟨p,q,hA0,hV,rfl,hfz,hnd⟩:=hW
 have hA:DataW.TrodAll enc Tryz.prog W 0 (fun _=>true) true Tryz.f5.params.toList args.toList ds p:=hA0
 rw [Tryz.params5] at hA hval
 obtain ⟨v0,vs0,d0,ds0,p0,q0,hargs,rfl,rfl,h0,r0⟩:=trodAll_cons hA
 obtain ⟨v1,vs1,d1,ds1,p1,q1,rfl,rfl,rfl,h1,r1⟩:=trodAll_cons r0
 obtain ⟨v2,vs2,d2,ds2,p2,q2,rfl,rfl,rfl,h2,r2⟩:=trodAll_cons r1
 obtain ⟨rfl,rfl,rfl⟩:=trodAll_nil r2
 obtain rfl:args=#[v0,v1,v2]:=by cases args; simp_all
 obtain ⟨rfl,rfl⟩:=trodVars_none hV
 have k0:=h0
 have lt0:∀ x ∈ p0,x.block < W.heap.size:=by obtain ⟨m,hm⟩:=k0; exact DataW.trod_lt m _ _ _ hm
 have k1:=h1
 have lt1:∀ x ∈ p1,x.block < W.heap.size:=by obtain ⟨m,hm⟩:=k1; exact DataW.trod_lt m _ _ _ hm
 have k2:=h2
 have lt2:∀ x ∈ p2,x.block < W.heap.size:=by obtain ⟨m,hm⟩:=k2; exact DataW.trod_lt m _ _ _ hm
 obtain ⟨a1,l1,c1,rfl⟩:=okWide_slice Tryz.underlying54 (hval 1 54 v1 rfl rfl)
 obtain ⟨m1,hm1⟩:=h1
 have hn1:DataW.trod enc Tryz.prog W 0 (fun _=>true) true m1 54 [.slice a1 l1 c1]=some (d1,p1):=hm1
 obtain ⟨ops,hsrc1,hle1,hq1⟩:=esrc_open eOp OpOk Tryz.underlying54 cellsOpL elOp hn1
 obtain ⟨a1',cap1,hsl1,hrest1⟩:=hsrc1
 simp only [Value.slice.injEq] at hsl1
 obtain ⟨rfl,rfl,rfl⟩:=hsl1
 obtain ⟨a2,l2,c2,rfl⟩:=okWide_slice Tryz.underlying55 (hval 2 55 v2 rfl rfl)
 obtain ⟨m2,hm2⟩:=h2
 have hn2:DataW.trod enc Tryz.prog W 0 (fun _=>true) true m2 55 [.slice a2 l2 c2]=some (d2,p2):=hm2
 obtain ⟨evs,hsrc2,hle2,hq2⟩:=esrc_open eEvent EvRng Tryz.underlying55 cellsEventL elEvent hn2
 obtain ⟨a2',cap2,hsl2,hrest2⟩:=hsrc2
 simp only [Value.slice.injEq] at hsl2
 obtain ⟨rfl,rfl,rfl⟩:=hsl2
 obtain ⟨s,M,rfl,hok,hsrc⟩:=mach_open (hval 0 29 v0 rfl rfl) h0
 clear hA0 hval0
 refine (exec_law s M _ _ _ _ ops evs W hok (opAt_ok hq1) hle1 hle2 hsrc ⟨_,_,rfl,hrest1⟩ ⟨_,_,rfl,hrest2⟩).mono fun e W' ⟨he,bel⟩=>?_
 subst he
 exact ⟨_,rfl,_,_,_,[],_,[],hW',trodAll_mk1 (shut_bool Tryz.underlying4 _),(trodAll_cons_mk (Below.trod mach_laidOut (by kernel_rfl) (of_decide_eq_true (by kernel_rfl)) k0 bel lt0) (trodAll_cons_mk (Below.trod mach_laidOut (by kernel_rfl) (of_decide_eq_true (by kernel_rfl)) k1 bel lt1) (trodAll_cons_mk (Below.trod mach_laidOut (by kernel_rfl) (of_decide_eq_true (by kernel_rfl)) k2 bel lt2) trodAll_mk0))),rfl,bel.frame _,fun h=>by cases h⟩
theorem exec_proved:Rows.FnExactExecSaid :=
 OpenClaim.holds_of_wide 5 Tryz.f5 rfl rfl rfl rfl rfl rfl rfl ⟨rfl,rfl,rfl,rfl,rfl⟩ rfl rfl rfl rfl rfl (by kernel_rfl) Tryz.func5 (by kernel_rfl)
  (of_decide_eq_true (by kernel_rfl)) (by unfold Func.isWrapper; first | (rw [if_pos (by decide +kernel)]; kernel_rfl) | (rw [if_neg (by decide +kernel)]; exact ⟨rfl,rfl⟩))
  (fun os started H enc _=>exec_lifted os started H enc)
#print axioms exec_proved
end Go.Proofs.YtiiejckfcnmhoabGreat
