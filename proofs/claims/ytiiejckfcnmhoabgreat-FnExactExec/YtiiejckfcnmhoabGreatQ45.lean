import Derived.Test.YtiiejckfcnmhoabGreatQ44
import Derived.Test.YtiiejckfcnmhoabGreatQ28
import Derived.Test.YtiiejckfcnmhoabGreatQ05
import Derived.Test.YtiiejckfcnmhoabGreatQ42
import Derived.Test.YtiiejckfcnmhoabGreatQ43
import Derived.Test.YtiiejckfcnmhoabGreatQ32
import Derived.Test.YtiiejckfcnmhoabGreatQ31
import Derived.Deep.RegionHeld3
import Derived.Deep.DeepCutAuto
namespace Go.Proofs.YtiiejckfcnmhoabGreat
open Go.ChangeShapes Go.WideShapes Go.ChangeAt Go.RowKit
set_option linter.unusedVariables false
attribute [local go_sem ↓] Go.wp_at_zero Go.wp_at_succ
set_option maxRecDepth 100000 in
set_option maxHeartbeats 8000000 in
theorem specExec_gen (s:SV) (M:Mach) (b bo be:Nat) (oa ea:Option Addr) (oc ec:Nat) (ops:List OpE) (evs:List EventE) (w:World) (R:XS) (hR:R=execR M ops evs) (hk:MOk M) (hs:M.Small) (hol:ops.length<=1048576) (hel:evs.length<=1048576) (ho:∀ i,OpOk (opAt ops i)) (hm:MRow w b (s.mv M) M) (hops:ERow eOp w bo (.slice oa ops.length oc) ops) (hevs:ERow eEvent w be (.slice ea evs.length ec) evs) :
  Calls Tryz.prog 19 #[.agg #[.slice s.a1 M.mem.length s.c1,.slice s.a2 M.pend.length s.c2,.slice s.a3 M.tlb.length s.c3,.slice s.a4 M.wc.length s.c4],.slice oa ops.length oc,.slice ea evs.length ec] w fun e w'=>∃ (s':SV) (sa:Option Addr) (sc:Nat),e=.returned (.agg #[.int .i64 R.code,.int .i64 (R.at':Int),.slice s'.a1 R.M.mem.length s'.c1,.slice s'.a2 R.M.pend.length s'.c2,.slice s'.a3 R.M.tlb.length s'.c3,.slice s'.a4 R.M.wc.length s'.c4,.slice sa R.seen.length sc])/\MRow w' w.heap.size (s'.mv R.M) R.M/\ERow eSeen w' w.heap.size (.slice sa R.seen.length sc) R.seen/\Below w.heap.size w w':=by
 obtain ⟨iV,hiV,hzV0,hzV1,hzV2⟩:=info_parts infoEvent
 obtain ⟨iS,hiS,hzS0,hzS1,hzS2⟩:=info_parts infoSeen
 obtain ⟨wb,hwb⟩:∃ wb,wb=((w.alloc (.cells #[.slice s.a1 M.mem.length s.c1,.slice s.a2 M.pend.length s.c2,.slice s.a3 M.tlb.length s.c3,.slice s.a4 M.wc.length s.c4] 36)).alloc (.cells #[.int .i64 0,.int .i64 0,.slice none 0 0,.slice none 0 0,.slice none 0 0,.slice none 0 0,.slice none 0 0] 60)).alloc (.cells #[.int .i64 9,.int .i64 0,.slice none 0 0,.slice none 0 0,.slice none 0 0,.slice none 0 0,.slice none 0 0] 60):=⟨_,rfl⟩
 have hbb:Below w.heap.size w wb:=by rw [hwb]; exact (bal.alloc (by simp) _).alloc (by simp; omega) _
 have hzb:wb.heap.size=w.heap.size+3:=by rw [hwb]; simp
 have HBOX:Hid (∀ wX,Below wb.heap.size wb wX->(wX.cell? ⟨w.heap.size,0,none⟩=some (.slice s.a1 M.mem.length s.c1)/\wX.cell? ⟨w.heap.size,1,none⟩=some (.slice s.a2 M.pend.length s.c2)/\wX.cell? ⟨w.heap.size,2,none⟩=some (.slice s.a3 M.tlb.length s.c3)/\wX.cell? ⟨w.heap.size,3,none⟩=some (.slice s.a4 M.wc.length s.c4))/\(wX.cell? ⟨w.heap.size+1,0,none⟩=some (.int .i64 0)/\wX.cell? ⟨w.heap.size+1,1,none⟩=some (.int .i64 0)/\wX.cell? ⟨w.heap.size+1,2,none⟩=some (.slice none 0 0)/\wX.cell? ⟨w.heap.size+1,3,none⟩=some (.slice none 0 0)/\wX.cell? ⟨w.heap.size+1,4,none⟩=some (.slice none 0 0)/\wX.cell? ⟨w.heap.size+1,5,none⟩=some (.slice none 0 0)/\wX.cell? ⟨w.heap.size+1,6,none⟩=some (.slice none 0 0))/\(wX.frozen? ⟨w.heap.size+1,0,none⟩=false/\wX.frozen? ⟨w.heap.size+1,1,none⟩=false/\wX.frozen? ⟨w.heap.size+1,2,none⟩=false/\wX.frozen? ⟨w.heap.size+1,3,none⟩=false/\wX.frozen? ⟨w.heap.size+1,4,none⟩=false/\wX.frozen? ⟨w.heap.size+1,5,none⟩=false/\wX.frozen? ⟨w.heap.size+1,6,none⟩=false)/\(wX.cell? ⟨w.heap.size+2,0,none⟩=some (.int .i64 9)/\wX.cell? ⟨w.heap.size+2,1,none⟩=some (.int .i64 0)/\wX.cell? ⟨w.heap.size+2,2,none⟩=some (.slice none 0 0)/\wX.cell? ⟨w.heap.size+2,3,none⟩=some (.slice none 0 0)/\wX.cell? ⟨w.heap.size+2,4,none⟩=some (.slice none 0 0)/\wX.cell? ⟨w.heap.size+2,5,none⟩=some (.slice none 0 0)/\wX.cell? ⟨w.heap.size+2,6,none⟩=some (.slice none 0 0))/\w.heap.size < wX.heap.size/\w.heap.size+1 < wX.heap.size/\w.heap.size+2 < wX.heap.size):=fun wX hX=>by
  have hsz:=hX.size
  refine ⟨⟨?_,?_,?_,?_⟩,⟨?_,?_,?_,?_,?_,?_,?_⟩,⟨?_,?_,?_,?_,?_,?_,?_⟩,⟨?_,?_,?_,?_,?_,?_,?_⟩,by omega,by omega,by omega⟩
  iterate 11 (exact (hX.cell (by simp; omega)).trans (by rw [hwb]; simp [go_sem]))
  iterate 7 (exact (hX.frozen (by simp; omega)).trans (by rw [hwb]; simp [go_sem]))
  iterate 7 (exact (hX.cell (by simp; omega)).trans (by rw [hwb]; simp [go_sem]))
 have hvm:=specValid_any s M b wb hs (hm.below hbb)
 rw [hwb] at hvm
 have HM:Hid (∀ wX,Below wb.heap.size wb wX->MRow wX b (s.mv M) M):=fun wX hX=>hm.below (hbb.trans (hX.mono (by omega)))
 have HCP:Hid (∀ wX,Below wb.heap.size wb wX->Calls Tryz.prog 40 #[.agg #[.slice s.a1 M.mem.length s.c1,.slice s.a2 M.pend.length s.c2,.slice s.a3 M.tlb.length s.c3,.slice s.a4 M.wc.length s.c4]] wX fun e w'=>∃ s':SV,e=.returned (.agg #[.slice s'.a1 M.mem.length s'.c1,.slice s'.a2 M.pend.length s'.c2,.slice s'.a3 M.tlb.length s'.c3,.slice s'.a4 M.wc.length s'.c4])/\MRow w' wX.heap.size (s'.mv M) M/\(s'.mv M).apart/\Below wX.heap.size wX w'):=fun wX hX=>copyM_any s M b wX hs (HM.out wX hX)
 have HB0:Hid (Below w.heap.size w wb):=hbb
 have HZB:Hid (wb.heap.size=w.heap.size+3):=hzb
 have HWB:Hid (wb=_):=hwb
 have HRR:Hid (R=execR M ops evs):=hR
 have HBAD:Hid (execOk M ops evs=false->R=⟨zM,0,9,[]⟩):=fun hx=>by rw [hR]; unfold execR; rw [hx]; rfl
 clear hwb hbb hzb hR
 cases hv:validB M
 ·have HBD:Hid (R=⟨zM,0,9,[]⟩):=HBAD.out (by unfold execOk; rw [hv]; rfl)
  rw [hv] at hvm
  clear hv hm hops hevs
  go_enter Tryz.func19,Tryz.ntmps19
  go_wp2_with fail
  refine hvm.mono ?_
  rintro e w1 ⟨rfl,hb1'⟩
  have hb1:Below wb.heap.size wb w1:=by rw [HWB.out]; exact hb1'
  have HB1:Hid (Below wb.heap.size wb w1):=hb1
  clear hb1' hb1 hvm
  obtain ⟨_,⟨r0,r1,r2,r3,r4,r5,r6⟩,⟨z0,z1,z2,z3,z4,z5,z6⟩,⟨x0,x1,x2,x3,x4,x5,x6⟩,N0,N1,N2⟩:=HBOX.out w1 HB1.out
  go_wp2_with fail
  obtain ⟨wF,hwF⟩:∃ wF,wF=(((((((w1.setCell ⟨w.heap.size+1,0,none⟩ (.int .i64 9)).setCell ⟨w.heap.size+1,1,none⟩ (.int .i64 0)).setCell ⟨w.heap.size+1,2,none⟩ (.slice none 0 0)).setCell ⟨w.heap.size+1,3,none⟩ (.slice none 0 0)).setCell ⟨w.heap.size+1,4,none⟩ (.slice none 0 0)).setCell ⟨w.heap.size+1,5,none⟩ (.slice none 0 0)).setCell ⟨w.heap.size+1,6,none⟩ (.slice none 0 0)):=⟨_,rfl⟩
  have tF:Touch (fun k=>k=w.heap.size+1) w1 wF:=by
   rw [hwF]
   exact Touch.put (Touch.put (Touch.put (Touch.put (Touch.put (Touch.put (Touch.put (Touch.none _) _ _ (by rfl)) _ _ (by rfl)) _ _ (by rfl)) _ _ (by rfl)) _ _ (by rfl)) _ _ (by rfl)) _ _ (by rfl)
  have bF:Below w.heap.size w wF:=Touch.below (HB0.out.trans (HB1.out.mono (by have:=HZB.out; omega))) tF (by omega) (fun k hk=>by omega)
  obtain ⟨y0,y1,y2,y3,y4,y5,y6⟩:=put7c hwF r0 r1 r2 r3 r4 r5 r6
  rw [<- hwF]
  refine bodyPost_ret (v:=.agg #[.int .i64 9,.int .i64 0,.slice none 0 0,.slice none 0 0,.slice none 0 0,.slice none 0 0,.slice none 0 0]) (by simp [results,Tryz.results19,go_sem,y0,y1,y2,y3,y4,y5,y6]) rfl ⟨zS,none,0,?_,?_,?_,bF⟩
  ·rw [HBD.out]; rfl
  ·rw [HBD.out]; exact zM_row _ _
  ·rw [HBD.out]; exact ERow.nilz _ _ _
 ·rw [hv] at hvm
  by_cases hl1:20000 < ops.length
  ·have HBD:Hid (R=⟨zM,0,9,[]⟩):=HBAD.out (by unfold execOk; rw [decide_eq_false (by omega)]; simp)
   have d1:decide ((20000:Int) < (ops.length:Int))=true:=by simp; omega
   clear hv hm hops hevs hl1
   go_enter Tryz.func19,Tryz.ntmps19
   go_wp2_with fail
   refine hvm.mono ?_
   rintro e w1 ⟨rfl,hb1'⟩
   have hb1:Below wb.heap.size wb w1:=by rw [HWB.out]; exact hb1'
   have HB1:Hid (Below wb.heap.size wb w1):=hb1
   clear hb1' hb1 hvm
   obtain ⟨_,⟨r0,r1,r2,r3,r4,r5,r6⟩,⟨z0,z1,z2,z3,z4,z5,z6⟩,⟨x0,x1,x2,x3,x4,x5,x6⟩,N0,N1,N2⟩:=HBOX.out w1 HB1.out
   go_wp2_with fail
   obtain ⟨wF,hwF⟩:∃ wF,wF=(((((((w1.setCell ⟨w.heap.size+1,0,none⟩ (.int .i64 9)).setCell ⟨w.heap.size+1,1,none⟩ (.int .i64 0)).setCell ⟨w.heap.size+1,2,none⟩ (.slice none 0 0)).setCell ⟨w.heap.size+1,3,none⟩ (.slice none 0 0)).setCell ⟨w.heap.size+1,4,none⟩ (.slice none 0 0)).setCell ⟨w.heap.size+1,5,none⟩ (.slice none 0 0)).setCell ⟨w.heap.size+1,6,none⟩ (.slice none 0 0)):=⟨_,rfl⟩
   have tF:Touch (fun k=>k=w.heap.size+1) w1 wF:=by
    rw [hwF]
    exact Touch.put (Touch.put (Touch.put (Touch.put (Touch.put (Touch.put (Touch.put (Touch.none _) _ _ (by rfl)) _ _ (by rfl)) _ _ (by rfl)) _ _ (by rfl)) _ _ (by rfl)) _ _ (by rfl)) _ _ (by rfl)
   have bF:Below w.heap.size w wF:=Touch.below (HB0.out.trans (HB1.out.mono (by have:=HZB.out; omega))) tF (by omega) (fun k hk=>by omega)
   obtain ⟨y0,y1,y2,y3,y4,y5,y6⟩:=put7c hwF r0 r1 r2 r3 r4 r5 r6
   rw [<- hwF]
   refine bodyPost_ret (v:=.agg #[.int .i64 9,.int .i64 0,.slice none 0 0,.slice none 0 0,.slice none 0 0,.slice none 0 0,.slice none 0 0]) (by simp [results,Tryz.results19,go_sem,y0,y1,y2,y3,y4,y5,y6]) rfl ⟨zS,none,0,?_,?_,?_,bF⟩
   ·rw [HBD.out]; rfl
   ·rw [HBD.out]; exact zM_row _ _
   ·rw [HBD.out]; exact ERow.nilz _ _ _
  ·have d1:decide ((20000:Int) < (ops.length:Int))=false:=by simp; omega
   by_cases hl2:10000 < evs.length
   ·have HBD:Hid (R=⟨zM,0,9,[]⟩):=HBAD.out (by
     unfold execOk
     rw [decide_eq_false (p:=evs.length<=10000) (by omega)]; simp)
    have d2:decide ((10000:Int) < (evs.length:Int))=true:=by simp; omega
    clear hv hm hops hevs hl1 hl2
    go_enter Tryz.func19,Tryz.ntmps19
    go_wp2_with fail
    refine hvm.mono ?_
    rintro e w1 ⟨rfl,hb1'⟩
    have hb1:Below wb.heap.size wb w1:=by rw [HWB.out]; exact hb1'
    have HB1:Hid (Below wb.heap.size wb w1):=hb1
    clear hb1' hb1 hvm
    obtain ⟨_,⟨r0,r1,r2,r3,r4,r5,r6⟩,⟨z0,z1,z2,z3,z4,z5,z6⟩,⟨x0,x1,x2,x3,x4,x5,x6⟩,N0,N1,N2⟩:=HBOX.out w1 HB1.out
    go_wp2_with fail
    obtain ⟨wF,hwF⟩:∃ wF,wF=(((((((w1.setCell ⟨w.heap.size+1,0,none⟩ (.int .i64 9)).setCell ⟨w.heap.size+1,1,none⟩ (.int .i64 0)).setCell ⟨w.heap.size+1,2,none⟩ (.slice none 0 0)).setCell ⟨w.heap.size+1,3,none⟩ (.slice none 0 0)).setCell ⟨w.heap.size+1,4,none⟩ (.slice none 0 0)).setCell ⟨w.heap.size+1,5,none⟩ (.slice none 0 0)).setCell ⟨w.heap.size+1,6,none⟩ (.slice none 0 0)):=⟨_,rfl⟩
    have tF:Touch (fun k=>k=w.heap.size+1) w1 wF:=by
     rw [hwF]
     exact Touch.put (Touch.put (Touch.put (Touch.put (Touch.put (Touch.put (Touch.put (Touch.none _) _ _ (by rfl)) _ _ (by rfl)) _ _ (by rfl)) _ _ (by rfl)) _ _ (by rfl)) _ _ (by rfl)) _ _ (by rfl)
    have bF:Below w.heap.size w wF:=Touch.below (HB0.out.trans (HB1.out.mono (by have:=HZB.out; omega))) tF (by omega) (fun k hk=>by omega)
    obtain ⟨y0,y1,y2,y3,y4,y5,y6⟩:=put7c hwF r0 r1 r2 r3 r4 r5 r6
    rw [<- hwF]
    refine bodyPost_ret (v:=.agg #[.int .i64 9,.int .i64 0,.slice none 0 0,.slice none 0 0,.slice none 0 0,.slice none 0 0,.slice none 0 0]) (by simp [results,Tryz.results19,go_sem,y0,y1,y2,y3,y4,y5,y6]) rfl ⟨zS,none,0,?_,?_,?_,bF⟩
    ·rw [HBD.out]; rfl
    ·rw [HBD.out]; exact zM_row _ _
    ·rw [HBD.out]; exact ERow.nilz _ _ _
   ·have d2:decide ((10000:Int) < (evs.length:Int))=false:=by simp; omega
    have HV0:Hid (VM M):=VM.of hk hv
    obtain ⟨go,hgo1,hgo2⟩:=ops_cells hops
    obtain ⟨ge0,hge1,hge2⟩:=evs_cells hevs
    have HGE:Hid (∀ k K P N C,k < evs.length->eAt eEvent evs k=⟨K,P,N,C⟩->∀ wX:World,wX.heap[ge0]?=w.heap[ge0]?->wX.cell? ⟨ge0,k * 4,none⟩=some (.int .i64 K)/\wX.cell? ⟨ge0,k * 4+1,none⟩=some (.int .i64 P)/\wX.cell? ⟨ge0,k * 4+2,none⟩=some (.int .i64 N)/\wX.cell? ⟨ge0,k * 4+3,none⟩=some (.int .i64 C)):=hge2
    have HGE1:Hid (0 < evs.length->ea=some ⟨ge0,0,none⟩/\ge0 < w.heap.size):=hge1
    have HGO:Hid (∀ k K A B W,k < ops.length->opAt ops k=⟨K,A,B,W⟩->∀ wX:World,wX.heap[go]?=w.heap[go]?->wX.cell? ⟨go,k * 4,none⟩=some (.int .i64 K)/\wX.cell? ⟨go,k * 4+1,none⟩=some (.int .i64 A)/\wX.cell? ⟨go,k * 4+2,none⟩=some (.int .i64 B)/\wX.cell? ⟨go,k * 4+3,none⟩=some (.int .u64 W)):=hgo2
    have HGO1:Hid (0 < ops.length->oa=some ⟨go,0,none⟩/\go < w.heap.size):=hgo1
    have HVB:Hid (validB M=true):=hv
    have HO:Hid (∀ i,OpOk (opAt ops i)):=ho
    clear hv hm hops hevs hge1 hge2 hgo1 hgo2 ho hk
    go_enter Tryz.func19,Tryz.ntmps19
    go_wp2_with fail
    refine hvm.mono ?_
    rintro e w1 ⟨rfl,hb1'⟩
    have hb1:Below wb.heap.size wb w1:=by rw [HWB.out]; exact hb1'
    have HB1:Hid (Below wb.heap.size wb w1):=hb1
    clear hb1' hb1 hvm
    go_wp2_with fail
    obtain ⟨wE,hwE⟩:∃ wE,wE=w1.alloc (.cells #[] 120):=⟨_,rfl⟩
    have bE:Below wb.heap.size wb wE:=by rw [hwE]; exact HB1.out.alloc HB1.out.size _
    have rE:ERow eEvent wE wb.heap.size (.slice (some ⟨w1.heap.size,0,none⟩) 0 0) []:=by rw [hwE]; exact ERow.empty eEvent w1 wb.heap.size HB1.out.size
    have HBE:Hid (Below wb.heap.size wb wE):=bE
    have HRE:Hid (ERow eEvent wE wb.heap.size (.slice (some ⟨w1.heap.size,0,none⟩) 0 0) []):=rE
    rw [<- hwE]
    clear hwE bE rE
    go_loopw [8,9] (fun vv iv wr=>∃ t gv cv:Nat,t<=evs.length/\iv=.int .i64 t/\vv=.slice (some ⟨gv,0,none⟩) (scr evs t).length cv/\ERow eEvent wr wb.heap.size (.slice (some ⟨gv,0,none⟩) (scr evs t).length cv) (scr evs t)/\(∀ j,j < t->evOk (eAt eEvent evs j)=true)/\Below wb.heap.size wb wr) (fun _ iv _=>evs.length - (intOf iv).toNat)
    case atStart=>exact ⟨0,w1.heap.size,0,Nat.zero_le _,rfl,rfl,HRE.out,fun j hj=>absurd hj (by omega),HBE.out⟩
    case round =>
     obtain ⟨t,gv,cv,ht,rfl,rfl,hrow,hall,hbw⟩:=hrel
     have hTL:(scr evs t).length=t:=scr_length ht
     have hszb:=hbw.size
     have HBW:Hid (Below wb.heap.size wb wr):=hbw
     have HALL:Hid (∀ j,j < t->evOk (eAt eEvent evs j)=true):=hall
     by_cases hlt:t < evs.length
     ·obtain ⟨rfl,hgl⟩:=HGE1.out (by omega)
      obtain ⟨EE,hEE⟩:∃ EE,eAt eEvent evs t=EE:=⟨_,rfl⟩
      obtain ⟨K,P,N,C⟩:=EE
      have hgw:wr.heap[ge0]?=w.heap[ge0]?:=(hbw.block ge0 (by have:=HZB.out; omega)).trans (HB0.out.block ge0 hgl)
      obtain ⟨c0,c1,c2,c3⟩:=HGE.out t K P N C hlt hEE wr hgw
      have hgr:ge0 < wr.heap.size:=by have:=HZB.out; omega
      have L1:(0:Int)<=(t:Int):=by omega
      have L2:(t:Int) < (evs.length:Int):=by omega
      have hve:=l3EventOk_any K P N C
      have HKT:Hid (scr evs (t+1)=scr evs t ++ [⟨K,P,N,C⟩]):=hidOf <| by
       rw [scr_succ hlt,hEE]
      have HTL:Hid ((scr evs t).length=t):=hTL
      have HROW:Hid (ERow eEvent wr wb.heap.size (.slice (some ⟨gv,0,none⟩) (scr evs t).length cv) (scr evs t)):=hrow
      cases hev:evOk ⟨K,P,N,C⟩
      ·have HBD:Hid (R=⟨zM,0,9,[]⟩):=HBAD.out (by
        have:(List.range evs.length).all (fun i=>evOk (eAt eEvent evs i))=false:=by
         rw [List.all_eq_false]
         exact ⟨t,List.mem_range.2 hlt,by rw [hEE,hev]; decide⟩
        unfold execOk
        rw [this]; simp)
       rw [hev] at hve
       clear hEE hev hrow hall hbw hgw hTL
       go_wp2_with fail
       refine (hve _).mono ?_
       rintro e w2 ⟨rfl,hb2⟩
       have HB2:Hid (Below wb.heap.size wb w2):=HBW.out.trans (hb2.mono HBW.out.size)
       clear hb2 c0 c1 c2 c3
       obtain ⟨_,⟨r0,r1,r2,r3,r4,r5,r6⟩,⟨z0,z1,z2,z3,z4,z5,z6⟩,⟨x0,x1,x2,x3,x4,x5,x6⟩,N0,N1,N2⟩:=HBOX.out w2 HB2.out
       go_wp2_with fail
       obtain ⟨wF,hwF⟩:∃ wF,wF=(((((((w2.setCell ⟨w.heap.size+1,0,none⟩ (.int .i64 9)).setCell ⟨w.heap.size+1,1,none⟩ (.int .i64 0)).setCell ⟨w.heap.size+1,2,none⟩ (.slice none 0 0)).setCell ⟨w.heap.size+1,3,none⟩ (.slice none 0 0)).setCell ⟨w.heap.size+1,4,none⟩ (.slice none 0 0)).setCell ⟨w.heap.size+1,5,none⟩ (.slice none 0 0)).setCell ⟨w.heap.size+1,6,none⟩ (.slice none 0 0)):=⟨_,rfl⟩
       have tF:Touch (fun k=>k=w.heap.size+1) w2 wF:=by
        rw [hwF]
        exact Touch.put (Touch.put (Touch.put (Touch.put (Touch.put (Touch.put (Touch.put (Touch.none _) _ _ (by rfl)) _ _ (by rfl)) _ _ (by rfl)) _ _ (by rfl)) _ _ (by rfl)) _ _ (by rfl)) _ _ (by rfl)
       have bF:Below w.heap.size w wF:=Touch.below (HB0.out.trans (HB2.out.mono (by have:=HZB.out; omega))) tF (by omega) (fun k hk=>by omega)
       obtain ⟨y0,y1,y2,y3,y4,y5,y6⟩:=put7c hwF r0 r1 r2 r3 r4 r5 r6
       rw [<- hwF]
       refine bodyPost_ret (v:=.agg #[.int .i64 9,.int .i64 0,.slice none 0 0,.slice none 0 0,.slice none 0 0,.slice none 0 0,.slice none 0 0]) (by simp [results,Tryz.results19,go_sem,y0,y1,y2,y3,y4,y5,y6]) rfl ⟨zS,none,0,?_,?_,?_,bF⟩
       ·rw [HBD.out]; rfl
       ·rw [HBD.out]; exact zM_row _ _
       ·rw [HBD.out]; exact ERow.nilz _ _ _
      ·rw [hev] at hve
       have HALL2:Hid (∀ j,j < t+1->evOk (eAt eEvent evs j)=true):=fun j hj=>by
        by_cases hjt:j=t
        ·rw [hjt,hEE,hev]
        ·exact hall j (by omega)
       clear hEE hev hall hTL
       go_wp2_with fail
       refine (hve _).mono ?_
       rintro e w2 ⟨rfl,hb2⟩
       have b2:Below wb.heap.size wb w2:=hbw.trans (hb2.mono hbw.size)
       have HB2:Hid (Below wb.heap.size wb w2):=b2
       have HOWN:Hid (w2.ownsRow wb.heap.size 120 4 (.slice (some ⟨gv,0,none⟩) (scr evs t).length cv) (scr evs t).length (ecells eEvent (scr evs t))):=hrow.below hb2
       obtain ⟨c0,c1,c2,c3⟩:w2.cell? ⟨ge0,t * 4,none⟩=some (.int .i64 K)/\w2.cell? ⟨ge0,t * 4+1,none⟩=some (.int .i64 P)/\w2.cell? ⟨ge0,t * 4+2,none⟩=some (.int .i64 N)/\w2.cell? ⟨ge0,t * 4+3,none⟩=some (.int .i64 C):=⟨(hb2.cell hgr).trans c0,(hb2.cell hgr).trans c1,(hb2.cell hgr).trans c2,(hb2.cell hgr).trans c3⟩
       have hgr2:ge0 < w2.heap.size:=Nat.lt_of_lt_of_le hgr hb2.size
       have hwz:wb.heap.size<=w2.heap.size:=b2.size
       have hTB:(scr evs t).length<=10000:=by rw [scr_length ht]; omega
       clear hb2 b2 hbw hrow hgw
       go_wp2_with (at_builtin; refine wpList_append_lies _ rfl (.tmp 49) (.tmp 54) 64 rfl wb.heap.size 120 iV _ 4 32 Tryz.underlying64 hiV hzV0 hzV1 hzV2 rfl (by omega) _ _ _ rfl (World.ownsRow.alloc HOWN.out _) ⟨w2.heap.size,0,none⟩ 1 1 [.int .i64 K,.int .i64 P,.int .i64 N,.int .i64 C] rfl rfl ?c1 ?c2 (by omega) ?c3 ?c4 ?c5 (w2.heap.size+1) ?c6 ?_)
       case c1=>exact World.news_of_block (heap_alloc_new w2 (.cells #[.int .i64 K,.int .i64 P,.int .i64 N,.int .i64 C] 120))
       case c2=>intro u hu; simp at hu; rcases hu with rfl | rfl | rfl | rfl <;> rfl
       case c3=>unfold maxLen; omega
       case c4=>omega
       case c5=>simp; omega
       case c6=>simp
       intro g1 cap1 wn hown hgrow hat hlt3
       rw [own_slice] at hgrow hat
       have hnew:ERow eEvent wn wb.heap.size (.slice (some ⟨g1,0,none⟩) ((scr evs t).length+1) cap1) (scr evs t ++ [⟨K,P,N,C⟩]):=ERow.snocL (m:=(scr evs t).length+1) rfl hown
       have bn:Below wb.heap.size wb wn:=by
        have hA:Below wb.heap.size wb (w2.alloc (.cells #[.int .i64 K,.int .i64 P,.int .i64 N,.int .i64 C] 120)):=HB2.out.alloc HB2.out.size _
        refine Touch.below hA (Touch.of_grown (S:=fun k=>wb.heap.size<=k) hgrow (fun k hk=>?_)) hA.size (fun k hk=>hk)
        have hgk:gv=k:=by simpa [oOf,Value.ownBlock] using hk
        have:=(HOWN.out.lt gv rfl).1
        omega
       have HNEW:Hid (ERow eEvent wn wb.heap.size (.slice (some ⟨g1,0,none⟩) ((scr evs t).length+1) cap1) (scr evs t ++ [⟨K,P,N,C⟩])):=hnew
       have HBN:Hid (Below wb.heap.size wb wn):=bn
       clear hown hgrow hat hnew bn c0 c1 c2 c3
       go_wp2_with fail
       go_roundw
       case rel =>
        refine ⟨t+1,g1,cap1,by omega,by go_num,?_,?_,HALL2.out,HBN.out⟩
        ·rw [HKT.out,List.length_append]; rfl
        ·rw [HKT.out,List.length_append]; exact HNEW.out
       case measure=>simp [intOf]; omega
     ·obtain rfl:t=evs.length:=by omega
      have LF:¬ (evs.length:Int) < (evs.length:Int):=by omega
      have hTA:scr evs evs.length=evs:=scr_all evs
      have HOK:Hid (R=endX M ops evs/\∀ i,i < evs.length->evOk (eAt eEvent evs i)=true):=⟨by
       rw [HRR.out]
       unfold execR
       rw [if_pos]
       unfold execOk
       rw [HVB.out,decide_eq_true (p:=ops.length<=20000) (by omega),decide_eq_true (p:=evs.length<=10000) (by omega)]
       simp only [Bool.true_and]
       rw [List.all_eq_true]
       exact fun j hj=>hall j (List.mem_range.1 hj),hall⟩
      have HR0:Hid (ERow eEvent wr wb.heap.size (.slice (some ⟨gv,0,none⟩) (longE evs 0).length cv) (longE evs 0)):=hidOf <| by
       rw [hTA] at hrow
       have e:longE evs 0=evs:=by simp [longE]
       rw [e]
       exact hrow
      have HLN:Hid ((scr evs evs.length).length=(longE evs 0).length):=hidOf <| by rw [hTA]; simp [longE]
      obtain ⟨w2,e0⟩:∃ x,x=wr:=⟨_,rfl⟩
      subst e0
      obtain ⟨g2,e0⟩:∃ x,x=gv:=⟨_,rfl⟩
      subst e0
      obtain ⟨c2,e0⟩:∃ x,x=cv:=⟨_,rfl⟩
      subst e0
      clear hrow hall hbw hTL hTA hlt ht
      go_wp2_with fail
      go_loopw [8,10] (fun vv iv wr=>∃ t gv cv:Nat,t<=ops.length/\iv=.int .i64 t/\vv=.slice (some ⟨gv,0,none⟩) (longE evs t).length cv/\ERow eEvent wr wb.heap.size (.slice (some ⟨gv,0,none⟩) (longE evs t).length cv) (longE evs t)/\Below wb.heap.size wb wr) (fun _ iv _=>ops.length - (intOf iv).toNat)
      case atStart=>exact ⟨0,g2,c2,Nat.zero_le _,rfl,by rw [HLN.out],HR0.out,HBW.out⟩
      case round =>
       obtain ⟨t,gv,cv,ht,rfl,rfl,hrow,hbw⟩:=hrel
       have hTL:=longE_length evs t
       have HBW3:Hid (Below wb.heap.size wb wr):=hbw
       have hwz:wb.heap.size<=wr.heap.size:=hbw.size
       by_cases hlt:t < ops.length
       ·have HKT:Hid (longE evs (t+1)=longE evs t ++ [⟨0,0,0,0⟩]):=longE_succ evs t
        have hTB:(longE evs t).length<=30000:=by omega
        have L1:(0:Int)<=(t:Int):=by omega
        have L2:(t:Int) < (ops.length:Int):=by omega
        have HOWN:Hid (wr.ownsRow wb.heap.size 120 4 (.slice (some ⟨gv,0,none⟩) (longE evs t).length cv) (longE evs t).length (ecells eEvent (longE evs t))):=hrow
        clear hrow hbw hTL
        go_wp2_with (at_builtin; refine wpList_append_lies _ rfl (.tmp 62) (.tmp 64) 64 rfl wb.heap.size 120 iV _ 4 32 Tryz.underlying64 hiV hzV0 hzV1 hzV2 rfl (by omega) _ _ _ rfl (World.ownsRow.alloc HOWN.out _) ⟨wr.heap.size,0,none⟩ 1 1 [.int .i64 0,.int .i64 0,.int .i64 0,.int .i64 0] rfl rfl ?c1 ?c2 (by omega) ?c3 ?c4 ?c5 (wr.heap.size+1) ?c6 ?_)
        case c1=>exact World.news_of_block (heap_alloc_new wr (.cells #[.int .i64 0,.int .i64 0,.int .i64 0,.int .i64 0] 120))
        case c2=>intro u hu; simp at hu; rcases hu with rfl | rfl | rfl | rfl <;> rfl
        case c3=>unfold maxLen; omega
        case c4=>omega
        case c5=>simp; omega
        case c6=>simp
        intro g1 cap1 wn hown hgrow hat hlt3
        rw [own_slice] at hgrow hat
        have hnew:ERow eEvent wn wb.heap.size (.slice (some ⟨g1,0,none⟩) ((longE evs t).length+1) cap1) (longE evs t ++ [⟨0,0,0,0⟩]):=ERow.snocL (m:=(longE evs t).length+1) rfl hown
        have bn:Below wb.heap.size wb wn:=by
         have hA:Below wb.heap.size wb (wr.alloc (.cells #[.int .i64 0,.int .i64 0,.int .i64 0,.int .i64 0] 120)):=HBW3.out.alloc HBW3.out.size _
         refine Touch.below hA (Touch.of_grown (S:=fun k=>wb.heap.size<=k) hgrow (fun k hk=>?_)) hA.size (fun k hk=>hk)
         have hgk:gv=k:=by simpa [oOf,Value.ownBlock] using hk
         have:=(HOWN.out.lt gv rfl).1
         omega
        have HNEW:Hid (ERow eEvent wn wb.heap.size (.slice (some ⟨g1,0,none⟩) ((longE evs t).length+1) cap1) (longE evs t ++ [⟨0,0,0,0⟩])):=hnew
        have HBN:Hid (Below wb.heap.size wb wn):=bn
        clear hown hgrow hat hnew bn
        go_wp2_with fail
        go_roundw
        case rel =>
         refine ⟨t+1,g1,cap1,by omega,by go_num,?_,?_,HBN.out⟩
         ·rw [HKT.out,List.length_append]; rfl
         ·rw [HKT.out,List.length_append]; exact HNEW.out
        case measure=>simp [intOf]; omega
       ·obtain rfl:t=ops.length:=by omega
        have LF2:¬ (ops.length:Int) < (ops.length:Int):=by omega
        have HREV:Hid (ERow eEvent wr wb.heap.size (.slice (some ⟨gv,0,none⟩) (longE evs ops.length).length cv) (longE evs ops.length)):=hrow
        obtain ⟨w3,e0⟩:∃ x,x=wr:=⟨_,rfl⟩
        subst e0
        obtain ⟨ge,e0⟩:∃ x,x=gv:=⟨_,rfl⟩
        subst e0
        obtain ⟨ce,e0⟩:∃ x,x=cv:=⟨_,rfl⟩
        subst e0
        have HB3:Hid (Below wb.heap.size wb w3):=HBW3
        obtain ⟨⟨p0,p1,p2,p3⟩,_,_,_,N0,N1,N2⟩:=HBOX.out w3 HB3.out
        clear hrow hbw hTL hlt ht
        go_wp2_with fail
        refine (HCP.out w3 HB3.out).mono ?_
        rintro e w4 ⟨s1,rfl,hr4,hap4,hb4⟩
        obtain ⟨wM,hwM⟩:∃ wM,wM=w4.alloc (.cells #[.slice s1.a1 M.mem.length s1.c1,.slice s1.a2 M.pend.length s1.c2,.slice s1.a3 M.tlb.length s1.c3,.slice s1.a4 M.wc.length s1.c4] 36):=⟨_,rfl⟩
        obtain ⟨wL,hwL⟩:∃ wL,wL=wM.alloc (.cells #[] 38):=⟨_,rfl⟩
        obtain ⟨gs,hgs⟩:∃ gs,gs=wM.heap.size:=⟨_,rfl⟩
        have hzM:wM.heap.size=w4.heap.size+1:=by rw [hwM]; simp
        have hzL:wL.heap.size=wM.heap.size+1:=by rw [hwL]; simp
        have s34:=hb4.size
        have b4M:Below w4.heap.size w4 wM:=by rw [hwM]; exact bal
        have bML:Below wM.heap.size wM wL:=by rw [hwL]; exact bal
        have b4L:Below w4.heap.size w4 wL:=b4M.trans (bML.mono (by omega))
        have b3L:Below w3.heap.size w3 wL:=hb4.trans (b4L.mono hb4.size)
        have bL:Below wb.heap.size wb wL:=HB3.out.trans (b3L.mono HB3.out.size)
        have hLR:LR wL wL wb.heap.size w4.heap.size gs s1 gs 0 (begX M):=by
         refine ⟨⟨?_,?_,?_,?_⟩,⟨?_,?_,?_,?_⟩,(hr4.below b4L).rebase HB3.out.size,?_,fun k hk=>?_,by omega,.inl rfl,Touch.none _⟩
         iterate 4 (exact (bML.cell (by simp; omega)).trans (by rw [hwM]; simp [go_sem,begX]))
         iterate 4 (exact (bML.frozen (by simp; omega)).trans (by rw [hwM]; simp [go_sem]))
         ·rw [hwL,hgs]; exact ERow.empty eSeen wM wb.heap.size (by omega)
         ·have:=(hr4.own k hk).2
          omega
        have HLR0:Hid (LR wL wL wb.heap.size w4.heap.size gs s1 gs 0 (begX M)):=hLR
        have HBL:Hid (Below wb.heap.size wb wL):=bL
        have hevL:ERow eEvent wL wb.heap.size (.slice (some ⟨ge,0,none⟩) (longE evs ops.length).length ce) (longE evs ops.length):=HREV.out.below b3L
        have hgel:ge < w3.heap.size:=(HREV.out.own ge rfl).2
        obtain ⟨gx',hx1,hx2⟩:=evs_cells hevL
        have HEV:Hid (0 < (longE evs ops.length).length->∀ k K P N C,k < (longE evs ops.length).length->eAt eEvent (longE evs ops.length) k=⟨K,P,N,C⟩->∀ wX:World,wX.heap[ge]?=wL.heap[ge]?->wX.cell? ⟨ge,k * 4,none⟩=some (.int .i64 K)/\wX.cell? ⟨ge,k * 4+1,none⟩=some (.int .i64 P)/\wX.cell? ⟨ge,k * 4+2,none⟩=some (.int .i64 N)/\wX.cell? ⟨ge,k * 4+3,none⟩=some (.int .i64 C)):=fun h0=>by
         have e1:=(hx1 h0).1
         simp only [Option.some.injEq,Addr.mk.injEq,and_true] at e1
         subst e1
         exact hx2
        have HNL:Hid (w3.heap.size<=w4.heap.size/\gs=w4.heap.size+1/\wL.heap.size=w4.heap.size+2/\ge < w3.heap.size/\wb.heap.size<=w3.heap.size):=⟨s34,by omega,by omega,hgel,HB3.out.size⟩
        have HWL:Hid (wL=(w4.alloc (.cells #[.slice s1.a1 M.mem.length s1.c1,.slice s1.a2 M.pend.length s1.c2,.slice s1.a3 M.tlb.length s1.c3,.slice s1.a4 M.wc.length s1.c4] 36)).alloc (.cells #[] 38)):=hidOf <| by rw [hwL,hwM]
        have HGS:Hid (gs=w4.heap.size+1):=HNL.out.2.1
        have hEL:=longE_length evs ops.length
        have HPL:Hid (∀ k,k<=(longE evs ops.length).length->XOk ops (playX ops (longE evs ops.length) k (begX M))/\(playX ops (longE evs ops.length) k (begX M)).seen.length<=k):=fun k hk=>⟨playX_ok HO.out (fun i hi=>longE_ok ops.length HOK.out.2 i (by omega)) ⟨HV0.out,by simp [begX],by simp [begX]⟩ k hk,by have:=playX_seen ops (longE evs ops.length) (begX M) k; simp [begX] at this ⊢; exact this⟩
        have HEND:Hid (playX ops (longE evs ops.length) (longE evs ops.length).length (begX M)=R):=hidOf <| by rw [hEL,play_end]; exact HOK.out.1.symm
        have HEV2:Hid (∀ k,k < (longE evs ops.length).length->evOk (eAt eEvent (longE evs ops.length) k)=true):=fun k hk=>longE_ok ops.length HOK.out.2 k (by omega)
        have hLB:(longE evs ops.length).length<=30000:=by omega
        clear hwM hwL hgs hzM hzL s34 b4M bML b4L b3L bL hLR hevL hgel hx1 hx2 hr4 hap4 hb4 hEL p0 p1 p2 p3 N0 N1 N2
        go_wp2_with fail
        rw [<- HWL.out]
        go_loopw [12,13,14] (fun sv av iv wr=>∃ (k:Nat) (X:XS) (s':SV) (gv cv:Nat),k<=(longE evs ops.length).length/\X=playX ops (longE evs ops.length) k (begX M)/\X.code=0/\iv=.int .i64 k/\av=.int .i64 (X.at':Int)/\sv=.slice (some ⟨gv,0,none⟩) X.seen.length cv/\LR wL wr wb.heap.size w4.heap.size gs s' gv cv X) (fun _ _ iv _=>(longE evs ops.length).length - (intOf iv).toNat)
        case atStart=>exact ⟨0,begX M,s1,gs,0,Nat.zero_le _,rfl,rfl,rfl,rfl,by rw [HGS.out]; rfl,HLR0.out⟩
        case round =>
         obtain ⟨k,X,s',gv,cv,hk,hX,hXc,rfl,rfl,rfl,hL⟩:=hrel
         have hXo:=(HPL.out k hk).1
         have hXs:=(HPL.out k hk).2
         rw [<- hX] at hXo hXs
         have htw:=hL.t
         have hwr:=htw.size
         have bW:Below wb.heap.size wb wr:=Touch.below HBL.out htw HBL.out.size (fun j hj=>by have:=HNL.out; omega)
         have HBW4:Hid (Below wb.heap.size wb wr):=bW
         obtain ⟨q0,q1,q2,q3⟩:=hL.q
         obtain ⟨f0,f1,f2,f3⟩:=hL.f
         have hgn:w4.heap.size < wr.heap.size:=by have:=HNL.out; omega
         have hgvl:gv < wr.heap.size:=(hL.sr.own gv rfl).2
         have HL:Hid (LR wL wr wb.heap.size w4.heap.size gs s' gv cv X):=hL
         have HXO:Hid (XOk ops X):=hXo
         have HX:Hid (X=playX ops (longE evs ops.length) k (begX M)):=hX
         have HXC:Hid (X.code=0):=hXc
         have hZ:w.heap.size+1 < wr.heap.size:=by have:=HZB.out; have:=bW.size; omega
         have hge:ge < wr.heap.size:=by have:=HNL.out; omega
         by_cases hlt:k < (longE evs ops.length).length
         ·obtain ⟨EE,hEE⟩:∃ EE,eAt eEvent (longE evs ops.length) k=EE:=⟨_,rfl⟩
          have hev:=HEV2.out k hlt
          rw [hEE] at hev
          have HNX:Hid (playX ops (longE evs ops.length) (k+1) (begX M)=happenX ops X EE):=hidOf <| by rw [playX_succ,<- hX,if_pos hXc,hEE]
          obtain ⟨K,P,N,C⟩:=EE
          obtain ⟨hP,hC,hK0,hK1,hN4',-⟩:=evOk_page hev
          dsimp only at hP hC hK0 hK1 hN4'
          have HN4:Hid (K=4->needOk N=true):=hN4'
          clear hN4'
          obtain ⟨c0,c1,c2',c3⟩:=HEV.out (by omega) k K P N C hlt hEE wr (htw.block ge (by have:=HNL.out; omega) (by have:=HNL.out; omega))
          have L1:(0:Int)<=(k:Int):=by omega
          have L2:(k:Int) < ((longE evs ops.length).length:Int):=by omega
          have hseen:X.seen.length<=30000:=by omega
          clear hEE hev hL htw hwr bW hXo hX hXc
          rcases (by omega:K=0\/K=1\/K=2\/K=3\/K=4) with rfl | rfl | rfl | rfl | rfl
          ·by_cases hat:X.at' < ops.length
           ·have hdat:decide ((X.at':Int) < (ops.length:Int))=true:=by simp; omega
            obtain ⟨OO,hOO⟩:∃ OO,opAt ops X.at'=OO:=⟨_,rfl⟩
            have hoo:=HO.out X.at'
            rw [hOO] at hoo
            obtain ⟨M2,hM2⟩:∃ M2,M2=(opM X.M OO).1:=⟨_,rfl⟩
            obtain ⟨cd,hcd⟩:∃ cd,cd=(opM X.M OO).2:=⟨_,rfl⟩
            have HH0:Hid (happenX ops X ⟨0,P,N,C⟩=if cd=0 then ⟨M2,X.at'+1,0,X.seen⟩ else ⟨X.M,X.at',cd,X.seen⟩):=hidOf <| by
             unfold happenX nextX
             rw [if_pos rfl,if_pos hat,hOO,<- hM2,<- hcd]
            obtain ⟨OK,OA,OBB,OW⟩:=OO
            obtain ⟨rfl,hgol⟩:=HGO1.out (by omega)
            have HSTP:Hid (∀ wX,MRow wX wb.heap.size (s'.mv X.M) X.M->Calls Tryz.prog 14 #[.agg #[.slice s'.a1 X.M.mem.length s'.c1,.slice s'.a2 X.M.pend.length s'.c2,.slice s'.a3 X.M.tlb.length s'.c3,.slice s'.a4 X.M.wc.length s'.c4],.agg #[.int .i64 OK,.int .i64 OA,.int .i64 OBB,.int .u64 OW]] wX fun e w'=>∃ s2:SV,e=.returned (.tuple #[.agg #[.slice s2.a1 M2.mem.length s2.c1,.slice s2.a2 M2.pend.length s2.c2,.slice s2.a3 M2.tlb.length s2.c3,.slice s2.a4 M2.wc.length s2.c4],.int .i64 cd])/\MRow w' wX.heap.size (s2.mv M2) M2/\Below wX.heap.size wX w'):=fun wX hW=>by
             have:=specStep_any s' X.M wb.heap.size ⟨OK,OA,OBB,OW⟩ wX HXO.out.vm.mok HXO.out.vm.small hoo hW
             rw [step_vm HXO.out.vm,<- hM2,<- hcd] at this
             exact this
            obtain ⟨wA,hwA⟩:∃ wA,wA=wr.alloc (.cells #[.int .i64 0,.int .i64 P,.int .i64 N,.int .i64 C] 120):=⟨_,rfl⟩
            have bA:Below wr.heap.size wr wA:=by rw [hwA]; exact bal
            have hzA:wA.heap.size=wr.heap.size+1:=by rw [hwA]; simp
            have hgow:wr.heap[go]?=w.heap[go]?:=(HBW4.out.block go (by have:=HZB.out; omega)).trans (HB0.out.block go hgol)
            have hgor:go < wr.heap.size:=by have:=HZB.out; have:=HBW4.out.size; omega
            have HKA:Hid (∀ wX,Below wA.heap.size wA wX->(wX.cell? ⟨w4.heap.size,0,none⟩=some (.slice s'.a1 X.M.mem.length s'.c1)/\wX.cell? ⟨w4.heap.size,1,none⟩=some (.slice s'.a2 X.M.pend.length s'.c2)/\wX.cell? ⟨w4.heap.size,2,none⟩=some (.slice s'.a3 X.M.tlb.length s'.c3)/\wX.cell? ⟨w4.heap.size,3,none⟩=some (.slice s'.a4 X.M.wc.length s'.c4))/\(wX.cell? ⟨go,X.at' * 4,none⟩=some (.int .i64 OK)/\wX.cell? ⟨go,X.at' * 4+1,none⟩=some (.int .i64 OA)/\wX.cell? ⟨go,X.at' * 4+2,none⟩=some (.int .i64 OBB)/\wX.cell? ⟨go,X.at' * 4+3,none⟩=some (.int .u64 OW))):=fun wX hX=>by
             have hb:=bA.trans (hX.mono (by omega))
             exact ⟨⟨(hb.cell hgn).trans q0,(hb.cell hgn).trans q1,(hb.cell hgn).trans q2,(hb.cell hgn).trans q3⟩,HGO.out X.at' OK OA OBB OW hat hOO wX ((hb.block go hgor).trans hgow)⟩
            have HLA:Hid (∀ wX,Below wA.heap.size wA wX->LR wL wX wb.heap.size w4.heap.size gs s' gv cv X):=fun wX hX=>HL.out.below (by have:=HNL.out; omega) (bA.trans (hX.mono (by omega)))
            have HEA:Hid (∀ wX,Below wA.heap.size wA wX->wX.cell? ⟨wr.heap.size,0,none⟩=some (.int .i64 0)/\wX.cell? ⟨wr.heap.size,1,none⟩=some (.int .i64 P)/\wX.cell? ⟨wr.heap.size,2,none⟩=some (.int .i64 N)/\wX.cell? ⟨wr.heap.size,3,none⟩=some (.int .i64 C)):=fun wX hX=>by
             refine ⟨?_,?_,?_,?_⟩ <;> exact (hX.cell (by simp; omega)).trans (by rw [hwA]; simp [go_sem])
            have HBA:Hid (Below wr.heap.size wr wA):=bA
            have HZA:Hid (wA.heap.size=wr.heap.size+1):=hzA
            have HWA:Hid (wA=wr.alloc (.cells #[.int .i64 0,.int .i64 P,.int .i64 N,.int .i64 C] 120)):=hwA
            have A1:(0:Int)<=(X.at':Int):=by omega
            have A2:(X.at':Int) < (ops.length:Int):=by omega
            have HNA:Hid (go < wr.heap.size/\w4.heap.size < wr.heap.size):=⟨hgor,hgn⟩
            clear hOO hoo hM2 hcd bA hzA hwA hgow hat
            go_wp2_with fail
            rw [<- HWA.out]
            refine wp_region_held_drew (S:=fun wX=>(wX.cell? ⟨w4.heap.size,0,none⟩=some (.slice s'.a1 X.M.mem.length s'.c1)/\wX.cell? ⟨w4.heap.size,1,none⟩=some (.slice s'.a2 X.M.pend.length s'.c2)/\wX.cell? ⟨w4.heap.size,2,none⟩=some (.slice s'.a3 X.M.tlb.length s'.c3)/\wX.cell? ⟨w4.heap.size,3,none⟩=some (.slice s'.a4 X.M.wc.length s'.c4))/\(wX.cell? ⟨go,X.at' * 4,none⟩=some (.int .i64 OK)/\wX.cell? ⟨go,X.at' * 4+1,none⟩=some (.int .i64 OA)/\wX.cell? ⟨go,X.at' * 4+2,none⟩=some (.int .i64 OBB)/\wX.cell? ⟨go,X.at' * 4+3,none⟩=some (.int .u64 OW))) (by kernel_rfl) (HKA.out _ (br.drew)) (fun hHeld=>?_)
            refine tk 0 ?_
            refine tk 1 ?_
            refine tk 2 ?_
            refine tk 3 ?_
            refine tk 4 ?_
            obtain ⟨wd,hwd⟩:∃ x,x=wA.drew:=⟨_,rfl⟩
            have bAd:Below wA.heap.size wA wd:=by rw [hwd]; exact br.drew
            have hzd:wd.heap.size=wA.heap.size:=by rw [hwd]; rfl
            have HKS:Hid (∀ wX,Below wd.heap.size wd wX->(wX.cell? ⟨w4.heap.size,0,none⟩=some (.slice s'.a1 X.M.mem.length s'.c1)/\wX.cell? ⟨w4.heap.size,1,none⟩=some (.slice s'.a2 X.M.pend.length s'.c2)/\wX.cell? ⟨w4.heap.size,2,none⟩=some (.slice s'.a3 X.M.tlb.length s'.c3)/\wX.cell? ⟨w4.heap.size,3,none⟩=some (.slice s'.a4 X.M.wc.length s'.c4))/\(wX.cell? ⟨go,X.at' * 4,none⟩=some (.int .i64 OK)/\wX.cell? ⟨go,X.at' * 4+1,none⟩=some (.int .i64 OA)/\wX.cell? ⟨go,X.at' * 4+2,none⟩=some (.int .i64 OBB)/\wX.cell? ⟨go,X.at' * 4+3,none⟩=some (.int .u64 OW))):=fun wX hX=>HKA.out wX (bAd.trans (hX.mono (by omega)))
            have HLD:Hid (∀ wX,Below wd.heap.size wd wX->LR wL wX wb.heap.size w4.heap.size gs s' gv cv X):=fun wX hX=>HLA.out wX (bAd.trans (hX.mono (by omega)))
            have HED:Hid (∀ wX,Below wd.heap.size wd wX->wX.cell? ⟨wr.heap.size,0,none⟩=some (.int .i64 0)/\wX.cell? ⟨wr.heap.size,1,none⟩=some (.int .i64 P)/\wX.cell? ⟨wr.heap.size,2,none⟩=some (.int .i64 N)/\wX.cell? ⟨wr.heap.size,3,none⟩=some (.int .i64 C)):=fun wX hX=>HEA.out wX (bAd.trans (hX.mono (by omega)))
            have HZD:Hid (wd.heap.size=wr.heap.size+1):=hidOf <| by show wd.heap.size=wr.heap.size+1; have:=HZA.out; omega
            have HBD':Hid (Below wb.heap.size wb wd):=HBW4.out.trans ((HBA.out.trans (bAd.mono (by have:=HZA.out; omega))).mono HBW4.out.size)
            rw [<- hwd]
            rw [<- hwd] at hHeld
            have bwd:Below wd.heap.size wd wd:=Below.refl _ _
            clear hwd bAd hzd
            apply both3 (F:=fun (w3x:World) (s2:SV) (B:Nat)=>(((w3x.cell? ⟨w4.heap.size,0,none⟩=some (.slice s'.a1 X.M.mem.length s'.c1)/\w3x.cell? ⟨w4.heap.size,1,none⟩=some (.slice s'.a2 X.M.pend.length s'.c2)/\w3x.cell? ⟨w4.heap.size,2,none⟩=some (.slice s'.a3 X.M.tlb.length s'.c3)/\w3x.cell? ⟨w4.heap.size,3,none⟩=some (.slice s'.a4 X.M.wc.length s'.c4))/\(w3x.cell? ⟨go,X.at' * 4,none⟩=some (.int .i64 OK)/\w3x.cell? ⟨go,X.at' * 4+1,none⟩=some (.int .i64 OA)/\w3x.cell? ⟨go,X.at' * 4+2,none⟩=some (.int .i64 OBB)/\w3x.cell? ⟨go,X.at' * 4+3,none⟩=some (.int .u64 OW)))/\MRow w3x wd.heap.size (s2.mv M2) M2/\(∀ k,(s2.mv M2).owns k->¬ k=B)/\wd.heap.size<=B/\ZBx w3x B/\Below wd.heap.size wd w3x))
            ·intro cont
             refine wpAnyH_ready (rs:=[5,9]) (by kernel_rfl) (by simp) ?_
             refine AllReadyH.cons rfl (fun K hK=>?_) (AllReadyH.cons rfl (fun K hK=>?_) AllReadyH.nil)
             ·skip
              go_simp
              refine (HSTP.out _ ((HLD.out wd bwd).m)).mono ?_
              rintro e wq1 ⟨s2,rfl,hres,hb⟩
              have bwq1:Below wd.heap.size wd wq1:=bwd.trans (hb.mono bwd.size)
              have hres0:=hres
              have hres:=hres.rebase bwd.size
              go_wp2_with fail
              refine hK.out _ _ (HKS.out _ bwq1) (fun hHeld=>?_)
              clear hK K hb
              refine tk 6 ?_
              refine tk 7 ?_
              refine tk 8 ?_
              refine wpAnyH_ready (rs:=[9]) (by kernel_rfl) (by simp) ?_
              refine AllReadyH.cons rfl (fun K hK=>?_) AllReadyH.nil
              go_simp
              have hb:Below wq1.heap.size wq1 (wq1.alloc (.cells #[.slice none 0 0,.slice none 0 0,.slice none 0 0,.slice none 0 0] 36)):=bal
              refine hK.out _ _ (HKS.out _ (bwq1.trans (hb.mono bwq1.size))) (fun hHeld=>?_)
              clear hK K
              obtain ⟨wq2,hwq2⟩:∃ x,x=wq1.alloc (.cells #[.slice none 0 0,.slice none 0 0,.slice none 0 0,.slice none 0 0] 36):=⟨_,rfl⟩
              obtain ⟨B,hB⟩:∃ x,x=wq1.heap.size:=⟨_,rfl⟩
              have hz:ZBx wq2 B:=by rw [hwq2,hB]; exact ZBx.alloc wq1
              rw [<- hwq2] at hb hHeld
              simp only [<- hwq2,<- hB]
              have bwq2:Below wd.heap.size wd wq2:=bwq1.trans (hb.mono bwq1.size)
              have hBl:wd.heap.size<=B:=by rw [hB]; exact bwq1.size
              have hno:∀ k,(s2.mv M2).owns k->¬ k=B:=fun k hk e=>by have h1:=(hres0.own k hk).2; omega
              have hres:=hres.below hb
              clear hb hwq2 hB
              exact cont wq2 s2 B ⟨HKS.out _ bwq2,hres,hno,hBl,hz,bwq2⟩
             ·skip
              go_simp
              have hb:Below wd.heap.size wd (wd.alloc (.cells #[.slice none 0 0,.slice none 0 0,.slice none 0 0,.slice none 0 0] 36)):=bal
              refine hK.out _ _ (HKS.out _ (bwd.trans (hb.mono bwd.size))) (fun hHeld=>?_)
              clear hK K
              obtain ⟨wq3,hwq3⟩:∃ x,x=wd.alloc (.cells #[.slice none 0 0,.slice none 0 0,.slice none 0 0,.slice none 0 0] 36):=⟨_,rfl⟩
              obtain ⟨B,hB⟩:∃ x,x=wd.heap.size:=⟨_,rfl⟩
              have hz:ZBx wq3 B:=by rw [hwq3,hB]; exact ZBx.alloc wd
              rw [<- hwq3] at hb hHeld
              simp only [<- hwq3,<- hB]
              have bwq3:Below wd.heap.size wd wq3:=bwd.trans (hb.mono bwd.size)
              have hBl:wd.heap.size<=B:=by rw [hB]; exact bwd.size
              clear hb hwq3 hB
              refine wpAnyH_ready (rs:=[5]) (by kernel_rfl) (by simp) ?_
              refine AllReadyH.cons rfl (fun K hK=>?_) AllReadyH.nil
              go_simp
              refine (HSTP.out _ ((HLD.out wq3 bwq3).m)).mono ?_
              rintro e wq4 ⟨s2,rfl,hres,hb⟩
              have bwq4:Below wd.heap.size wd wq4:=bwq3.trans (hb.mono bwq3.size)
              have hno:∀ k,(s2.mv M2).owns k->¬ k=B:=fun k hk e=>by have h1:=(hres.own k hk).1; have h2:=hz.1; omega
              have hz:=hz.below hb
              have hres0:=hres
              have hres:=hres.rebase bwq3.size
              go_wp2_with fail
              refine hK.out _ _ (HKS.out _ bwq4) (fun hHeld=>?_)
              clear hK K hb
              refine tk 6 ?_
              refine tk 7 ?_
              refine tk 8 ?_
              exact cont wq4 s2 B ⟨HKS.out _ bwq4,hres,hno,hBl,hz,bwq4⟩
            rintro w6 s2 B ⟨hHeld,hr6,hno6,hBl6,hz6,hb6⟩
            obtain ⟨hBs6,r0,r1,r2,r3,z0,z1,z2,z3⟩:=hz6
            refine wpAnyH_ready (rs:=[10]) (by kernel_rfl) (by simp) ?_
            refine AllReadyH.cons rfl (fun K hK=>?_) AllReadyH.nil
            go_simp
            refine hK.out _ _ (HKS.out _ ((((hb6.setCell hBl6 _).setCell hBl6 _).setCell hBl6 _).setCell hBl6 _)) (fun hHeld=>?_)
            clear hK K
            refine tk 11 ?_
            refine wpAnyH_done (by kernel_rfl) ?_ _
            obtain ⟨w7,hw7⟩:∃ x,x=((((w6.setCell ⟨B,0,none⟩ (.slice s2.a1 M2.mem.length s2.c1)).setCell ⟨B,1,none⟩ (.slice s2.a2 M2.pend.length s2.c2)).setCell ⟨B,2,none⟩ (.slice s2.a3 M2.tlb.length s2.c3)).setCell ⟨B,3,none⟩ (.slice s2.a4 M2.wc.length s2.c4)):=⟨_,rfl⟩
            rw [<- hw7]
            have hz7:w7.heap.size=w6.heap.size:=by rw [hw7]; simp
            have t7:Touch (fun k=>k=B) w6 w7:=by
             rw [hw7]
             exact Touch.put (Touch.put (Touch.put (Touch.put (Touch.none _) _ _ (by rfl)) _ _ (by rfl)) _ _ (by rfl)) _ _ (by rfl)
            obtain ⟨j0,j1,j2,j3⟩:w7.cell? ⟨B,0,none⟩=some (.slice s2.a1 M2.mem.length s2.c1)/\w7.cell? ⟨B,1,none⟩=some (.slice s2.a2 M2.pend.length s2.c2)/\w7.cell? ⟨B,2,none⟩=some (.slice s2.a3 M2.tlb.length s2.c3)/\w7.cell? ⟨B,3,none⟩=some (.slice s2.a4 M2.wc.length s2.c4):=⟨by rw [hw7]; simp [go_sem,r0],by rw [hw7]; simp [go_sem,r1],by rw [hw7]; simp [go_sem,r2],by rw [hw7]; simp [go_sem,r3]⟩
            have r7:MRow w7 wd.heap.size (s2.mv M2) M2:=hr6.touch t7 (fun k hk e=>hno6 k hk e)
            have b7:Below wd.heap.size wd w7:=Touch.below hb6 t7 hb6.size (fun k hk=>by omega)
            have hL7:=HLD.out w7 b7
            obtain ⟨u0,u1,u2,u3⟩:=hL7.q
            obtain ⟨m0,m1,m2,m3⟩:=hL7.f
            obtain ⟨v0,v1,v2,v3⟩:=HED.out w7 b7
            have hB7:B < w7.heap.size:=by omega
            have hno7:∀ j,(s2.mv M2).owns j->j ≠ w4.heap.size/\j ≠ gv:=fun j hj=>by have:=(r7.own j hj).1; have:=HZD.out; omega
            have HL7:Hid (LR wL w7 wb.heap.size w4.heap.size gs s' gv cv X):=hL7
            have HR7:Hid (MRow w7 wb.heap.size (s2.mv M2) M2):=r7.rebase HBD'.out.size
            have HN7:Hid (∀ j,(s2.mv M2).owns j->j ≠ w4.heap.size/\j ≠ gv):=hno7
            have HB7:Hid (Below wb.heap.size wb w7):=HBD'.out.trans (b7.mono HBD'.out.size)
            have hne7:B ≠ w4.heap.size:=by have:=HZD.out; omega
            have hne8:wr.heap.size ≠ w4.heap.size:=by omega
            have hgn7:w4.heap.size < w7.heap.size:=by have:=HZD.out; have:=hb6.size; omega
            have hwr7:wr.heap.size < w7.heap.size:=by have:=HZD.out; have:=hb6.size; omega
            clear hw7 t7 r7 b7 hL7 hno7 hr6 hno6 hb6 hHeld r0 r1 r2 r3 z0 z1 z2 z3 q0 q1 q2 q3 f0 f1 f2 f3 c0 c1 c2' c3 hz7 hBl6 hBs6
            by_cases hcz:cd=0
            ·subst hcz
             have HH:Hid (happenX ops X ⟨0,P,N,C⟩=⟨M2,X.at'+1,0,X.seen⟩):=hidOf <| by rw [HH0.out,if_pos rfl]
             have HCD:Hid ((⟨M2,X.at'+1,0,X.seen⟩:XS).code=0):=(rfl:(0:Int)=0)
             have HL8:Hid _:=HL7.out.put HR7.out HN7.out (X.at'+1) 0
             go_wp2_with fail
             go_roundw
             case rel=>exact ⟨k+1,⟨M2,X.at'+1,0,X.seen⟩,s2,gv,cv,by omega,by rw [HNX.out]; exact HH.out.symm,HCD.out,by go_num,by first | rfl | simp | go_num,by first | rfl | simp,HL8.out⟩
             case measure=>simp [intOf]; omega
            ·have dcz:(cd != 0)=true:=by simpa using hcz
             have HRE:Hid (R=⟨X.M,X.at',cd,X.seen⟩):=hidOf <| by
              have h1:playX ops (longE evs ops.length) (k+1) (begX M)=⟨X.M,X.at',cd,X.seen⟩:=by rw [HNX.out,HH0.out,if_neg hcz]
              have h2:=play_stop (evs:=(longE evs ops.length)) (ops:=ops) (x:=begX M) (k:=k+1) (by rw [h1]; exact hcz) ((longE evs ops.length).length - (k+1))
              rw [show k+1+((longE evs ops.length).length - (k+1))=(longE evs ops.length).length by omega,HEND.out,h1] at h2
              exact h2
             clear hcz
             obtain ⟨_,⟨o0,o1,o2,o3,o4,o5,o6⟩,⟨y0,y1,y2,y3,y4,y5,y6⟩,_,N0,N1,N2⟩:=HBOX.out w7 HB7.out
             go_wp2_with fail
             obtain ⟨wF,hwF⟩:∃ wF,wF=(((((((w7.setCell ⟨w.heap.size+1,0,none⟩ (.int .i64 cd)).setCell ⟨w.heap.size+1,1,none⟩ (.int .i64 (X.at':Int))).setCell ⟨w.heap.size+1,2,none⟩ (.slice s'.a1 X.M.mem.length s'.c1)).setCell ⟨w.heap.size+1,3,none⟩ (.slice s'.a2 X.M.pend.length s'.c2)).setCell ⟨w.heap.size+1,4,none⟩ (.slice s'.a3 X.M.tlb.length s'.c3)).setCell ⟨w.heap.size+1,5,none⟩ (.slice s'.a4 X.M.wc.length s'.c4)).setCell ⟨w.heap.size+1,6,none⟩ (.slice (some ⟨gv,0,none⟩) X.seen.length cv)):=⟨_,rfl⟩
             have tF:Touch (fun k=>k=w.heap.size+1) w7 wF:=by
              rw [hwF]
              exact Touch.put (Touch.put (Touch.put (Touch.put (Touch.put (Touch.put (Touch.put (Touch.none _) _ _ (by rfl)) _ _ (by rfl)) _ _ (by rfl)) _ _ (by rfl)) _ _ (by rfl)) _ _ (by rfl)) _ _ (by rfl)
             have bF:Below w.heap.size w wF:=Touch.below (HB0.out.trans (HB7.out.mono (by have:=HZB.out; omega))) tF (by omega) (fun k hk=>by omega)
             obtain ⟨g0,g1,g2,g3,g4,g5,g6⟩:=put7c hwF o0 o1 o2 o3 o4 o5 o6
             rw [<- hwF]
             have mF:=(HL7.out.m).touch tF (fun k hk e=>by have:=(HL7.out.m.own k hk).1; have:=HZB.out; omega)
             have sF:=(HL7.out.sr).touch tF (fun k hk e=>by have:=(HL7.out.sr.own k hk).1; have:=HZB.out; omega)
             refine bodyPost_ret (v:=.agg #[.int .i64 cd,.int .i64 (X.at':Int),.slice s'.a1 X.M.mem.length s'.c1,.slice s'.a2 X.M.pend.length s'.c2,.slice s'.a3 X.M.tlb.length s'.c3,.slice s'.a4 X.M.wc.length s'.c4,.slice (some ⟨gv,0,none⟩) X.seen.length cv]) (by simp [results,Tryz.results19,go_sem,g0,g1,g2,g3,g4,g5,g6]) rfl ⟨s',some ⟨gv,0,none⟩,cv,?_,?_,?_,bF⟩
             ·rw [HRE.out]
             ·rw [HRE.out]; exact mF.rebase (by have:=HZB.out; omega)
             ·rw [HRE.out]; exact sF.rebase (by have:=HZB.out; omega)
           ·have hdat:decide (X.at' < ops.length)=false:=by simpa using hat
            have HH:Hid (happenX ops X ⟨0,P,N,C⟩=X):=hidOf <| by unfold happenX; rw [if_pos rfl,nextX_done hat]
            have HCD:Hid (X.code=0):=HXC
            have HL8:Hid _:=HL.out.below (by have:=HNL.out; omega) ((Below.refl wr.heap.size wr).alloc (Nat.le_refl _) (.cells #[.int .i64 0,.int .i64 P,.int .i64 N,.int .i64 C] 120))
            go_wp2_with fail
            go_roundw
            case rel=>exact ⟨k+1,X,s',gv,cv,by omega,by rw [HNX.out]; exact HH.out.symm,HCD.out,by go_num,by first | rfl | simp | go_num,by first | rfl | simp,HL8.out⟩
            case measure=>simp [intOf]; omega
          ·obtain ⟨M2,hM2⟩:∃ M2:Mach,M2=(walkM X.M P C).1:=⟨_,rfl⟩
           have HH:Hid (happenX ops X ⟨1,P,N,C⟩=⟨M2,X.at',X.code,X.seen⟩):=hidOf <| by rw [hM2]; unfold happenX; simp
           have HCD:Hid ((⟨M2,X.at',X.code,X.seen⟩:XS).code=0):=HXC.out
           have HC1:Hid (∀ wX,MRow wX wb.heap.size (s'.mv X.M) X.M->Calls Tryz.prog 74 #[.agg #[.slice s'.a1 X.M.mem.length s'.c1,.slice s'.a2 X.M.pend.length s'.c2,.slice s'.a3 X.M.tlb.length s'.c3,.slice s'.a4 X.M.wc.length s'.c4],.int .i64 P,.int .i64 C] wX fun e w'=>∃ s2:SV,e=.returned (.agg #[.slice s2.a1 M2.mem.length s2.c1,.slice s2.a2 M2.pend.length s2.c2,.slice s2.a3 M2.tlb.length s2.c3,.slice s2.a4 M2.wc.length s2.c4])/\MRow w' wX.heap.size (s2.mv M2) M2/\Below wX.heap.size wX w'):=fun wX hW=>by
            have:=(fill_vm HXO.out.vm hP hC) ▸ specFill_any s' X.M wb.heap.size P C wX HXO.out.vm.mok HXO.out.vm.small hW
            rw [hM2]
            exact this
           have hLA:=HL.out.below (by have:=HNL.out; omega) ((Below.refl wr.heap.size wr).alloc (Nat.le_refl _) (.cells #[.int .i64 1,.int .i64 P,.int .i64 N,.int .i64 C] 120))
           have hcall:=HC1.out _ hLA.m
           have HLA:Hid _:=hLA
           clear hLA hM2
           go_wp2_with fail
           refine hcall.mono ?_
           rintro e w5 ⟨s2,rfl,hr5,hb5⟩
           have hs5:=hb5.size
           simp at hs5
           have hL5:=HLA.out.below (by have:=HNL.out; omega) hb5
           have hno5:∀ j,(s2.mv M2).owns j->j ≠ w4.heap.size/\j ≠ gv:=fun j hj=>by have:=(hr5.own j hj).1; simp at this; omega
           have hL6:=hL5.put (hr5.rebase (by have:=HBW4.out.size; simp; omega)) hno5 X.at' X.code
           obtain ⟨k0,k1,k2,k3⟩:=hL5.q
           obtain ⟨m0,m1,m2,m3⟩:=hL5.f
           have hgn5:w4.heap.size < w5.heap.size:=by omega
           have hev5:w5.cell? ⟨wr.heap.size,0,none⟩=some (.int .i64 1)/\w5.cell? ⟨wr.heap.size,1,none⟩=some (.int .i64 P)/\w5.cell? ⟨wr.heap.size,2,none⟩=some (.int .i64 N)/\w5.cell? ⟨wr.heap.size,3,none⟩=some (.int .i64 C):=by
            refine ⟨?_,?_,?_,?_⟩ <;> exact (hb5.cell (by simp)).trans (by simp [go_sem])
           obtain ⟨v0,v1,v2,v3⟩:=hev5
           have hnee:wr.heap.size ≠ w4.heap.size:=by omega
           have hwl5:wr.heap.size < w5.heap.size:=by omega
           have HL6:Hid _:=hL6
           clear hL6 hL5 hno5 hr5 hb5 hcall q0 q1 q2 q3 f0 f1 f2 f3 c0 c1 c2' c3
           go_wp2_with fail
           go_roundw
           case rel=>exact ⟨k+1,⟨M2,X.at',X.code,X.seen⟩,s2,gv,cv,by omega,by rw [HNX.out]; exact HH.out.symm,HCD.out,by go_num,by first | rfl | simp | go_num,by first | rfl | simp,HL6.out⟩
           case measure=>simp [intOf]; omega
          ·obtain ⟨M2,hM2⟩:∃ M2:Mach,M2=⟨X.M.mem,X.M.pend,keepTo eTlb true C X.M.tlb X.M.tlb.length,X.M.wc⟩:=⟨_,rfl⟩
           have HH:Hid (happenX ops X ⟨2,P,N,C⟩=⟨M2,X.at',X.code,X.seen⟩):=hidOf <| by rw [hM2]; unfold happenX; simp
           have HCD:Hid ((⟨M2,X.at',X.code,X.seen⟩:XS).code=0):=HXC.out
           have HC1:Hid (∀ wX,MRow wX wb.heap.size (s'.mv X.M) X.M->Calls Tryz.prog 75 #[.agg #[.slice s'.a1 X.M.mem.length s'.c1,.slice s'.a2 X.M.pend.length s'.c2,.slice s'.a3 X.M.tlb.length s'.c3,.slice s'.a4 X.M.wc.length s'.c4],.int .i64 0,.int .i64 C] wX fun e w'=>∃ s2:SV,e=.returned (.agg #[.slice s2.a1 M2.mem.length s2.c1,.slice s2.a2 M2.pend.length s2.c2,.slice s2.a3 M2.tlb.length s2.c3,.slice s2.a4 M2.wc.length s2.c4])/\MRow w' wX.heap.size (s2.mv M2) M2/\Below wX.heap.size wX w'):=fun wX hW=>by
            have:=(drop0_vm HXO.out.vm C) ▸ specDrop_any s' X.M wb.heap.size 0 C wX HXO.out.vm.mok HXO.out.vm.small hW
            rw [hM2]
            exact this
           have hLA:=HL.out.below (by have:=HNL.out; omega) ((Below.refl wr.heap.size wr).alloc (Nat.le_refl _) (.cells #[.int .i64 2,.int .i64 P,.int .i64 N,.int .i64 C] 120))
           have hcall:=HC1.out _ hLA.m
           have HLA:Hid _:=hLA
           clear hLA hM2
           go_wp2_with fail
           refine hcall.mono ?_
           rintro e w5 ⟨s2,rfl,hr5,hb5⟩
           have hs5:=hb5.size
           simp at hs5
           have hL5:=HLA.out.below (by have:=HNL.out; omega) hb5
           have hno5:∀ j,(s2.mv M2).owns j->j ≠ w4.heap.size/\j ≠ gv:=fun j hj=>by have:=(hr5.own j hj).1; simp at this; omega
           have hL6:=hL5.put (hr5.rebase (by have:=HBW4.out.size; simp; omega)) hno5 X.at' X.code
           obtain ⟨k0,k1,k2,k3⟩:=hL5.q
           obtain ⟨m0,m1,m2,m3⟩:=hL5.f
           have hgn5:w4.heap.size < w5.heap.size:=by omega
           have hev5:w5.cell? ⟨wr.heap.size,0,none⟩=some (.int .i64 2)/\w5.cell? ⟨wr.heap.size,1,none⟩=some (.int .i64 P)/\w5.cell? ⟨wr.heap.size,2,none⟩=some (.int .i64 N)/\w5.cell? ⟨wr.heap.size,3,none⟩=some (.int .i64 C):=by
            refine ⟨?_,?_,?_,?_⟩ <;> exact (hb5.cell (by simp)).trans (by simp [go_sem])
           obtain ⟨v0,v1,v2,v3⟩:=hev5
           have hnee:wr.heap.size ≠ w4.heap.size:=by omega
           have hwl5:wr.heap.size < w5.heap.size:=by omega
           have HL6:Hid _:=hL6
           clear hL6 hL5 hno5 hr5 hb5 hcall q0 q1 q2 q3 f0 f1 f2 f3 c0 c1 c2' c3
           go_wp2_with fail
           go_roundw
           case rel=>exact ⟨k+1,⟨M2,X.at',X.code,X.seen⟩,s2,gv,cv,by omega,by rw [HNX.out]; exact HH.out.symm,HCD.out,by go_num,by first | rfl | simp | go_num,by first | rfl | simp,HL6.out⟩
           case measure=>simp [intOf]; omega
          ·obtain ⟨M2,hM2⟩:∃ M2:Mach,M2=⟨X.M.mem,X.M.pend,X.M.tlb,keepTo eWc true C X.M.wc X.M.wc.length⟩:=⟨_,rfl⟩
           have HH:Hid (happenX ops X ⟨3,P,N,C⟩=⟨M2,X.at',X.code,X.seen⟩):=hidOf <| by rw [hM2]; unfold happenX; simp
           have HCD:Hid ((⟨M2,X.at',X.code,X.seen⟩:XS).code=0):=HXC.out
           have HC1:Hid (∀ wX,MRow wX wb.heap.size (s'.mv X.M) X.M->Calls Tryz.prog 75 #[.agg #[.slice s'.a1 X.M.mem.length s'.c1,.slice s'.a2 X.M.pend.length s'.c2,.slice s'.a3 X.M.tlb.length s'.c3,.slice s'.a4 X.M.wc.length s'.c4],.int .i64 1,.int .i64 C] wX fun e w'=>∃ s2:SV,e=.returned (.agg #[.slice s2.a1 M2.mem.length s2.c1,.slice s2.a2 M2.pend.length s2.c2,.slice s2.a3 M2.tlb.length s2.c3,.slice s2.a4 M2.wc.length s2.c4])/\MRow w' wX.heap.size (s2.mv M2) M2/\Below wX.heap.size wX w'):=fun wX hW=>by
            have:=(drop1_vm HXO.out.vm C) ▸ specDrop_any s' X.M wb.heap.size 1 C wX HXO.out.vm.mok HXO.out.vm.small hW
            rw [hM2]
            exact this
           have hLA:=HL.out.below (by have:=HNL.out; omega) ((Below.refl wr.heap.size wr).alloc (Nat.le_refl _) (.cells #[.int .i64 3,.int .i64 P,.int .i64 N,.int .i64 C] 120))
           have hcall:=HC1.out _ hLA.m
           have HLA:Hid _:=hLA
           clear hLA hM2
           go_wp2_with fail
           refine hcall.mono ?_
           rintro e w5 ⟨s2,rfl,hr5,hb5⟩
           have hs5:=hb5.size
           simp at hs5
           have hL5:=HLA.out.below (by have:=HNL.out; omega) hb5
           have hno5:∀ j,(s2.mv M2).owns j->j ≠ w4.heap.size/\j ≠ gv:=fun j hj=>by have:=(hr5.own j hj).1; simp at this; omega
           have hL6:=hL5.put (hr5.rebase (by have:=HBW4.out.size; simp; omega)) hno5 X.at' X.code
           obtain ⟨k0,k1,k2,k3⟩:=hL5.q
           obtain ⟨m0,m1,m2,m3⟩:=hL5.f
           have hgn5:w4.heap.size < w5.heap.size:=by omega
           have hev5:w5.cell? ⟨wr.heap.size,0,none⟩=some (.int .i64 3)/\w5.cell? ⟨wr.heap.size,1,none⟩=some (.int .i64 P)/\w5.cell? ⟨wr.heap.size,2,none⟩=some (.int .i64 N)/\w5.cell? ⟨wr.heap.size,3,none⟩=some (.int .i64 C):=by
            refine ⟨?_,?_,?_,?_⟩ <;> exact (hb5.cell (by simp)).trans (by simp [go_sem])
           obtain ⟨v0,v1,v2,v3⟩:=hev5
           have hnee:wr.heap.size ≠ w4.heap.size:=by omega
           have hwl5:wr.heap.size < w5.heap.size:=by omega
           have HL6:Hid _:=hL6
           clear hL6 hL5 hno5 hr5 hb5 hcall q0 q1 q2 q3 f0 f1 f2 f3 c0 c1 c2' c3
           go_wp2_with fail
           go_roundw
           case rel=>exact ⟨k+1,⟨M2,X.at',X.code,X.seen⟩,s2,gv,cv,by omega,by rw [HNX.out]; exact HH.out.symm,HCD.out,by go_num,by first | rfl | simp | go_num,by first | rfl | simp,HL6.out⟩
           case measure=>simp [intOf]; omega
          ·obtain ⟨M2,hM2⟩:∃ M2,M2=accN X.M P C:=⟨_,rfl⟩
           obtain ⟨SE,hSE⟩:∃ SE,SE=accS X.M P N C:=⟨_,rfl⟩
           have HH:Hid (happenX ops X ⟨4,P,N,C⟩=⟨M2,X.at',X.code,X.seen ++ [SE]⟩):=hidOf <| by rw [hM2,hSE]; unfold happenX; simp
           have HC1:Hid (∀ wX,MRow wX wb.heap.size (s'.mv X.M) X.M->Calls Tryz.prog 7 #[.agg #[.slice s'.a1 X.M.mem.length s'.c1,.slice s'.a2 X.M.pend.length s'.c2,.slice s'.a3 X.M.tlb.length s'.c3,.slice s'.a4 X.M.wc.length s'.c4],.int .i64 P,.int .i64 N,.int .i64 C] wX fun e w'=>∃ s2:SV,e=.returned (.tuple #[.agg #[.slice s2.a1 M2.mem.length s2.c1,.slice s2.a2 M2.pend.length s2.c2,.slice s2.a3 M2.tlb.length s2.c3,.slice s2.a4 M2.wc.length s2.c4],seenV SE])/\MRow w' wX.heap.size (s2.mv M2) M2/\Below wX.heap.size wX w'):=fun wX hW=>by
            have:=specAcc_any s' X.M wb.heap.size P N C wX HXO.out.vm.mok HXO.out.vm.small hW
            rw [acc_vm HXO.out.vm hP hC (HN4.out rfl),<- hM2,<- hSE] at this
            exact this
           obtain ⟨sp,sn,sk,so⟩:=SE
           unfold seenV at HC1
           have HCD:Hid ((⟨M2,X.at',X.code,X.seen ++ [⟨sp,sn,sk,so⟩]⟩:XS).code=0):=HXC.out
           have hLA:=HL.out.below (by have:=HNL.out; omega) ((Below.refl wr.heap.size wr).alloc (Nat.le_refl _) (.cells #[.int .i64 4,.int .i64 P,.int .i64 N,.int .i64 C] 120))
           have hcall:=HC1.out _ hLA.m
           have HLA:Hid _:=hLA
           clear hLA hM2 hSE
           go_wp2_with fail
           refine hcall.mono ?_
           rintro e w5 ⟨s2,rfl,hr5,hb5⟩
           have hs5:=hb5.size
           simp at hs5
           have hL5:=HLA.out.below (by have:=HNL.out; omega) hb5
           have hno5:∀ j,(s2.mv M2).owns j->j ≠ w4.heap.size/\j ≠ gv:=fun j hj=>by have:=(hr5.own j hj).1; simp at this; omega
           have hL6:=hL5.put (hr5.rebase (by have:=HBW4.out.size; simp; omega)) hno5 X.at' X.code
           have hlo5:∀ j,(s2.mv M2).owns j->j < w5.heap.size:=fun j hj=>(hr5.own j hj).2
           obtain ⟨k0,k1,k2,k3⟩:=hL5.q
           obtain ⟨m0,m1,m2,m3⟩:=hL5.f
           have hgn5:w4.heap.size < w5.heap.size:=by omega
           obtain ⟨v0,v1,v2,v3⟩:w5.cell? ⟨wr.heap.size,0,none⟩=some (.int .i64 4)/\w5.cell? ⟨wr.heap.size,1,none⟩=some (.int .i64 P)/\w5.cell? ⟨wr.heap.size,2,none⟩=some (.int .i64 N)/\w5.cell? ⟨wr.heap.size,3,none⟩=some (.int .i64 C):=by
            refine ⟨?_,?_,?_,?_⟩ <;> exact (hb5.cell (by simp)).trans (by simp [go_sem])
           have hnee:wr.heap.size ≠ w4.heap.size:=by omega
           have hwl5:wr.heap.size < w5.heap.size:=by omega
           have HL6:Hid _:=hL6
           have HLO5:Hid (∀ j,(s2.mv M2).owns j->j < w5.heap.size):=hlo5
           have HZ5:Hid (wr.heap.size+1<=w5.heap.size):=hs5
           clear hL6 hL5 hno5 hr5 hb5 hcall q0 q1 q2 q3 f0 f1 f2 f3 c0 c1 c2' c3 hlo5 hs5
           have hL7:=(HL6.out.below (by have:=HNL.out; omega) (br.alloc (Nat.le_refl _) (.cells #[.slice s2.a1 M2.mem.length s2.c1,.slice s2.a2 M2.pend.length s2.c2,.slice s2.a3 M2.tlb.length s2.c3,.slice s2.a4 M2.wc.length s2.c4] 36))).below (by have:=HNL.out; omega) (br.alloc (Nat.le_refl _) (.cells #[.int .i64 sp,.int .i64 sn,.int .i64 sk,.int .i64 so] 38))
           have HL7:Hid _:=hL7
           have HOWN:Hid (((((((w5.setCell ⟨w4.heap.size,0,none⟩ (.slice s2.a1 M2.mem.length s2.c1)).setCell ⟨w4.heap.size,1,none⟩ (.slice s2.a2 M2.pend.length s2.c2)).setCell ⟨w4.heap.size,2,none⟩ (.slice s2.a3 M2.tlb.length s2.c3)).setCell ⟨w4.heap.size,3,none⟩ (.slice s2.a4 M2.wc.length s2.c4)).alloc (.cells #[.slice s2.a1 M2.mem.length s2.c1,.slice s2.a2 M2.pend.length s2.c2,.slice s2.a3 M2.tlb.length s2.c3,.slice s2.a4 M2.wc.length s2.c4] 36)).alloc (.cells #[.int .i64 sp,.int .i64 sn,.int .i64 sk,.int .i64 so] 38)).ownsRow wb.heap.size 38 4 (.slice (some ⟨gv,0,none⟩) X.seen.length cv) X.seen.length (ecells eSeen X.seen)):=hL7.sr
           clear hL7
           have hz7:((((((w5.setCell ⟨w4.heap.size,0,none⟩ (.slice s2.a1 M2.mem.length s2.c1)).setCell ⟨w4.heap.size,1,none⟩ (.slice s2.a2 M2.pend.length s2.c2)).setCell ⟨w4.heap.size,2,none⟩ (.slice s2.a3 M2.tlb.length s2.c3)).setCell ⟨w4.heap.size,3,none⟩ (.slice s2.a4 M2.wc.length s2.c4)).alloc (.cells #[.slice s2.a1 M2.mem.length s2.c1,.slice s2.a2 M2.pend.length s2.c2,.slice s2.a3 M2.tlb.length s2.c3,.slice s2.a4 M2.wc.length s2.c4] 36)).alloc (.cells #[.int .i64 sp,.int .i64 sn,.int .i64 sk,.int .i64 so] 38)).heap.size=w5.heap.size+2:=by simp
           have hwb5:wb.heap.size<=w5.heap.size:=by have:=HBW4.out.size; have:=HZ5.out; omega
           go_wp2_with (at_builtin; refine wpList_append_lies _ rfl (.tmp 145) (.tmp 147) 58 rfl wb.heap.size 38 iS _ 4 32 Tryz.underlying58 hiS hzS0 hzS1 hzS2 rfl (by omega) _ _ _ rfl (World.ownsRow.alloc HOWN.out _) ⟨w5.heap.size+2,0,none⟩ 1 1 [.int .i64 sp,.int .i64 sn,.int .i64 sk,.int .i64 so] rfl rfl ?c1 ?c2 (by omega) ?c3 ?c4 ?c5 (w5.heap.size+3) ?c6 ?_)
           case c1=>exact World.news_of_block (by have:=heap_alloc_new ((((((w5.setCell ⟨w4.heap.size,0,none⟩ (.slice s2.a1 M2.mem.length s2.c1)).setCell ⟨w4.heap.size,1,none⟩ (.slice s2.a2 M2.pend.length s2.c2)).setCell ⟨w4.heap.size,2,none⟩ (.slice s2.a3 M2.tlb.length s2.c3)).setCell ⟨w4.heap.size,3,none⟩ (.slice s2.a4 M2.wc.length s2.c4)).alloc (.cells #[.slice s2.a1 M2.mem.length s2.c1,.slice s2.a2 M2.pend.length s2.c2,.slice s2.a3 M2.tlb.length s2.c3,.slice s2.a4 M2.wc.length s2.c4] 36)).alloc (.cells #[.int .i64 sp,.int .i64 sn,.int .i64 sk,.int .i64 so] 38)) (.cells #[.int .i64 sp,.int .i64 sn,.int .i64 sk,.int .i64 so] 38); rw [hz7] at this; exact this)
           case c2=>intro u hu; simp at hu; rcases hu with rfl | rfl | rfl | rfl <;> rfl
           case c3=>unfold maxLen; omega
           case c4=>omega
           case c5=>simp; omega
           case c6=>simp
           intro g1 cap1 wn hown hgrow hat hlt3
           rw [own_slice] at hgrow hat
           have hL8:=HL7.out.below (by have:=HNL.out; omega) (br.alloc (Nat.le_refl _) (.cells #[.int .i64 sp,.int .i64 sn,.int .i64 sk,.int .i64 so] 38))
           have hnew:ERow eSeen wn wb.heap.size (.slice (some ⟨g1,0,none⟩) (X.seen.length+1) cap1) (X.seen ++ [⟨sp,sn,sk,so⟩]):=ERow.snocL (m:=X.seen.length+1) rfl hown
           have hL9:=LR.seen (x:=⟨sp,sn,sk,so⟩) (g1:=g1) (c1:=cap1) hL8 (by have:=HNL.out; omega) (fun j hj=>by have:=HLO5.out j hj; simp; omega) hgrow hnew (by
            rcases hat with h' | h'
            ·exact .inl (by simpa [oOf,Value.ownBlock] using h')
            ·exact .inr (by simp; omega))
           have HL9:Hid _:=hL9
           clear hown hgrow hat hnew hL8 hL9
           go_wp2_with fail
           go_roundw
           case rel=>exact ⟨k+1,⟨M2,X.at',X.code,X.seen ++ [⟨sp,sn,sk,so⟩]⟩,s2,g1,cap1,by omega,by rw [HNX.out]; exact HH.out.symm,HCD.out,by go_num,by first | rfl | simp | go_num,by first | rfl | simp,HL9.out⟩
           case measure=>simp [intOf]; omega
         ·obtain rfl:k=(longE evs ops.length).length:=by omega
          have LF3:¬ ((longE evs ops.length).length:Int) < ((longE evs ops.length).length:Int):=by omega
          have HRE:Hid (R=⟨X.M,ops.length,0,X.seen⟩):=hidOf <| by
           have h1:X=endX M ops evs:=by rw [HX.out,HEND.out]; exact HOK.out.1
           have h2:=endX_at HO.out HV0.out HOK.out.2 (by rw [<- h1]; exact hXc)
           rw [<- h1] at h2
           rw [HOK.out.1,<- h1,<- h2,<- hXc]
          obtain ⟨_,⟨o0,o1,o2,o3,o4,o5,o6⟩,⟨y0,y1,y2,y3,y4,y5,y6⟩,_,N0,N1,N2⟩:=HBOX.out wr HBW4.out
          clear hL htw hwr bW hXo hX hXc hlt
          go_wp2_with fail
          obtain ⟨wF,hwF⟩:∃ wF,wF=(((((((wr.setCell ⟨w.heap.size+1,0,none⟩ (.int .i64 0)).setCell ⟨w.heap.size+1,1,none⟩ (.int .i64 (ops.length:Int))).setCell ⟨w.heap.size+1,2,none⟩ (.slice s'.a1 X.M.mem.length s'.c1)).setCell ⟨w.heap.size+1,3,none⟩ (.slice s'.a2 X.M.pend.length s'.c2)).setCell ⟨w.heap.size+1,4,none⟩ (.slice s'.a3 X.M.tlb.length s'.c3)).setCell ⟨w.heap.size+1,5,none⟩ (.slice s'.a4 X.M.wc.length s'.c4)).setCell ⟨w.heap.size+1,6,none⟩ (.slice (some ⟨gv,0,none⟩) X.seen.length cv)):=⟨_,rfl⟩
          have tF:Touch (fun k=>k=w.heap.size+1) wr wF:=by
           rw [hwF]
           exact Touch.put (Touch.put (Touch.put (Touch.put (Touch.put (Touch.put (Touch.put (Touch.none _) _ _ (by rfl)) _ _ (by rfl)) _ _ (by rfl)) _ _ (by rfl)) _ _ (by rfl)) _ _ (by rfl)) _ _ (by rfl)
          have bF:Below w.heap.size w wF:=Touch.below (HB0.out.trans (HBW4.out.mono (by have:=HZB.out; omega))) tF (by omega) (fun k hk=>by omega)
          obtain ⟨g0,g1,g2,g3,g4,g5,g6⟩:=put7c hwF o0 o1 o2 o3 o4 o5 o6
          rw [<- hwF]
          have mF:=(HL.out.m).touch tF (fun k hk e=>by have:=(HL.out.m.own k hk).1; have:=HZB.out; omega)
          have sF:=(HL.out.sr).touch tF (fun k hk e=>by have:=(HL.out.sr.own k hk).1; have:=HZB.out; omega)
          refine bodyPost_ret (v:=.agg #[.int .i64 0,.int .i64 (ops.length:Int),.slice s'.a1 X.M.mem.length s'.c1,.slice s'.a2 X.M.pend.length s'.c2,.slice s'.a3 X.M.tlb.length s'.c3,.slice s'.a4 X.M.wc.length s'.c4,.slice (some ⟨gv,0,none⟩) X.seen.length cv]) (by simp [results,Tryz.results19,go_sem,g0,g1,g2,g3,g4,g5,g6]) rfl ⟨s',some ⟨gv,0,none⟩,cv,?_,?_,?_,bF⟩
          ·rw [HRE.out]
          ·rw [HRE.out]; exact mF.rebase (by have:=HZB.out; omega)
          ·rw [HRE.out]; exact sF.rebase (by have:=HZB.out; omega)
end Go.Proofs.YtiiejckfcnmhoabGreat
