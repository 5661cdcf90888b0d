import Derived.Test.YtnmhkgmmpkjjeaaG42
import Derived.Test.YtnmhkgmmpkjjeaaG15
import Derived.Test.YtnmhkgmmpkjjeaaG41
import Derived.Test.YtnmhkgmmpkjjeaaG43
namespace Go.Proofs.Ytnmhkgmmpkjjeaa
open Go.ChangeShapes Go.WideShapes Go.ChangeAt Go.RowKit
set_option linter.unusedVariables false
attribute [local go_sem ↓] Go.wp_at_zero Go.wp_at_succ
set_option maxRecDepth 100000 in
set_option maxHeartbeats 8000000 in
theorem stepS_dsb (s:SV) (M:Mach) (b:Nat) (A Bb W:Int) (w:World) (hs:M.Small) (hv:validB M=true) (hok:WOk M) (hop:opB M ⟨2,A,Bb,W⟩=true) (h:MRow w b (s.mv M) M) :
  Calls Try.prog 29 #[.agg #[.slice s.a1 M.mem.length s.c1,.slice s.a2 M.pend.length s.c2,.slice s.a3 M.tlb.length s.c3,.slice s.a4 M.wc.length s.c4],.agg #[.int .i64 2,.int .i64 A,.int .i64 Bb,.int .u64 W]] w fun e w'=>∃ s':SV,e=.returned (.tuple #[.agg #[.slice s'.a1 (⟨lateL M,[],M.tlb.filter (fun e=>!e.doom),M.wc.filter (fun e=>!e.doom)⟩:Mach).mem.length s'.c1,.slice s'.a2 (⟨lateL M,[],M.tlb.filter (fun e=>!e.doom),M.wc.filter (fun e=>!e.doom)⟩:Mach).pend.length s'.c2,.slice s'.a3 (⟨lateL M,[],M.tlb.filter (fun e=>!e.doom),M.wc.filter (fun e=>!e.doom)⟩:Mach).tlb.length s'.c3,.slice s'.a4 (⟨lateL M,[],M.tlb.filter (fun e=>!e.doom),M.wc.filter (fun e=>!e.doom)⟩:Mach).wc.length s'.c4],.int .i64 0])/\MRow w' w.heap.size (s'.mv (⟨lateL M,[],M.tlb.filter (fun e=>!e.doom),M.wc.filter (fun e=>!e.doom)⟩:Mach)) (⟨lateL M,[],M.tlb.filter (fun e=>!e.doom),M.wc.filter (fun e=>!e.doom)⟩:Mach)/\Below w.heap.size w w':=by
 obtain ⟨iT,hiT,hzT0,hzT1,hzT2⟩:=info_parts infoTlb
 obtain ⟨iC,hiC,hzC0,hzC1,hzC2⟩:=info_parts infoWc
 have y3s:=hs.t
 have y4s:=hs.c
 have HLAT:Hid (∀ wX,MRow wX b (s.mv M) M->Calls Try.prog 85 #[.agg #[.slice s.a1 M.mem.length s.c1,.slice s.a2 M.pend.length s.c2,.slice s.a3 M.tlb.length s.c3,.slice s.a4 M.wc.length s.c4]] wX fun e w'=>∃ g c,e=.returned (.agg #[.slice (some ⟨g,0,none⟩) M.mem.length c])/\ERow eWord w' wX.heap.size (.slice (some ⟨g,0,none⟩) M.mem.length c) (lateL M)/\Below wX.heap.size wX w'):=fun wX hX=>latest_any s M b wX hs (by have:=nfr_mul M.mem.length hok.n0; omega) (fun i hi=>valid_pend hv i hi) hX
 obtain ⟨wb,hwb⟩:∃ wb,wb=((w.alloc (.cells #[.slice s.a1 M.mem.length s.c1,.slice s.a2 M.pend.length s.c2,.slice s.a3 M.tlb.length s.c3,.slice s.a4 M.wc.length s.c4] 38)).alloc (.cells #[.int .i64 2,.int .i64 A,.int .i64 Bb,.int .u64 W] 65)).alloc (.cells #[.slice none 0 0,.slice none 0 0,.slice none 0 0,.slice none 0 0] 38):=⟨_,rfl⟩
 have hbb:Below w.heap.size w wb:=by rw [hwb]; exact (((Below.refl _ _).alloc (Nat.le_refl _) _).alloc (by simp) _).alloc (by simp; omega) _
 have hzb:wb.heap.size=w.heap.size+3:=by rw [hwb]; simp
 have HBOX:Hid (∀ wX,Below wb.heap.size wb wX->(wX.cell? ⟨w.heap.size,0,none⟩=some (.slice s.a1 M.mem.length s.c1)/\wX.cell? ⟨w.heap.size,1,none⟩=some (.slice s.a2 M.pend.length s.c2)/\wX.cell? ⟨w.heap.size,2,none⟩=some (.slice s.a3 M.tlb.length s.c3)/\wX.cell? ⟨w.heap.size,3,none⟩=some (.slice s.a4 M.wc.length s.c4))/\(wX.cell? ⟨w.heap.size+1,0,none⟩=some (.int .i64 2)/\wX.cell? ⟨w.heap.size+1,1,none⟩=some (.int .i64 A)/\wX.cell? ⟨w.heap.size+1,2,none⟩=some (.int .i64 Bb)/\wX.cell? ⟨w.heap.size+1,3,none⟩=some (.int .u64 W))/\(wX.cell? ⟨w.heap.size+2,0,none⟩=some (.slice none 0 0)/\wX.cell? ⟨w.heap.size+2,1,none⟩=some (.slice none 0 0)/\wX.cell? ⟨w.heap.size+2,2,none⟩=some (.slice none 0 0)/\wX.cell? ⟨w.heap.size+2,3,none⟩=some (.slice none 0 0))/\(wX.frozen? ⟨w.heap.size+2,0,none⟩=false/\wX.frozen? ⟨w.heap.size+2,1,none⟩=false/\wX.frozen? ⟨w.heap.size+2,2,none⟩=false/\wX.frozen? ⟨w.heap.size+2,3,none⟩=false)/\w.heap.size < wX.heap.size/\w.heap.size+1 < wX.heap.size/\w.heap.size+2 < wX.heap.size):=fun wX hX=>by
  have hsz:=hX.size
  refine ⟨⟨?_,?_,?_,?_⟩,⟨?_,?_,?_,?_⟩,⟨?_,?_,?_,?_⟩,⟨?_,?_,?_,?_⟩,by omega,by omega,by omega⟩
  iterate 12 (exact (hX.cell (by simp; omega)).trans (by rw [hwb]; simp [go_sem]))
  iterate 4 (exact (hX.frozen (by simp; omega)).trans (by rw [hwb]; simp [go_sem]))
 have hvm:=specValid_any s M b wb hs (h.below hbb)
 rw [hv,hwb] at hvm
 have HM:Hid (∀ wX,Below wb.heap.size wb wX->MRow wX b (s.mv M) M):=fun wX hX=>h.below (hbb.trans (hX.mono (by omega)))
 have HCP:Hid (∀ wX,Below wb.heap.size wb wX->_):=fun wX hX=>copyM_any s M b wX hs (HM.out wX hX)
 have HWF:Hid (∀ wX,Calls Try.prog 82 #[.agg #[.slice s.a1 M.mem.length s.c1,.slice s.a2 M.pend.length s.c2,.slice s.a3 M.tlb.length s.c3,.slice s.a4 M.wc.length s.c4],.agg #[.int .i64 2,.int .i64 A,.int .i64 Bb,.int .u64 W]] wX fun e w'=>e=.returned (.bool (opB M ⟨2,A,Bb,W⟩))/\Below wX.heap.size wX w'):=fun wX=>wellS_any s M 2 A Bb W wX hs
 have HWB:Hid (wb=_):=hwb
 have HBB:Hid (Below _ w wb):=hbb
 have HZ:Hid (wb.heap.size=w.heap.size+3):=hzb
 have HVV:Hid (validB M=true):=hv
 clear hwb hbb hzb h hv
 go_enter Try.func29,Try.ntmps29
 go_wp2_with fail
 refine hvm.mono ?_
 rintro e w1 ⟨rfl,hb1'⟩
 have hb1:Below wb.heap.size wb w1:=by rw [HWB.out]; exact hb1'
 have HB1:Hid (Below wb.heap.size wb w1):=hb1
 clear hb1' hvm
 obtain ⟨⟨q0,q1,q2,q3⟩,_,_,_,N0,N1,N2⟩:=HBOX.out w1 hb1
 clear hb1
 go_wp2_with fail
 refine (HCP.out w1 HB1.out).mono ?_
 rintro e w2 ⟨s1,rfl,hr2,hap2,hb2⟩
 obtain ⟨wO,hwO⟩:∃ wO,wO=w2.alloc (.cells #[.slice s1.a1 M.mem.length s1.c1,.slice s1.a2 M.pend.length s1.c2,.slice s1.a3 M.tlb.length s1.c3,.slice s1.a4 M.wc.length s1.c4] 38):=⟨_,rfl⟩
 have hzO:wO.heap.size=w2.heap.size+1:=by rw [hwO]; simp
 have b2:Below wb.heap.size wb w2:=HB1.out.trans (hb2.mono HB1.out.size)
 have bO:Below wb.heap.size wb wO:=by rw [hwO]; exact b2.alloc b2.size _
 have rO:MRow wO w1.heap.size (s1.mv M) M:=by rw [hwO]; exact hr2.below ((Below.refl _ _).alloc (Nat.le_refl _) _)
 have HOB:Hid (∀ wX,Below wO.heap.size wO wX->(wX.cell? ⟨w2.heap.size,0,none⟩=some (.slice s1.a1 M.mem.length s1.c1)/\wX.cell? ⟨w2.heap.size,1,none⟩=some (.slice s1.a2 M.pend.length s1.c2)/\wX.cell? ⟨w2.heap.size,2,none⟩=some (.slice s1.a3 M.tlb.length s1.c3)/\wX.cell? ⟨w2.heap.size,3,none⟩=some (.slice s1.a4 M.wc.length s1.c4))/\(wX.frozen? ⟨w2.heap.size,0,none⟩=false/\wX.frozen? ⟨w2.heap.size,1,none⟩=false/\wX.frozen? ⟨w2.heap.size,2,none⟩=false/\wX.frozen? ⟨w2.heap.size,3,none⟩=false)):=fun wX hX=>by
  refine ⟨⟨?_,?_,?_,?_⟩,?_,?_,?_,?_⟩
  iterate 4 (exact (hX.cell (by simp; omega)).trans (by rw [hwO]; simp [go_sem]))
  iterate 4 (exact (hX.frozen (by simp; omega)).trans (by rw [hwO]; simp [go_sem]))
 obtain ⟨⟨q0,q1,q2,q3⟩,⟨p0,p1,p2,p3⟩,_,_,N0,N1,N2⟩:=HBOX.out w2 b2
 have hwf:=HWF.out wO
 rw [hop,hwO] at hwf
 have HWO:Hid (wO=_):=hwO
 have HRO:Hid (MRow wO w1.heap.size (s1.mv M) M):=rO
 have HO2:Hid (∀ k,(s1.mv M).owns k->w1.heap.size<=k/\k < w2.heap.size):=hr2.own
 have HAP:Hid ((s1.mv M).apart):=hap2
 have HBO:Hid (Below wb.heap.size wb wO):=bO
 have HZO:Hid (wO.heap.size=w2.heap.size+1):=hzO
 have HS12:Hid (w1.heap.size<=w2.heap.size):=hb2.size
 have N3:w.heap.size+2 < w2.heap.size:=N2
 clear hr2 hb2 hwO b2 bO rO hzO hap2
 go_wp2_with fail
 refine hwf.mono ?_
 rintro e w3 ⟨rfl,hb3'⟩
 have hb3:Below wO.heap.size wO w3:=by rw [HWO.out]; exact hb3'
 have b3:Below wb.heap.size wb w3:=HBO.out.trans (hb3.mono HBO.out.size)
 have HB3:Hid (Below wb.heap.size wb w3):=b3
 have HBO3:Hid (Below wO.heap.size wO w3):=hb3
 obtain ⟨⟨q0,q1,q2,q3⟩,⟨p0,p1,p2,p3⟩,⟨r0,r1,r2,r3⟩,⟨z0,z1,z2,z3⟩,N0,N1,N2⟩:=HBOX.out w3 b3
 obtain ⟨⟨o0,o1,o2,o3⟩,y0,y1,y2,y3⟩:=HOB.out w3 hb3
 clear hwf hb3' hb3 b3
 clear q0 q1 q2 q3 r0 r1 r2 r3 z0 z1 z2 z3 o0 o1 o2 o3 y0 y1 y2 y3
 go_wp2_with fail
 obtain ⟨wE,hwE⟩:∃ wE,wE=(w3.alloc (.cells #[] 72)).alloc (.cells #[] 74):=⟨_,rfl⟩
 have hzE:wE.heap.size=w3.heap.size+2:=by rw [hwE]; simp
 have bE3:Below w3.heap.size w3 wE:=by rw [hwE]; exact ((Below.refl _ _).alloc (Nat.le_refl _) _).alloc (by simp) _
 have HBwE:Hid (Below wb.heap.size wb wE):=HB3.out.trans (bE3.mono HB3.out.size)
 have HOE:Hid (Below wO.heap.size wO wE):=HBO3.out.trans (bE3.mono HBO3.out.size)
 have rT0:ERow eTlb wE wb.heap.size (.slice (some ⟨w3.heap.size,0,none⟩) 0 0) []:=by
  rw [hwE]
  exact (ERow.empty eTlb w3 wb.heap.size HB3.out.size).below ((Below.refl _ _).alloc (Nat.le_refl _) _)
 have rW0:ERow eWc wE wb.heap.size (.slice (some ⟨w3.heap.size+1,0,none⟩) 0 0) []:=by
  rw [hwE]
  have h:=ERow.empty eWc (w3.alloc (.cells #[] 72)) wb.heap.size (by have:=HB3.out.size; simp; omega)
  rw [show (w3.alloc (.cells #[] 72)).heap.size=w3.heap.size+1 by simp] at h
  exact h
 have HT0:Hid (ERow eTlb wE wb.heap.size (.slice (some ⟨w3.heap.size,0,none⟩) 0 0) []):=rT0
 have HW0:Hid (ERow eWc wE wb.heap.size (.slice (some ⟨w3.heap.size+1,0,none⟩) 0 0) []):=rW0
 have HZwE:Hid (wb.heap.size<=w3.heap.size/\wE.heap.size=w3.heap.size+2):=⟨HB3.out.size,hzE⟩
 rw [<- hwE]
 have HWE:Hid (wE=_):=hwE
 clear hwE hzE bE3 rT0 rW0
 go_loopw [8,10] (fun vv iv wr=>∃ t gv cv:Nat,t<=M.tlb.length/\iv=.int .i64 t/\vv=.slice (some ⟨gv,0,none⟩) (keepT M.tlb t).length cv/\ERow eTlb wr wb.heap.size (.slice (some ⟨gv,0,none⟩) (keepT M.tlb t).length cv) (keepT M.tlb t)/\(gv=w3.heap.size\/wE.heap.size<=gv)/\Touch (fun k=>k=w3.heap.size) wE wr) (fun _ iv _=>M.tlb.length - (intOf iv).toNat)
 case atStart =>
  refine ⟨0,w3.heap.size,0,Nat.zero_le _,rfl,?_,?_,.inl rfl,Touch.none _⟩
  ·rfl
  ·exact HT0.out
 case round =>
  obtain ⟨t,gv,cv,ht,rfl,rfl,hrow,hgv,htc⟩:=hrel
  have hsz:=htc.size
  have bW:Below wb.heap.size wb wr:=Touch.below HBwE.out htc HBwE.out.size (fun k hk=>by have:=HZwE.out; omega)
  have hszb:=bW.size
  obtain ⟨⟨q0,q1,q2,q3⟩,⟨p0,p1,p2,p3⟩,_,_,N0,N1,N2⟩:=HBOX.out wr bW
  have hKL:(keepT M.tlb t).length<=t:=keepT_le M.tlb t
  by_cases hlt:t < M.tlb.length
  ·obtain ⟨E0,hE⟩:∃ E0,eAt eTlb M.tlb t=E0:=⟨_,rfl⟩
   obtain ⟨P,S,O,R,D⟩:=E0
   obtain ⟨g,hg1,hg2⟩:=tlbS_cells (show ERow eTlb wr b (.slice s.a3 M.tlb.length s.c3) M.tlb from (HM.out wr bW).t)
   obtain ⟨hae,hgl⟩:=hg1 (by omega)
   obtain ⟨k0,k1,k2,k3,k4⟩:=hg2 t P S O R D hlt hE wr rfl
   rw [hae] at q2
   have HE:Hid (eAt eTlb M.tlb t=_):=hE
   have L1:(0:Int)<=(t:Int):=by omega
   have L2:(t:Int) < (M.tlb.length:Int):=by omega
   have HTC:Hid (Touch (fun k=>k=w3.heap.size) wE wr):=htc
   have HGV:Hid (gv=w3.heap.size\/wE.heap.size<=gv):=hgv
   have HROW:Hid (ERow eTlb wr wb.heap.size (.slice (some ⟨gv,0,none⟩) (keepT M.tlb t).length cv) (keepT M.tlb t)):=hrow
   clear hE hg1 hg2 hae hrow htc hgv bW
   have hks:=keepT_succ M.tlb t hlt
   rw [show eAt eTE M.tlb t=⟨P,S,O,R,D⟩ from HE.out] at hks
   dsimp only at hks
   cases D
   ·have HKT:Hid (keepT M.tlb (t+1)=keepT M.tlb t ++ [⟨P,S,O,R,false⟩]):=by rw [hks]; rfl
    have HEC:Hid (eTlb.enc ⟨P,S,O,R,false⟩=[.int .i64 P,.int .i64 S,.int .i64 O,.int .i64 R,.bool false]):=(rfl:eTlb.enc ⟨P,S,O,R,false⟩=[.int .i64 P,.int .i64 S,.int .i64 O,.int .i64 R,.bool false])
    have HY:Hid (Touch (fun k=>k=w3.heap.size) wE wr):=HTC
    have HRY:Hid (ERow eTlb wr wb.heap.size (.slice (some ⟨gv,0,none⟩) (keepT M.tlb t).length cv) (keepT M.tlb t)):=HROW
    clear hks
    have HOWN:Hid (wr.ownsRow wb.heap.size 72 5 (.slice (some ⟨gv,0,none⟩) (keepT M.tlb t).length cv) (keepT M.tlb t).length (ecells eTlb (keepT M.tlb t))):=HRY.out
    have hyw:wb.heap.size<=wr.heap.size:=by have:=HY.out.size; have:=HBwE.out.size; omega
    go_wp2_with (at_builtin; refine wpList_append_lies _ rfl (.tmp 75) (.tmp 81) 35 rfl wb.heap.size 72 iT _ 5 40 Try.underlying35 hiT hzT0 hzT1 hzT2 rfl (by omega) _ _ _ rfl (World.ownsRow.alloc HOWN.out _) ⟨wr.heap.size,0,none⟩ 1 1 [.int .i64 P,.int .i64 S,.int .i64 O,.int .i64 R,.bool false] rfl rfl ?c1 ?c2 (by omega) ?c3 ?c4 ?c5 (wr.heap.size+1) ?c6 ?_)
    case c1=>exact World.news_of_block (heap_alloc_new wr (.cells #[.int .i64 P,.int .i64 S,.int .i64 O,.int .i64 R,.bool false] 72))
    case c2=>intro u hu; simp at hu; rcases hu with rfl | rfl | rfl | rfl | rfl <;> rfl
    case c3=>unfold maxLen; omega
    case c4=>omega
    case c5=>simp; omega
    case c6=>simp
    intro g1 cap1 wn hown hgrow hat hlt3
    rw [own_slice] at hgrow hat
    have hnew:ERow eTlb wn wb.heap.size (.slice (some ⟨g1,0,none⟩) ((keepT M.tlb t).length+1) cap1) ((keepT M.tlb t) ++ [⟨P,S,O,R,false⟩]):=ERow.snocL (m:=(keepT M.tlb t).length+1) rfl (by rw [HEC.out]; exact hown)
    have hog:oOf (some (⟨gv,0,none⟩:Addr))=some gv:=rfl
    have hys:=HY.out.size
    have hgn:g1=w3.heap.size\/wE.heap.size<=g1:=by
     rcases hat with h' | h'
     ·rw [hog] at h'
      obtain rfl:gv=g1:=by simpa using h'
      exact HGV.out
     ·exact .inr (by omega)
    have htn:Touch (fun k=>k=w3.heap.size) wE wn:=HY.out.then (S':=fun k=>gv=k) ⟨hgrow.os,hgrow.tape,hgrow.output,by have:=hgrow.size; simp at this; omega,fun k hk hn=>(hgrow.block k (by simp; omega) (fun e=>hn (by rw [hog] at e; simpa using e.symm))).trans (heap_alloc_old wr _ hk)⟩ (fun k hk e=>by rcases HGV.out with h' | h' <;> omega)
    have HNEW:Hid (ERow eTlb wn wb.heap.size (.slice (some ⟨g1,0,none⟩) ((keepT M.tlb t).length+1) cap1) ((keepT M.tlb t) ++ [⟨P,S,O,R,false⟩])):=hnew
    have HGN:Hid (g1=w3.heap.size\/wE.heap.size<=g1):=hgn
    have HTN:Hid (Touch (fun k=>k=w3.heap.size) wE wn):=htn
    clear hown hgrow hat hnew hgn htn hys k0 k1 k2 k3 k4 q0 q1 q2 q3 p0 p1 p2 p3
    go_wp2_with fail
    go_roundw
    case rel =>
     refine ⟨t+1,g1,cap1,by omega,by go_num,?_,?_,HGN.out,HTN.out⟩
     ·rw [HKT.out,List.length_append]; rfl
     ·rw [HKT.out,List.length_append]; exact HNEW.out
    case measure=>simp [intOf]; omega
   ·have HKT:Hid (keepT M.tlb (t+1)=keepT M.tlb t):=by rw [hks]; rfl
    clear hks
    go_wp2_with fail
    go_roundw
    case rel =>
     refine ⟨t+1,gv,cv,by omega,by go_num,?_,?_,HGV.out,HTC.out⟩
     ·rw [HKT.out]
     ·rw [HKT.out]; exact HROW.out
    case measure=>simp [intOf]; omega
  ·obtain rfl:t=M.tlb.length:=by omega
   have LF:¬ (M.tlb.length:Int) < (M.tlb.length:Int):=by omega
   have HBwT:Hid (Below wb.heap.size wb wr):=bW
   have HROWT:Hid (ERow eTlb wr wb.heap.size (.slice (some ⟨gv,0,none⟩) (keepT M.tlb M.tlb.length).length cv) (keepT M.tlb M.tlb.length)):=hrow
   have HGVT:Hid (gv=w3.heap.size\/wE.heap.size<=gv):=hgv
   have HTCT:Hid (Touch (fun k=>k=w3.heap.size) wE wr):=htc
   have HZwT:Hid (wb.heap.size<=w3.heap.size+1/\wE.heap.size<=wr.heap.size/\wE.heap.size=w3.heap.size+2):=⟨by have:=HZwE.out; omega,hsz,HZwE.out.2⟩
   clear hrow hgv htc bW hsz hszb hKL hlt ht
   go_wp2_with fail
   obtain ⟨wT,e0⟩:∃ x,x=wr:=⟨_,rfl⟩
   subst e0
   obtain ⟨gT,e0⟩:∃ x,x=gv:=⟨_,rfl⟩
   subst e0
   obtain ⟨cT,e0⟩:∃ x,x=cv:=⟨_,rfl⟩
   subst e0
   clear q0 q1 q2 q3 p0 p1 p2 p3 N0 N1 N2 LF
   go_loopw [9,11] (fun vv iv wr=>∃ t gv cv:Nat,t<=M.wc.length/\iv=.int .i64 t/\vv=.slice (some ⟨gv,0,none⟩) (keepW M.wc t).length cv/\ERow eWc wr wb.heap.size (.slice (some ⟨gv,0,none⟩) (keepW M.wc t).length cv) (keepW M.wc t)/\(gv=(w3.heap.size+1)\/wT.heap.size<=gv)/\Touch (fun k=>k=(w3.heap.size+1)) wT wr) (fun _ iv _=>M.wc.length - (intOf iv).toNat)
   case atStart =>
    refine ⟨0,w3.heap.size+1,0,Nat.zero_le _,rfl,?_,?_,.inl rfl,Touch.none _⟩
    ·rfl
    ·exact HW0.out.touch HTCT.out (fun k h1 h2=>by simp [Value.ownBlock] at h1; omega)
   case round =>
    obtain ⟨t,gv,cv,ht,rfl,rfl,hrow,hgv,htc⟩:=hrel
    have hsz:=htc.size
    have bW:Below wb.heap.size wb wr:=Touch.below HBwT.out htc HBwT.out.size (fun k hk=>by have:=HZwT.out; omega)
    have hszb:=bW.size
    obtain ⟨⟨q0,q1,q2,q3⟩,⟨p0,p1,p2,p3⟩,_,_,N0,N1,N2⟩:=HBOX.out wr bW
    have hKL:(keepW M.wc t).length<=t:=keepW_le M.wc t
    by_cases hlt:t < M.wc.length
    ·obtain ⟨E0,hE⟩:∃ E0,eAt eWc M.wc t=E0:=⟨_,rfl⟩
     obtain ⟨L,P,T,D⟩:=E0
     obtain ⟨g,hg1,hg2⟩:=wcS_cells (show ERow eWc wr b (.slice s.a4 M.wc.length s.c4) M.wc from (HM.out wr bW).c)
     obtain ⟨hae,hgl⟩:=hg1 (by omega)
     obtain ⟨k0,k1,k2,k3⟩:=hg2 t L P T D hlt hE wr rfl
     rw [hae] at q3
     have HE:Hid (eAt eWc M.wc t=_):=hE
     have L1:(0:Int)<=(t:Int):=by omega
     have L2:(t:Int) < (M.wc.length:Int):=by omega
     have HTC:Hid (Touch (fun k=>k=(w3.heap.size+1)) wT wr):=htc
     have HGV:Hid (gv=(w3.heap.size+1)\/wT.heap.size<=gv):=hgv
     have HROW:Hid (ERow eWc wr wb.heap.size (.slice (some ⟨gv,0,none⟩) (keepW M.wc t).length cv) (keepW M.wc t)):=hrow
     clear hE hg1 hg2 hae hrow htc hgv bW
     have hks:=keepW_succ M.wc t hlt
     rw [show eAt eWE M.wc t=⟨L,P,T,D⟩ from HE.out] at hks
     dsimp only at hks
     cases D
     ·have HKT:Hid (keepW M.wc (t+1)=keepW M.wc t ++ [⟨L,P,T,false⟩]):=by rw [hks]; rfl
      have HEC:Hid (eWc.enc ⟨L,P,T,false⟩=[.int .i64 L,.int .i64 P,.int .i64 T,.bool false]):=(rfl:eWc.enc ⟨L,P,T,false⟩=[.int .i64 L,.int .i64 P,.int .i64 T,.bool false])
      have HY:Hid (Touch (fun k=>k=(w3.heap.size+1)) wT wr):=HTC
      have HRY:Hid (ERow eWc wr wb.heap.size (.slice (some ⟨gv,0,none⟩) (keepW M.wc t).length cv) (keepW M.wc t)):=HROW
      clear hks
      have HOWN:Hid (wr.ownsRow wb.heap.size 74 4 (.slice (some ⟨gv,0,none⟩) (keepW M.wc t).length cv) (keepW M.wc t).length (ecells eWc (keepW M.wc t))):=HRY.out
      have hyw:wb.heap.size<=wr.heap.size:=by have:=HY.out.size; have:=HBwT.out.size; omega
      go_wp2_with (at_builtin; refine wpList_append_lies _ rfl (.tmp 97) (.tmp 103) 36 rfl wb.heap.size 74 iC _ 4 32 Try.underlying36 hiC hzC0 hzC1 hzC2 rfl (by omega) _ _ _ rfl (World.ownsRow.alloc HOWN.out _) ⟨wr.heap.size,0,none⟩ 1 1 [.int .i64 L,.int .i64 P,.int .i64 T,.bool false] rfl rfl ?c1 ?c2 (by omega) ?c3 ?c4 ?c5 (wr.heap.size+1) ?c6 ?_)
      case c1=>exact World.news_of_block (heap_alloc_new wr (.cells #[.int .i64 L,.int .i64 P,.int .i64 T,.bool false] 74))
      case c2=>intro u hu; simp at hu; rcases hu with rfl | rfl | rfl | rfl <;> rfl
      case c3=>unfold maxLen; omega
      case c4=>omega
      case c5=>simp; omega
      case c6=>simp
      intro g1 cap1 wn hown hgrow hat hlt3
      rw [own_slice] at hgrow hat
      have hnew:ERow eWc wn wb.heap.size (.slice (some ⟨g1,0,none⟩) ((keepW M.wc t).length+1) cap1) ((keepW M.wc t) ++ [⟨L,P,T,false⟩]):=ERow.snocL (m:=(keepW M.wc t).length+1) rfl (by rw [HEC.out]; exact hown)
      have hog:oOf (some (⟨gv,0,none⟩:Addr))=some gv:=rfl
      have hys:=HY.out.size
      have hgn:g1=(w3.heap.size+1)\/wT.heap.size<=g1:=by
       rcases hat with h' | h'
       ·rw [hog] at h'
        obtain rfl:gv=g1:=by simpa using h'
        exact HGV.out
       ·exact .inr (by omega)
      have htn:Touch (fun k=>k=(w3.heap.size+1)) wT wn:=HY.out.then (S':=fun k=>gv=k) ⟨hgrow.os,hgrow.tape,hgrow.output,by have:=hgrow.size; simp at this; omega,fun k hk hn=>(hgrow.block k (by simp; omega) (fun e=>hn (by rw [hog] at e; simpa using e.symm))).trans (heap_alloc_old wr _ hk)⟩ (fun k hk e=>by rcases HGV.out with h' | h' <;> omega)
      have HNEW:Hid (ERow eWc wn wb.heap.size (.slice (some ⟨g1,0,none⟩) ((keepW M.wc t).length+1) cap1) ((keepW M.wc t) ++ [⟨L,P,T,false⟩])):=hnew
      have HGN:Hid (g1=(w3.heap.size+1)\/wT.heap.size<=g1):=hgn
      have HTN:Hid (Touch (fun k=>k=(w3.heap.size+1)) wT wn):=htn
      clear hown hgrow hat hnew hgn htn hys k0 k1 k2 k3 q0 q1 q2 q3 p0 p1 p2 p3
      go_wp2_with fail
      go_roundw
      case rel =>
       refine ⟨t+1,g1,cap1,by omega,by go_num,?_,?_,HGN.out,HTN.out⟩
       ·rw [HKT.out,List.length_append]; rfl
       ·rw [HKT.out,List.length_append]; exact HNEW.out
      case measure=>simp [intOf]; omega
     ·have HKT:Hid (keepW M.wc (t+1)=keepW M.wc t):=by rw [hks]; rfl
      clear hks
      go_wp2_with fail
      go_roundw
      case rel =>
       refine ⟨t+1,gv,cv,by omega,by go_num,?_,?_,HGV.out,HTC.out⟩
       ·rw [HKT.out]
       ·rw [HKT.out]; exact HROW.out
      case measure=>simp [intOf]; omega
    ·obtain rfl:t=M.wc.length:=by omega
     have LF:¬ (M.wc.length:Int) < (M.wc.length:Int):=by omega
     have HLT:=HLAT.out wr (HM.out wr bW)
     have HBwW:Hid (Below wb.heap.size wb wr):=bW
     have HROWW:Hid (ERow eWc wr wb.heap.size (.slice (some ⟨gv,0,none⟩) (keepW M.wc M.wc.length).length cv) (keepW M.wc M.wc.length)):=hrow
     have HGVW:Hid (gv=w3.heap.size+1\/wT.heap.size<=gv):=hgv
     have HTCW:Hid (Touch (fun k=>k=w3.heap.size+1) wT wr):=htc
     have HSW:Hid (wT.heap.size<=wr.heap.size):=hsz
     clear hrow hgv htc bW hsz hszb hKL hlt ht
     go_wp2_with fail
     refine HLT.mono ?_
     rintro e w4 ⟨g4,c4,rfl,hr4,hb4⟩
     have HR4:Hid (ERow eWord w4 wr.heap.size (.slice (some ⟨g4,0,none⟩) M.mem.length c4) (lateL M)):=hr4
     have HB4:Hid (Below wr.heap.size wr w4):=hb4
     have HBN4:Hid (Below wb.heap.size wb w4):=HBwW.out.trans (hb4.mono HBwW.out.size)
     obtain ⟨_,_,⟨r0,r1,r2,r3⟩,⟨z0,z1,z2,z3⟩,N0,N1,N2⟩:=HBOX.out w4 HBN4.out
     clear hr4 hb4 HLT q0 q1 q2 q3 p0 p1 p2 p3
     go_wp2_with fail
     obtain ⟨wS,hwS⟩:∃ wS,wS=((((w4.setCell ⟨w.heap.size+1+1,0,none⟩ (.slice (some ⟨g4,0,none⟩) M.mem.length c4)).setCell ⟨w.heap.size+1+1,1,none⟩ (.slice (some ⟨w4.heap.size,0,none⟩) 0 0)).setCell ⟨w.heap.size+1+1,2,none⟩ (.slice (some ⟨gT,0,none⟩) (keepT M.tlb M.tlb.length).length cT)).setCell ⟨w.heap.size+1+1,3,none⟩ (.slice (some ⟨gv,0,none⟩) (keepW M.wc M.wc.length).length cv)):=⟨_,rfl⟩
     rw [<- hwS]
     have hTS:Touch (fun k=>k=w.heap.size+2) w4 wS:=by
      rw [hwS]
      exact Touch.put (Touch.put (Touch.put (Touch.put (Touch.none _) _ _ (by rfl)) _ _ (by rfl)) _ _ (by rfl)) _ _ (by rfl)
     have hzS:wS.heap.size=w4.heap.size:=by rw [hwS]; simp
     have f0:wS.cell? ⟨w.heap.size+1+1,0,none⟩=some (.slice (some ⟨g4,0,none⟩) M.mem.length c4):=by rw [hwS]; simp [go_sem,r0]
     have f1:wS.cell? ⟨w.heap.size+1+1,1,none⟩=some (.slice (some ⟨w4.heap.size,0,none⟩) 0 0):=by rw [hwS]; simp [go_sem,r1]
     have f2:wS.cell? ⟨w.heap.size+1+1,2,none⟩=some (.slice (some ⟨gT,0,none⟩) (keepT M.tlb M.tlb.length).length cT):=by rw [hwS]; simp [go_sem,r2]
     have f3:wS.cell? ⟨w.heap.size+1+1,3,none⟩=some (.slice (some ⟨gv,0,none⟩) (keepW M.wc M.wc.length).length cv):=by rw [hwS]; simp [go_sem,r3]
     obtain ⟨wF,hwF⟩:∃ wF,wF=wS.alloc (.cells #[] 147):=⟨_,rfl⟩
     rw [<- hwF]
     have bF:Below wS.heap.size wS wF:=by rw [hwF]; exact (Below.refl _ _).alloc (Nat.le_refl _) _
     have F0:wF.cell? ⟨w.heap.size+1+1,0,none⟩=some (.slice (some ⟨g4,0,none⟩) M.mem.length c4):=(bF.cell (by simp; omega)).trans f0
     have F1:wF.cell? ⟨w.heap.size+1+1,1,none⟩=some (.slice (some ⟨w4.heap.size,0,none⟩) 0 0):=(bF.cell (by simp; omega)).trans f1
     have F2:wF.cell? ⟨w.heap.size+1+1,2,none⟩=some (.slice (some ⟨gT,0,none⟩) (keepT M.tlb M.tlb.length).length cT):=(bF.cell (by simp; omega)).trans f2
     have F3:wF.cell? ⟨w.heap.size+1+1,3,none⟩=some (.slice (some ⟨gv,0,none⟩) (keepW M.wc M.wc.length).length cv):=(bF.cell (by simp; omega)).trans f3
     have e1:=HZ.out
     have e2:=HBwW.out.size
     have e3:=HZwT.out
     have e4:=HSW.out
     have rw_:ERow eWord wF w.heap.size (.slice (some ⟨g4,0,none⟩) M.mem.length c4) (lateL M):=((HR4.out.touch hTS (fun k h1 h2=>by have:=(HR4.out.own k h1).1; omega)).below bF).rebase (by omega)
     have rp_:ERow eWrite wF w.heap.size (.slice (some ⟨w4.heap.size,0,none⟩) 0 0) []:=by
      have h:=ERow.empty eWrite wS w.heap.size (by omega)
      rw [hzS] at h
      rw [hwF]
      exact h
     have rt_:ERow eTlb wF w.heap.size (.slice (some ⟨gT,0,none⟩) (keepT M.tlb M.tlb.length).length cT) (keepT M.tlb M.tlb.length):=by
      refine (((((HROWT.out.touch HTCW.out (fun k h1 h2=>?_)).below HB4.out).touch hTS (fun k h1 h2=>?_)).below bF)).rebase (by omega)
      ·have h3:gT=k:=by simpa [Value.ownBlock] using h1
       rcases HGVT.out with h4 | h4 <;> omega
      ·have:=(HROWT.out.own k h1).1; omega
     have rc_:ERow eWc wF w.heap.size (.slice (some ⟨gv,0,none⟩) (keepW M.wc M.wc.length).length cv) (keepW M.wc M.wc.length):=by
      refine (((HROWW.out.below HB4.out).touch hTS (fun k h1 h2=>?_)).below bF).rebase (by omega)
      have:=(HROWW.out.own k h1).1; omega
     rw [keepT_end] at rt_ F2
     rw [keepW_end] at rc_ F3
     have hll:=lateL_length M
     rw [<- hll] at rw_ F0
     have hbF:Below w.heap.size w wF:=(Touch.below (HBB.out.trans (HBN4.out.mono HBB.out.size)) hTS (by omega) (fun k hk=>by omega)).trans (bF.mono (by omega))
     exact bodyPost_ret (v:=.tuple #[.agg #[.slice (some ⟨g4,0,none⟩) (lateL M).length c4,.slice (some ⟨w4.heap.size,0,none⟩) 0 0,.slice (some ⟨gT,0,none⟩) (M.tlb.filter (fun e=>!e.doom)).length cT,.slice (some ⟨gv,0,none⟩) (M.wc.filter (fun e=>!e.doom)).length cv],.int .i64 0]) (by simp [results,Try.results29,go_sem,F0,F1,F2,F3]) rfl ⟨(⟨some ⟨g4,0,none⟩,c4,some ⟨w4.heap.size,0,none⟩,0,some ⟨gT,0,none⟩,cT,some ⟨gv,0,none⟩,cv⟩:SV),rfl,⟨rw_,rp_,rt_,rc_⟩,hbF⟩
end Go.Proofs.Ytnmhkgmmpkjjeaa
namespace Go.Proofs.Ytnmhkgmmpkjjeaa
open Go.ChangeShapes Go.WideShapes Go.ChangeAt Go.RowKit
set_option linter.unusedVariables false
theorem specStep_any (s:SV) (M:Mach) (b:Nat) (o:OpE) (w:World) (hk:MOk M) (hs:M.Small) (ho:OpOk o) (h:MRow w b (s.mv M) M) :
  Calls Try.prog 29 #[.agg #[.slice s.a1 M.mem.length s.c1,.slice s.a2 M.pend.length s.c2,.slice s.a3 M.tlb.length s.c3,.slice s.a4 M.wc.length s.c4],.agg #[.int .i64 o.kind,.int .i64 o.a,.int .i64 o.b,.int .u64 o.word]] w fun e w'=>∃ s':SV,e=.returned (.tuple #[.agg #[.slice s'.a1 (stepR M o).1.mem.length s'.c1,.slice s'.a2 (stepR M o).1.pend.length s'.c2,.slice s'.a3 (stepR M o).1.tlb.length s'.c3,.slice s'.a4 (stepR M o).1.wc.length s'.c4],.int .i64 (stepR M o).2])/\MRow w' w.heap.size (s'.mv (stepR M o).1) (stepR M o).1/\Below w.heap.size w w':=by
 have ho1:=ho.w.1
 have ho2:o.word < 18446744073709551616:=by have:=ho.w.2; omega
 obtain ⟨K,A,Bb,W⟩:=o
 dsimp only at ho1 ho2 ⊢
 cases hv:validB M with
 | false =>
  have e:stepR M ⟨K,A,Bb,W⟩=(zM,9):=by unfold stepR; rw [hv]; rfl
  rw [e]
  exact stepS_bad s M b K A Bb W w hs hv h
 | true =>
  have hok:=WOk.of hk hv
  have e:stepR M ⟨K,A,Bb,W⟩=opM M ⟨K,A,Bb,W⟩:=by unfold stepR; rw [hv]; rfl
  rw [e]
  cases hop:opB M ⟨K,A,Bb,W⟩ with
  | false =>
   have e:opM M ⟨K,A,Bb,W⟩=(M,1):=by unfold opM; rw [if_pos hop]
   rw [e]
   exact stepS_ill s M b K A Bb W w hs hv hop h
  | true =>
   have hno:¬ opB M ⟨K,A,Bb,W⟩=false:=by rw [hop]; decide
   by_cases k1:K=1
   ·subst k1
    have hA:0<=A/\A < M.mem.length:=by
     have:=hop
     unfold opB at this
     rw [if_pos rfl] at this
     have:=of_decide_eq_true this
     exact ⟨this.1,this.2.1⟩
    obtain ⟨a,ha⟩:∃ a:Nat,A=a:=⟨A.toNat,by omega⟩
    have e:opM M ⟨1,A,Bb,W⟩=(if wrCode M ⟨1,A,Bb,W⟩=0 then ⟨M.mem,M.pend ++ [⟨A,W⟩],M.tlb,M.wc⟩ else M,wrCode M ⟨1,A,Bb,W⟩):=by
     unfold opM
     rw [if_neg hno,if_pos rfl]
    rw [e]
    have hcod:∀ wX,MRow wX b (s.mv M) M->Calls Try.prog 83 #[.agg #[.slice s.a1 M.mem.length s.c1,.slice s.a2 M.pend.length s.c2,.slice s.a3 M.tlb.length s.c3,.slice s.a4 M.wc.length s.c4],.agg #[.int .i64 1,.int .i64 A,.int .i64 Bb,.int .u64 W]] wX fun e w'=>e=.returned (.int .i64 (wrCode M ⟨1,A,Bb,W⟩))/\Below wX.heap.size wX w':=fun wX hX=>by
     have:=wrCodeS_any s M b ⟨1,A,Bb,W⟩ a W wX hs hok hv ha rfl (by omega) ho1 ho2 hX
     rw [ha] at this ⊢
     exact this
    by_cases hc:wrCode M ⟨1,A,Bb,W⟩=0
    ·rw [if_pos hc]
     rw [hc] at hcod ⊢
     exact stepS_wryes s M b A Bb W w hs hv hop hcod h
    ·rw [if_neg hc]
     exact stepS_wrno s M b A Bb W w hs hv hop _ hc hcod h
   ·by_cases k2:K=2
    ·subst k2
     have e:opM M ⟨2,A,Bb,W⟩=(⟨lateL M,[],M.tlb.filter (fun e=>!e.doom),M.wc.filter (fun e=>!e.doom)⟩,0):=by
      unfold opM
      rw [if_neg hno,if_neg k1,if_pos rfl]
     rw [e]
     exact stepS_dsb s M b A Bb W w hs hv hok hop h
    ·by_cases k3:K=3
     ·subst k3
      have e:opM M ⟨3,A,Bb,W⟩=(⟨M.mem,M.pend,M.tlb.map (doomT A Bb),M.wc.map (doomW A Bb)⟩,0):=by
       unfold opM
       rw [if_neg hno,if_neg k1,if_neg k2,if_pos rfl]
      rw [e]
      exact stepS_tlbi s M b A Bb W w hs hv hop h
     ·by_cases k4:K=4
      ·subst k4
       have e:opM M ⟨4,A,Bb,W⟩=(M,if inUse M A then 4 else 0):=by
        unfold opM
        rw [if_neg hno,if_neg k1,if_neg k2,if_neg k3]
       rw [e]
       exact stepS_free s M b A Bb W w hs hv hok hop _ rfl h
      ·exfalso
       unfold opB at hop
       rw [if_neg k1,if_neg k2,if_neg k3,if_neg k4] at hop
       exact absurd hop (by decide)
end Go.Proofs.Ytnmhkgmmpkjjeaa
