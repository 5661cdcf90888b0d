import Derived.Test.YtiiejckfcnmhoabGreatQ28
import Derived.Test.YtiiejckfcnmhoabGreatQ06
namespace Go.Proofs.YtiiejckfcnmhoabGreat
open Go.ChangeShapes Go.WideShapes Go.ChangeAt Go.RowKit
set_option linter.unusedVariables false
attribute [local go_sem ↓] Go.wp_at_zero Go.wp_at_succ
theorem fnexactexec_big (s:SV) (M:Mach) (oa ea:Option Addr) (oc ec:Nat) (ops:List OpE) (evs:List EventE) (w:World) (h1:M.mem.length<=9223372036854775807) (h2:M.pend.length<=9223372036854775807) (h3:M.tlb.length<=9223372036854775807) (h4:M.wc.length<=9223372036854775807) (h5:ops.length<=9223372036854775807) (h6:evs.length<=9223372036854775807) (hb:¬ M.mem.length+M.pend.length+M.tlb.length+M.wc.length+ops.length+evs.length<=1048576) :
  Calls Tryz.prog 5 #[.agg #[.slice s.a1 M.mem.length s.c1,.slice s.a2 M.pend.length s.c2,.slice s.a3 M.tlb.length s.c3,.slice s.a4 M.wc.length s.c4],.slice oa ops.length oc,.slice ea evs.length ec] w fun e w'=>e=.returned (.bool true)/\Below w.heap.size w w':=by
 have hsz:=szMachine_any s.a1 s.a2 s.a3 s.a4 M.mem.length M.pend.length M.tlb.length M.wc.length s.c1 s.c2 s.c3 s.c4 h1 h2 h3 h4
 by_cases k1:M.mem.length+M.pend.length+M.tlb.length+M.wc.length<=1048576
 ·rw [if_pos k1] at hsz
  have d1:decide ((1048576 - (M.mem.length:Int) - M.pend.length - M.tlb.length - M.wc.length) < 0)=false:=by simp; omega
  have hso:=szOp_any oa ops.length oc (1048576 - (M.mem.length:Int) - M.pend.length - M.tlb.length - M.wc.length) h5 (by omega) (by omega)
  by_cases k2:(ops.length:Int)<=(1048576 - (M.mem.length:Int) - M.pend.length - M.tlb.length - M.wc.length)
  ·rw [if_pos k2] at hso
   have d2:decide ((1048576 - (M.mem.length:Int) - M.pend.length - M.tlb.length - M.wc.length) - (ops.length:Int) < 0)=false:=by simp; omega
   have hse:=szEvent_any ea evs.length ec ((1048576 - (M.mem.length:Int) - M.pend.length - M.tlb.length - M.wc.length) - ops.length) h6 (by omega) (by omega)
   rw [if_neg (by omega)] at hse
   clear k1 k2 hb
   go_enter Tryz.func5,Tryz.ntmps5
   go_wp2_with (first
  | (go_at_call 6; refine (hsz _).mono ?_; rintro e w1 ⟨rfl,hb1⟩)
  | (go_at_call 17; refine (hso _).mono ?_; rintro e w2 ⟨rfl,rfl⟩)
  | (go_at_call 18; refine (hse _).mono ?_; rintro e w3 ⟨rfl,rfl⟩))
   go_ret
   exact ⟨rfl,bal.trans (hb1.mono (by simp))⟩
  ·rw [if_neg k2] at hso
   have hse:=hso
   clear k1 k2 hb hse
   go_enter Tryz.func5,Tryz.ntmps5
   go_wp2_with (first
  | (go_at_call 6; refine (hsz _).mono ?_; rintro e w1 ⟨rfl,hb1⟩)
  | (go_at_call 17; refine (hso _).mono ?_; rintro e w2 ⟨rfl,rfl⟩))
   go_ret
   exact ⟨rfl,bal.trans (hb1.mono (by simp))⟩
 ·rw [if_neg k1] at hsz
  clear k1 hb
  go_enter Tryz.func5,Tryz.ntmps5
  go_wp2_with (first
  | (go_at_call 6; refine (hsz _).mono ?_; rintro e w1 ⟨rfl,hb1⟩))
  go_ret
  exact ⟨rfl,bal.trans (hb1.mono (by simp))⟩
set_option maxHeartbeats 8000000 in
theorem fnexactexec_walk (s:SV) (M:Mach) (R:XS) (oa ea:Option Addr) (oc ec:Nat) (ops:List OpE) (evs:List EventE) (w:World) (hsm:M.Small) (z1:R.M.Small) (z2:R.seen.length<=1048576) (hsum:M.mem.length+M.pend.length+M.tlb.length+M.wc.length+ops.length+evs.length<=1048576) (hv:MSrc w (s.mv M) M) (hvo:ESrc eOp w (.slice oa ops.length oc) ops) (hve:ESrc eEvent w (.slice ea evs.length ec) evs)
  (hS:∀ (s:SV) (b bo be:Nat) (oa ea:Option Addr) (oc ec:Nat) (w:World),MRow w b (s.mv M) M->ERow eOp w bo (.slice oa ops.length oc) ops->ERow eEvent w be (.slice ea evs.length ec) evs->Calls Tryz.prog 19 #[.agg #[.slice s.a1 M.mem.length s.c1,.slice s.a2 M.pend.length s.c2,.slice s.a3 M.tlb.length s.c3,.slice s.a4 M.wc.length s.c4],.slice oa ops.length oc,.slice ea evs.length ec] w fun e w'=>∃ (s':SV) (sa:Option Addr) (sc:Nat),e=.returned (.agg #[.int .i64 R.code,.int .i64 (R.at':Int),.slice s'.a1 R.M.mem.length s'.c1,.slice s'.a2 R.M.pend.length s'.c2,.slice s'.a3 R.M.tlb.length s'.c3,.slice s'.a4 R.M.wc.length s'.c4,.slice sa R.seen.length sc])/\MRow w' w.heap.size (s'.mv R.M) R.M/\ERow eSeen w' w.heap.size (.slice sa R.seen.length sc) R.seen/\Below w.heap.size w w')
  (hI:∀ (s:SV) (b bo be:Nat) (oa ea:Option Addr) (oc ec:Nat) (w:World),MRow w b (s.mv M) M->ERow eOp w bo (.slice oa ops.length oc) ops->ERow eEvent w be (.slice ea evs.length ec) evs->Calls Tryz.prog 22 #[.agg #[.slice s.a1 M.mem.length s.c1,.slice s.a2 M.pend.length s.c2,.slice s.a3 M.tlb.length s.c3,.slice s.a4 M.wc.length s.c4],.slice oa ops.length oc,.slice ea evs.length ec] w fun e w'=>∃ (s':SV) (sa:Option Addr) (sc:Nat),e=.returned (.agg #[.int .i64 R.code,.int .i64 (R.at':Int),.slice s'.a1 R.M.mem.length s'.c1,.slice s'.a2 R.M.pend.length s'.c2,.slice s'.a3 R.M.tlb.length s'.c3,.slice s'.a4 R.M.wc.length s'.c4,.slice sa R.seen.length sc])/\MRow w' w.heap.size (s'.mv R.M) R.M/\ERow eSeen w' w.heap.size (.slice sa R.seen.length sc) R.seen/\(s'.mv R.M).apart/\(∀ k,oOf sa=some k->¬ (s'.mv R.M).owns k)/\Below w.heap.size w w') :
  Calls Tryz.prog 5 #[.agg #[.slice s.a1 M.mem.length s.c1,.slice s.a2 M.pend.length s.c2,.slice s.a3 M.tlb.length s.c3,.slice s.a4 M.wc.length s.c4],.slice oa ops.length oc,.slice ea evs.length ec] w fun e w'=>e=.returned (.bool true)/\Below w.heap.size w w':=by
 have y1:=hsm.w
 have y2:=hsm.p
 have y3:=hsm.t
 have y4:=hsm.c
 have x1:=z1.w
 have x2:=z1.p
 have x3:=z1.t
 have x4:=z1.c
 have hsz:=szMachine_any s.a1 s.a2 s.a3 s.a4 M.mem.length M.pend.length M.tlb.length M.wc.length s.c1 s.c2 s.c3 s.c4 (by omega) (by omega) (by omega) (by omega)
 rw [if_pos (by omega)] at hsz
 have d1:decide ((1048576 - (M.mem.length:Int) - M.pend.length - M.tlb.length - M.wc.length) < 0)=false:=by simp; omega
 have hso:=szOp_any oa ops.length oc (1048576 - (M.mem.length:Int) - M.pend.length - M.tlb.length - M.wc.length) (by omega) (by omega) (by omega)
 rw [if_pos (by omega)] at hso
 have d2:decide ((1048576 - (M.mem.length:Int) - M.pend.length - M.tlb.length - M.wc.length) - (ops.length:Int) < 0)=false:=by simp; omega
 have hse:=szEvent_any ea evs.length ec ((1048576 - (M.mem.length:Int) - M.pend.length - M.tlb.length - M.wc.length) - ops.length) (by omega) (by omega) (by omega)
 rw [if_pos (by omega)] at hse
 have d3:decide ((1048576 - (M.mem.length:Int) - M.pend.length - M.tlb.length - M.wc.length) - (ops.length:Int) - (evs.length:Int) < 0)=false:=by simp; omega
 obtain ⟨wb,hwb⟩:∃ wb,wb=w.alloc (.cells #[.slice s.a1 M.mem.length s.c1,.slice s.a2 M.pend.length s.c2,.slice s.a3 M.tlb.length s.c3,.slice s.a4 M.wc.length s.c4] 29):=⟨_,rfl⟩
 have hbb:Below w.heap.size w wb:=by rw [hwb]; exact bal
 have hzb:wb.heap.size=w.heap.size+1:=by rw [hwb]; simp
 have HBOX:Hid (∀ wX,Below wb.heap.size wb wX->(wX.cell? ⟨w.heap.size,0,none⟩=some (.slice s.a1 M.mem.length s.c1)/\wX.cell? ⟨w.heap.size,1,none⟩=some (.slice s.a2 M.pend.length s.c2)/\wX.cell? ⟨w.heap.size,2,none⟩=some (.slice s.a3 M.tlb.length s.c3)/\wX.cell? ⟨w.heap.size,3,none⟩=some (.slice s.a4 M.wc.length s.c4))/\w.heap.size < wX.heap.size):=fun wX hX=>by
  refine ⟨⟨?_,?_,?_,?_⟩,by have:=hX.size; omega⟩
  iterate 4 (exact (hX.cell (by simp; omega)).trans (by rw [hwb]; simp [go_sem]))
 have HTO:Hid (∀ wX,Below wb.heap.size wb wX->Calls Tryz.prog 8 #[.agg #[.slice s.a1 M.mem.length s.c1,.slice s.a2 M.pend.length s.c2,.slice s.a3 M.tlb.length s.c3,.slice s.a4 M.wc.length s.c4]] wX fun e w'=>∃ s':SV,e=.returned (.agg #[.slice s'.a1 M.mem.length s'.c1,.slice s'.a2 M.pend.length s'.c2,.slice s'.a3 M.tlb.length s'.c3,.slice s'.a4 M.wc.length s'.c4])/\MRow w' wX.heap.size (s'.mv M) M/\(s'.mv M).apart/\Below wX.heap.size wX w'):=fun wX hX=>toMachine_s s M wX hsm (hv.at (hbb.trans (hX.mono (by omega))))
 have HTP:Hid (∀ wX,Below wb.heap.size wb wX->Calls Tryz.prog 20 #[.slice oa ops.length oc] wX fun e w'=>e=.returned (.slice (some ⟨wX.heap.size,0,none⟩) ops.length ops.length)/\ERow eOp w' wX.heap.size (.slice (some ⟨wX.heap.size,0,none⟩) ops.length ops.length) ops/\Below wX.heap.size wX w'):=fun wX hX=>toOpS_any _ ops wX (hvo.at (hbb.trans (hX.mono (by omega)))) (by omega)
 have HTE:Hid (∀ wX,Below wb.heap.size wb wX->Calls Tryz.prog 21 #[.slice ea evs.length ec] wX fun e w'=>e=.returned (.slice (some ⟨wX.heap.size,0,none⟩) evs.length evs.length)/\ERow eEvent w' wX.heap.size (.slice (some ⟨wX.heap.size,0,none⟩) evs.length evs.length) evs/\Below wX.heap.size wX w'):=fun wX hX=>toEventS_any _ evs wX (hve.at (hbb.trans (hX.mono (by omega)))) (by omega)
 have HB0:Hid (Below w.heap.size w wb):=hbb
 have HZB:Hid (wb.heap.size=w.heap.size+1):=hzb
 have HWB:Hid (wb=_):=hwb
 have HS:Hid _:=hS
 have HI:Hid _:=hI
 have hs1:=hsz wb
 rw [hwb] at hs1
 clear hwb hbb hzb hv hvo hve hS hI hsz
 go_enter Tryz.func5,Tryz.ntmps5
 go_wp2_with fail
 refine hs1.mono ?_
 rintro e w1 ⟨rfl,hb1'⟩
 have hb1:Below wb.heap.size wb w1:=by rw [HWB.out]; exact hb1'
 obtain ⟨⟨p0,p1,p2,p3⟩,N0⟩:=HBOX.out w1 hb1
 have HB1:Hid (Below wb.heap.size wb w1):=hb1
 clear hb1' hb1 hs1
 go_wp2_with (first | (go_at_call 17; refine (hso _).mono ?_; rintro e w2 ⟨rfl,hw2⟩; obtain rfl:=hw2.symm) | (go_at_call 18; refine (hse _).mono ?_; rintro e w2 ⟨rfl,hw2⟩; obtain rfl:=hw2.symm))
 refine (HTO.out w1 HB1.out).mono ?_
 rintro e aQ ⟨sQ,rfl,hm,_,hb⟩
 have HBaQ:Hid (Below wb.heap.size wb aQ):=HB1.out.trans (hb.mono HB1.out.size)
 have HMaQ:Hid (MRow aQ wb.heap.size (sQ.mv M) M/\w1.heap.size<=aQ.heap.size):=⟨hm.rebase HB1.out.size,hb.size⟩
 have HDaQ:Hid (Below w1.heap.size w1 aQ):=hb
 clear hm hb
 go_wp2_with fail
 refine (HTP.out aQ HBaQ.out).mono ?_
 rintro e bQ ⟨rfl,ho,hb⟩
 have HBbQ:Hid (Below wb.heap.size wb bQ):=HBaQ.out.trans (hb.mono HBaQ.out.size)
 have HMbQ:Hid (MRow bQ wb.heap.size (sQ.mv M) M/\ERow eOp bQ aQ.heap.size (.slice (some ⟨aQ.heap.size,0,none⟩) ops.length ops.length) ops):=⟨HMaQ.out.1.below hb,ho⟩
 have HDbQ:Hid (Below w1.heap.size w1 bQ):=HDaQ.out.trans (hb.mono HDaQ.out.size)
 clear ho hb
 go_wp2_with fail
 refine (HTE.out bQ HBbQ.out).mono ?_
 rintro e cQ ⟨rfl,hv,hb⟩
 have HBcQ:Hid (Below wb.heap.size wb cQ):=HBbQ.out.trans (hb.mono HBbQ.out.size)
 have HDcQ:Hid (Below w1.heap.size w1 cQ):=HDbQ.out.trans (hb.mono HDbQ.out.size)
 have HMcQ:Hid (MRow cQ wb.heap.size (sQ.mv M) M/\ERow eOp cQ aQ.heap.size (.slice (some ⟨aQ.heap.size,0,none⟩) ops.length ops.length) ops/\ERow eEvent cQ bQ.heap.size (.slice (some ⟨bQ.heap.size,0,none⟩) evs.length evs.length) evs):=⟨HMbQ.out.1.below hb,HMbQ.out.2.below hb,hv⟩
 clear hv hb
 go_wp2_with fail
 refine (HS.out sQ _ _ _ _ _ _ _ cQ HMcQ.out.1 HMcQ.out.2.1 HMcQ.out.2.2).mono ?_
 rintro e w5 ⟨sw,wa,wc,rfl,hm,hsr,hb⟩
 obtain ⟨wS,hwS⟩:∃ x,x=w5.alloc (.cells #[.int .i64 R.code,.int .i64 (R.at':Int),.slice sw.a1 R.M.mem.length sw.c1,.slice sw.a2 R.M.pend.length sw.c2,.slice sw.a3 R.M.tlb.length sw.c3,.slice sw.a4 R.M.wc.length sw.c4,.slice wa R.seen.length wc] 60):=⟨_,rfl⟩
 have ba:Below w5.heap.size w5 wS:=by rw [hwS]; exact bal
 have hzwS:wS.heap.size=w5.heap.size+1:=by rw [hwS]; simp
 have HQwS:Hid (wS.cell? ⟨w5.heap.size,0,none⟩=some (.int .i64 R.code)/\wS.cell? ⟨w5.heap.size,1,none⟩=some (.int .i64 (R.at':Int))/\wS.cell? ⟨w5.heap.size,2,none⟩=some (.slice sw.a1 R.M.mem.length sw.c1)/\wS.cell? ⟨w5.heap.size,3,none⟩=some (.slice sw.a2 R.M.pend.length sw.c2)/\wS.cell? ⟨w5.heap.size,4,none⟩=some (.slice sw.a3 R.M.tlb.length sw.c3)/\wS.cell? ⟨w5.heap.size,5,none⟩=some (.slice sw.a4 R.M.wc.length sw.c4)/\wS.cell? ⟨w5.heap.size,6,none⟩=some (.slice wa R.seen.length wc)):=hidOf <| by
  refine ⟨?_,?_,?_,?_,?_,?_,?_⟩ <;> (rw [hwS]; simp [go_sem])
 have HRwS:Hid (MRow wS cQ.heap.size (sw.mv R.M) R.M/\ERow eSeen wS cQ.heap.size (.slice wa R.seen.length wc) R.seen):=⟨hm.below ba,hsr.below ba⟩
 have HZwS:Hid (wS.heap.size=w5.heap.size+1):=hzwS
 have HWwS:Hid (wS=w5.alloc (.cells #[.int .i64 R.code,.int .i64 (R.at':Int),.slice sw.a1 R.M.mem.length sw.c1,.slice sw.a2 R.M.pend.length sw.c2,.slice sw.a3 R.M.tlb.length sw.c3,.slice sw.a4 R.M.wc.length sw.c4,.slice wa R.seen.length wc] 60)):=hwS
 have HBS:Hid (Below wb.heap.size wb wS):=HBcQ.out.trans ((hb.trans (ba.mono hb.size)).mono HBcQ.out.size)
 have HCS:Hid (wb.heap.size<=cQ.heap.size/\cQ.heap.size<=w5.heap.size):=⟨HBcQ.out.size,hb.size⟩
 obtain ⟨⟨p0,p1,p2,p3⟩,N0⟩:=HBOX.out w5 (HBcQ.out.trans (hb.mono HBcQ.out.size))
 clear hm hsr hb ba hzwS hwS
 go_wp2_with fail
 rw [<- HWwS.out]
 refine (HTO.out wS HBS.out).mono ?_
 rintro e w6 ⟨sx,rfl,hm,hap,hb⟩
 obtain ⟨wY,hwY⟩:∃ x,x=w6.alloc (.cells #[.slice sx.a1 M.mem.length sx.c1,.slice sx.a2 M.pend.length sx.c2,.slice sx.a3 M.tlb.length sx.c3,.slice sx.a4 M.wc.length sx.c4] 36):=⟨_,rfl⟩
 have ba:Below w6.heap.size w6 wY:=by rw [hwY]; exact bal
 have hzY:wY.heap.size=w6.heap.size+1:=by rw [hwY]; simp
 have HQY:Hid (wY.cell? ⟨w6.heap.size,0,none⟩=some (.slice sx.a1 M.mem.length sx.c1)/\wY.cell? ⟨w6.heap.size,1,none⟩=some (.slice sx.a2 M.pend.length sx.c2)/\wY.cell? ⟨w6.heap.size,2,none⟩=some (.slice sx.a3 M.tlb.length sx.c3)/\wY.cell? ⟨w6.heap.size,3,none⟩=some (.slice sx.a4 M.wc.length sx.c4)):=hidOf <| by
  refine ⟨?_,?_,?_,?_⟩ <;> (rw [hwY]; simp [go_sem])
 have HRY:Hid (MRow wY wS.heap.size (sx.mv M) M/\(sx.mv M).apart/\(∀ k,(sx.mv M).owns k->wS.heap.size<=k/\k < w6.heap.size)):=⟨hm.below ba,hap,hm.own⟩
 have HDY:Hid (Below wS.heap.size wS wY):=hb.trans (ba.mono hb.size)
 have HBY:Hid (Below wb.heap.size wb wY):=HBS.out.trans (HDY.out.mono HBS.out.size)
 have HZY:Hid (wY.heap.size=w6.heap.size+1/\wS.heap.size<=w6.heap.size):=⟨hzY,hb.size⟩
 have HWY:Hid (wY=w6.alloc (.cells #[.slice sx.a1 M.mem.length sx.c1,.slice sx.a2 M.pend.length sx.c2,.slice sx.a3 M.tlb.length sx.c3,.slice sx.a4 M.wc.length sx.c4] 36)):=hwY
 obtain ⟨⟨p0,p1,p2,p3⟩,N0⟩:=HBOX.out w6 (HBS.out.trans (hb.mono HBS.out.size))
 clear hm hap hb ba hzY hwY
 go_wp2_with fail
 rw [<- HWY.out]
 refine (HTP.out wY HBY.out).mono ?_
 rintro e w7 ⟨rfl,ho,hb⟩
 have HB7:Hid (Below wb.heap.size wb w7):=HBY.out.trans (hb.mono HBY.out.size)
 have HD7:Hid (Below wY.heap.size wY w7):=hb
 have HO7:Hid (ERow eOp w7 wY.heap.size (.slice (some ⟨wY.heap.size,0,none⟩) ops.length ops.length) ops):=ho
 clear ho hb
 go_wp2_with fail
 refine (HTE.out w7 HB7.out).mono ?_
 rintro e wX ⟨rfl,hv,hb⟩
 have HBX:Hid (Below wb.heap.size wb wX):=HB7.out.trans (hb.mono HB7.out.size)
 have HDX:Hid (Below wY.heap.size wY wX):=HD7.out.trans (hb.mono HD7.out.size)
 have HE7:Hid (ERow eEvent wX w7.heap.size (.slice (some ⟨w7.heap.size,0,none⟩) evs.length evs.length) evs):=hv
 have HO7X:Hid (ERow eOp wX wY.heap.size (.slice (some ⟨wY.heap.size,0,none⟩) ops.length ops.length) ops):=HO7.out.below hb
 have HZX:Hid (wY.heap.size < w7.heap.size/\w7.heap.size < wX.heap.size):=⟨(HO7.out.own _ rfl).2,(hv.own _ rfl).2⟩
 have HMX:Hid (MRow wX wS.heap.size (sx.mv M) M):=HRY.out.1.below HDX.out
 obtain ⟨a0,a1,a2,a3⟩:=HQY.out
 have hnX:w6.heap.size < wX.heap.size:=by have:=HZY.out; have:=HZX.out; omega
 have hbY:∀ j,wX.cell? ⟨w6.heap.size,j,none⟩=wY.cell? ⟨w6.heap.size,j,none⟩:=fun j=>HDX.out.cell (by have:=HZY.out; show w6.heap.size < wY.heap.size; omega)
 have a0:=(hbY 0).trans a0
 have a1:=(hbY 1).trans a1
 have a2:=(hbY 2).trans a2
 have a3:=(hbY 3).trans a3
 clear hv hb hbY
 go_wp2_with fail
 refine (HI.out sx _ _ _ _ _ _ _ wX HMX.out HO7X.out HE7.out).mono ?_
 rintro e w8 ⟨sg,ga,gc,rfl,hm,hsr,hap,hng,hb⟩
 obtain ⟨wG,hwG⟩:∃ x,x=w8.alloc (.cells #[.int .i64 R.code,.int .i64 (R.at':Int),.slice sg.a1 R.M.mem.length sg.c1,.slice sg.a2 R.M.pend.length sg.c2,.slice sg.a3 R.M.tlb.length sg.c3,.slice sg.a4 R.M.wc.length sg.c4,.slice ga R.seen.length gc] 60):=⟨_,rfl⟩
 have ba:Below w8.heap.size w8 wG:=by rw [hwG]; exact bal
 have hzwG:wG.heap.size=w8.heap.size+1:=by rw [hwG]; simp
 have HQwG:Hid (wG.cell? ⟨w8.heap.size,0,none⟩=some (.int .i64 R.code)/\wG.cell? ⟨w8.heap.size,1,none⟩=some (.int .i64 (R.at':Int))/\wG.cell? ⟨w8.heap.size,2,none⟩=some (.slice sg.a1 R.M.mem.length sg.c1)/\wG.cell? ⟨w8.heap.size,3,none⟩=some (.slice sg.a2 R.M.pend.length sg.c2)/\wG.cell? ⟨w8.heap.size,4,none⟩=some (.slice sg.a3 R.M.tlb.length sg.c3)/\wG.cell? ⟨w8.heap.size,5,none⟩=some (.slice sg.a4 R.M.wc.length sg.c4)/\wG.cell? ⟨w8.heap.size,6,none⟩=some (.slice ga R.seen.length gc)):=hidOf <| by
  refine ⟨?_,?_,?_,?_,?_,?_,?_⟩ <;> (rw [hwG]; simp [go_sem])
 have HRwG:Hid (MRow wG wX.heap.size (sg.mv R.M) R.M/\ERow eSeen wG wX.heap.size (.slice ga R.seen.length gc) R.seen):=⟨hm.below ba,hsr.below ba⟩
 have HZwG:Hid (wG.heap.size=w8.heap.size+1):=hzwG
 have HWwG:Hid (wG=w8.alloc (.cells #[.int .i64 R.code,.int .i64 (R.at':Int),.slice sg.a1 R.M.mem.length sg.c1,.slice sg.a2 R.M.pend.length sg.c2,.slice sg.a3 R.M.tlb.length sg.c3,.slice sg.a4 R.M.wc.length sg.c4,.slice ga R.seen.length gc] 60)):=hwG
 have HDG:Hid (Below wX.heap.size wX wG):=hb.trans (ba.mono hb.size)
 have HAPG:Hid ((sg.mv R.M).apart/\(∀ k,oOf ga=some k->¬ (sg.mv R.M).owns k)):=⟨hap,hng⟩
 have HXG:Hid (wX.heap.size<=w8.heap.size):=hb.size
 have HOG:Hid ((∀ k,(sg.mv R.M).owns k->wX.heap.size<=k/\k < w8.heap.size)/\∀ k,oOf ga=some k->wX.heap.size<=k/\k < w8.heap.size):=⟨hm.own,hsr.ownA⟩
 have HSG:Hid (Below wS.heap.size wS wG):=HDY.out.trans ((HDX.out.trans (HDG.out.mono HDX.out.size)).mono HDY.out.size)
 have HBG:Hid (Below wb.heap.size wb wG):=HBX.out.trans (HDG.out.mono HBX.out.size)
 obtain ⟨g0,g1,g2,g3,g4,g5,g6⟩:=HQwG.out
 obtain ⟨u0,u1,u2,u3,u4,u5,u6⟩:=HQwS.out
 have hcu:∀ j,wG.cell? ⟨w5.heap.size,j,none⟩=wS.cell? ⟨w5.heap.size,j,none⟩:=fun j=>HSG.out.cell (by have:=HZwS.out; show w5.heap.size < wS.heap.size; omega)
 have u0:=(hcu 0).trans u0
 have u1:=(hcu 1).trans u1
 have u2:=(hcu 2).trans u2
 have u3:=(hcu 3).trans u3
 have u4:=(hcu 4).trans u4
 have u5:=(hcu 5).trans u5
 have u6:=(hcu 6).trans u6
 have hn5:w5.heap.size < wG.heap.size:=by have:=HSG.out.size; have:=HZwS.out; omega
 have hn8:w8.heap.size < wG.heap.size:=by have:=HZwG.out; omega
 have heq:=eqOutcome_same R sg sw ga wa gc wc _ _ wG z1 z2 HRwG.out.1 HRwG.out.2 (HRwS.out.1.below HSG.out) (HRwS.out.2.below HSG.out)
 rw [HWwG.out] at heq u0 u1 u2 u3 u4 u5 u6
 clear hm hsr hap hng hb ba hzwG hwG hcu a0 a1 a2 a3
 go_wp2_with fail
 refine heq.mono ?_
 rintro e w9 ⟨rfl,hb9'⟩
 have hb9:Below wG.heap.size wG w9:=by rw [HWwG.out]; exact hb9'
 have HD9:Hid (Below wG.heap.size wG w9):=hb9
 have HX9:Hid (Below wX.heap.size wX w9):=HDG.out.trans (hb9.mono HDG.out.size)
 have HB9:Hid (Below wb.heap.size wb w9):=HBG.out.trans (hb9.mono HBG.out.size)
 have HKP:Hid (∀ wZ,Below w9.heap.size w9 wZ->(wZ.cell? ⟨w6.heap.size,0,none⟩=some (.slice sx.a1 M.mem.length sx.c1)/\wZ.cell? ⟨w6.heap.size,1,none⟩=some (.slice sx.a2 M.pend.length sx.c2)/\wZ.cell? ⟨w6.heap.size,2,none⟩=some (.slice sx.a3 M.tlb.length sx.c3)/\wZ.cell? ⟨w6.heap.size,3,none⟩=some (.slice sx.a4 M.wc.length sx.c4))/\(wZ.cell? ⟨w.heap.size,0,none⟩=some (.slice s.a1 M.mem.length s.c1)/\wZ.cell? ⟨w.heap.size,1,none⟩=some (.slice s.a2 M.pend.length s.c2)/\wZ.cell? ⟨w.heap.size,2,none⟩=some (.slice s.a3 M.tlb.length s.c3)/\wZ.cell? ⟨w.heap.size,3,none⟩=some (.slice s.a4 M.wc.length s.c4))):=fun wZ hZ=>by
  have hX:=HX9.out.trans (hZ.mono HX9.out.size)
  have hbY:∀ j,wZ.cell? ⟨w6.heap.size,j,none⟩=wY.cell? ⟨w6.heap.size,j,none⟩:=fun j=>(HDX.out.trans (hX.mono HDX.out.size)).cell (by have:=HZY.out; show w6.heap.size < wY.heap.size; omega)
  obtain ⟨a0,a1,a2,a3⟩:=HQY.out
  exact ⟨⟨(hbY 0).trans a0,(hbY 1).trans a1,(hbY 2).trans a2,(hbY 3).trans a3⟩,(HBOX.out wZ (HB9.out.trans (hZ.mono HB9.out.size))).1⟩
 have HMX9:Hid (∀ wZ,Below w9.heap.size w9 wZ->MRow wZ wS.heap.size (sx.mv M) M):=fun wZ hZ=>HMX.out.below (HX9.out.trans (hZ.mono HX9.out.size))
 obtain ⟨⟨a0,a1,a2,a3⟩,p0,p1,p2,p3⟩:=HKP.out w9 br
 have hn6:w6.heap.size < w9.heap.size:=by have:=HX9.out.size; omega
 have hn9:w.heap.size < w9.heap.size:=(HBOX.out w9 HB9.out).2
 clear heq hb9' hb9 g0 g1 g2 g3 g4 g5 g6 u0 u1 u2 u3 u4 u5 u6
 go_wp2_with fail
 go_region_held3 (fun w'=>(w'.cell? ⟨w6.heap.size,0,none⟩=some (.slice sx.a1 M.mem.length sx.c1)/\w'.cell? ⟨w6.heap.size,1,none⟩=some (.slice sx.a2 M.pend.length sx.c2)/\w'.cell? ⟨w6.heap.size,2,none⟩=some (.slice sx.a3 M.tlb.length sx.c3)/\w'.cell? ⟨w6.heap.size,3,none⟩=some (.slice sx.a4 M.wc.length sx.c4))/\(w'.cell? ⟨w.heap.size,0,none⟩=some (.slice s.a1 M.mem.length s.c1)/\w'.cell? ⟨w.heap.size,1,none⟩=some (.slice s.a2 M.pend.length s.c2)/\w'.cell? ⟨w.heap.size,2,none⟩=some (.slice s.a3 M.tlb.length s.c3)/\w'.cell? ⟨w.heap.size,3,none⟩=some (.slice s.a4 M.wc.length s.c4)))
  ((refine HKP.out _ ?_; repeat (first | exact Below.refl _ _ | with_reducible refine Below.drew ?_ | refine Below.trans ?_ (hb11.mono (by first | omega | (simp <;> omega))) | refine Below.trans ?_ (hb10.mono (by first | omega | (simp <;> omega))))))
  (first
   | (go_at_call 8; refine (HTO.out _ (by first | exact HB9.out | exact HB9.out.drew)).mono ?_; rintro e w10 ⟨sy,rfl,hry,_,hb10⟩; have s10:=hb10.size; simp at s10)
   | (go_at_call 10; refine (eqMachine_same (sx.mv M) (sy.mv M) M _ _ _ hsm (HMX9.out _ (br.drew.trans (hb10.mono (by simp)))) hry).mono ?_; rintro e w11 ⟨rfl,hb11⟩))
 have b911:Below w9.heap.size w9 w11:=br.drew.trans ((hb10.mono (by simp)).trans (hb11.mono (by omega)))
 have HD11:Hid (Below w9.heap.size w9 w11):=b911
 have HB11:Hid (Below wb.heap.size wb w11):=HB9.out.trans (b911.mono HB9.out.size)
 clear hb10 hb11 b911 hry s10 a0 a1 a2 a3 p0 p1 p2 p3
 go_wp2_with fail
 refine (HTP.out w11 HB11.out).mono ?_
 rintro e w12 ⟨rfl,ho,hb⟩
 have HB12:Hid (Below wb.heap.size wb w12):=HB11.out.trans (hb.mono HB11.out.size)
 have HD12:Hid (Below w9.heap.size w9 w12):=HD11.out.trans (hb.mono HD11.out.size)
 have heo:=eqOpS_same _ _ _ _ ops w12 (by omega) (HO7X.out.below (HX9.out.trans (HD12.out.mono HX9.out.size))) ho
 clear ho hb
 go_wp2_with fail
 refine heo.mono ?_
 rintro e w13 ⟨rfl,hb⟩
 have HB13:Hid (Below wb.heap.size wb w13):=HB12.out.trans (hb.mono HB12.out.size)
 have HD13:Hid (Below w9.heap.size w9 w13):=HD12.out.trans (hb.mono HD12.out.size)
 clear heo hb
 go_wp2_with fail
 refine (HTE.out w13 HB13.out).mono ?_
 rintro e w14 ⟨rfl,ho,hb⟩
 have HB14:Hid (Below wb.heap.size wb w14):=HB13.out.trans (hb.mono HB13.out.size)
 have HD14:Hid (Below w9.heap.size w9 w14):=HD13.out.trans (hb.mono HD13.out.size)
 have hee:=eqEventS_same _ _ _ _ evs w14 (by omega) (HE7.out.below (HX9.out.trans (HD14.out.mono HX9.out.size))) ho
 clear ho hb
 go_wp2_with fail
 refine hee.mono ?_
 rintro e w15 ⟨rfl,hb⟩
 have b15:Below w9.heap.size w9 w15:=HD14.out.trans (hb.mono HD14.out.size)
 have HX15:Hid (Below wX.heap.size wX w15):=HX9.out.trans (b15.mono HX9.out.size)
 have HG15:Hid (Below wG.heap.size wG w15):=HD9.out.trans (b15.mono HD9.out.size)
 have HB15:Hid (Below wb.heap.size wb w15):=HB9.out.trans (b15.mono HB9.out.size)
 obtain ⟨⟨a0,a1,a2,a3⟩,p0,p1,p2,p3⟩:=HKP.out w15 b15
 have hn6:w6.heap.size < w15.heap.size:=by have:=HX15.out.size; omega
 have hmk:=markMachine_any (sx.mv M) M _ w15 hsm (HMX9.out w15 b15) HRY.out.2.1
 clear hee hb b15
 go_wp2_with fail
 refine hmk.mono ?_
 rintro e w16 ⟨rfl,_,ht16⟩
 have HT16:Hid (Touch (fun k=>wS.heap.size<=k/\k < wX.heap.size/\k ≠ w6.heap.size) w15 w16):=⟨ht16.os,ht16.tape,ht16.output,ht16.size,fun k hk hn=>ht16.block k hk (fun hh=>hn (by have:=HRY.out.2.2 k hh; have:=HZY.out; have:=HZX.out; omega))⟩
 have ho16:ERow eOp w16 wY.heap.size (.slice (some ⟨wY.heap.size,0,none⟩) ops.length ops.length) ops:=(HO7X.out.below HX15.out).touch ht16 (fun k hk hh=>by
  have e:wY.heap.size=k:=by simpa [Value.ownBlock] using hk
  have:=HRY.out.2.2 k hh; have:=HZY.out; omega)
 have he16:ERow eEvent w16 w7.heap.size (.slice (some ⟨w7.heap.size,0,none⟩) evs.length evs.length) evs:=(HE7.out.below HX15.out).touch ht16 (fun k hk hh=>by
  have e:w7.heap.size=k:=by simpa [Value.ownBlock] using hk
  have:=HRY.out.2.2 k hh; have:=HZY.out; have:=HZX.out; omega)
 have hmo:=markOpS_any _ _ ops (1+(M.mem.length:Int)+M.pend.length * 2+M.tlb.length * 5+M.wc.length * 4) w16 (by omega) (by omega) (by omega) ho16
 have HE16:Hid (ERow eEvent w16 w7.heap.size (.slice (some ⟨w7.heap.size,0,none⟩) evs.length evs.length) evs):=he16
 clear hmk ht16 ho16 he16 a0 a1 a2 a3 p0 p1 p2 p3
 go_wp2_with fail
 refine hmo.mono ?_
 rintro e w17 ⟨rfl,_,hg17⟩
 have ht17:Touch (fun k=>k=wY.heap.size) w16 w17:=Touch.of_grown hg17 (fun k hk=>(show wY.heap.size=k by simpa [Value.ownBlock] using hk).symm)
 have he17:ERow eEvent w17 w7.heap.size (.slice (some ⟨w7.heap.size,0,none⟩) evs.length evs.length) evs:=HE16.out.touch ht17 (fun k hk hh=>by
  have e:w7.heap.size=k:=by simpa [Value.ownBlock] using hk
  have:=HZX.out; omega)
 have hme:=markEventS_any _ _ evs ((1+(M.mem.length:Int)+M.pend.length * 2+M.tlb.length * 5+M.wc.length * 4)+ops.length * 4) w17 (by omega) (by omega) (by omega) he17
 have HT17:Hid (Touch (fun k=>wS.heap.size<=k/\k < wX.heap.size/\k ≠ w6.heap.size) w15 w17):=HT16.out.then ht17 (fun k _ e=>by have:=HZY.out; have:=HZX.out; omega)
 clear hmo hg17 ht17 he17
 go_wp2_with fail
 refine hme.mono ?_
 rintro e w18 ⟨rfl,_,hg18⟩
 have ht18:Touch (fun k=>k=w7.heap.size) w17 w18:=Touch.of_grown hg18 (fun k hk=>(show w7.heap.size=k by simpa [Value.ownBlock] using hk).symm)
 have hT18:Touch (fun k=>wS.heap.size<=k/\k < wX.heap.size/\k ≠ w6.heap.size) w15 w18:=HT17.out.then ht18 (fun k _ e=>by have:=HZY.out; have:=HZX.out; omega)
 have hb18:Below wb.heap.size wb w18:=Touch.below HB15.out hT18 HB15.out.size (fun k hk=>by have:=HBS.out.size; omega)
 have hS18:Below wS.heap.size wS w18:=Touch.below (HSG.out.trans (HG15.out.mono HSG.out.size)) hT18 (by have:=HSG.out.size; have:=HG15.out.size; omega) (fun k hk=>hk.1)
 have hK18:∀ k,wX.heap.size<=k->k < wG.heap.size->w18.heap[k]?=wG.heap[k]?:=fun k h1 h2=>(hT18.block k (by have:=HG15.out.size; omega) (by omega)).trans (HG15.out.block k h2)
 have hsz18:wG.heap.size<=w18.heap.size:=by have:=HG15.out.size; have:=hT18.size; omega
 have hrG18:MRow w18 wX.heap.size (sg.mv R.M) R.M:=(HRwG.out.1.below HG15.out).touch hT18 (fun k hk hh=>by have:=HOG.out.1 k hk; omega)
 have hsG18:ERow eSeen w18 wX.heap.size (.slice ga R.seen.length gc) R.seen:=(HRwG.out.2.below HG15.out).touchA hT18 (fun k hk hh=>by have:=HOG.out.2 k hk; omega)
 obtain ⟨g0,g1,g2,g3,g4,g5,g6⟩:=HQwG.out
 have hcg:∀ j,w18.cell? ⟨w8.heap.size,j,none⟩=wG.cell? ⟨w8.heap.size,j,none⟩:=fun j=>cob (hK18 w8.heap.size HXG.out (by have:=HZwG.out; omega))
 have g0:=(hcg 0).trans g0
 have g1:=(hcg 1).trans g1
 have g2:=(hcg 2).trans g2
 have g3:=(hcg 3).trans g3
 have g4:=(hcg 4).trans g4
 have g5:=(hcg 5).trans g5
 have g6:=(hcg 6).trans g6
 obtain ⟨u0,u1,u2,u3,u4,u5,u6⟩:=HQwS.out
 have hcu:∀ j,w18.cell? ⟨w5.heap.size,j,none⟩=wS.cell? ⟨w5.heap.size,j,none⟩:=fun j=>hS18.cell (by have:=HZwS.out; show w5.heap.size < wS.heap.size; omega)
 have u0:=(hcu 0).trans u0
 have u1:=(hcu 1).trans u1
 have u2:=(hcu 2).trans u2
 have u3:=(hcu 3).trans u3
 have u4:=(hcu 4).trans u4
 have u5:=(hcu 5).trans u5
 have u6:=(hcu 6).trans u6
 have hn5:w5.heap.size < w18.heap.size:=by omega
 have hn8:w8.heap.size < w18.heap.size:=by omega
 have heq:=eqOutcome_same R sg sw ga wa gc wc _ _ w18 z1 z2 hrG18 hsG18 (HRwS.out.1.below hS18) (HRwS.out.2.below hS18)
 have dk:decide ((1+(M.mem.length:Int)+M.pend.length * 2+M.tlb.length * 5+M.wc.length * 4)+ops.length * 4+evs.length * 4 < 0)=false:=by simp; omega
 have HB18:Hid (Below wb.heap.size wb w18):=hb18
 have HS18:Hid (Below wS.heap.size wS w18):=hS18
 have HRG18:Hid (MRow w18 wX.heap.size (sg.mv R.M) R.M/\ERow eSeen w18 wX.heap.size (.slice ga R.seen.length gc) R.seen):=⟨hrG18,hsG18⟩
 clear hme hg18 ht18 hT18 hb18 hS18 hK18 hrG18 hsG18 hcg hcu
 go_wp2_with fail
 refine heq.mono ?_
 rintro e w19 ⟨rfl,hb19⟩
 have g0:=(hb19.cell (p:=⟨w8.heap.size,0,none⟩) hn8).trans g0
 have g1:=(hb19.cell (p:=⟨w8.heap.size,1,none⟩) hn8).trans g1
 have g2:=(hb19.cell (p:=⟨w8.heap.size,2,none⟩) hn8).trans g2
 have g3:=(hb19.cell (p:=⟨w8.heap.size,3,none⟩) hn8).trans g3
 have g4:=(hb19.cell (p:=⟨w8.heap.size,4,none⟩) hn8).trans g4
 have g5:=(hb19.cell (p:=⟨w8.heap.size,5,none⟩) hn8).trans g5
 have g6:=(hb19.cell (p:=⟨w8.heap.size,6,none⟩) hn8).trans g6
 have hn8:w8.heap.size < w19.heap.size:=Nat.lt_of_lt_of_le hn8 hb19.size
 have hmo:=markOutcome_any R sg ga gc _ w19 z1 z2 (HRG18.out.1.below hb19) (HRG18.out.2.below hb19) HAPG.out.1 HAPG.out.2
 have HB19:Hid (Below wb.heap.size wb w19):=HB18.out.trans (hb19.mono HB18.out.size)
 have HS19:Hid (Below wS.heap.size wS w19):=HS18.out.trans (hb19.mono HS18.out.size)
 clear heq hb19 u0 u1 u2 u3 u4 u5 u6
 go_wp2_with fail
 refine hmo.mono ?_
 rintro e w20 ⟨rfl,hm20,hs20,ht20⟩
 have hk20:w20.heap[w8.heap.size]?=w19.heap[w8.heap.size]?:=ht20.block _ hn8 (fun hh=>hh.elim (fun hh=>by have:=HOG.out.1 _ hh; omega) (fun hh=>by have:=HOG.out.2 _ hh; omega))
 have g0:=(cob (a:=⟨w8.heap.size,0,none⟩) hk20).trans g0
 have g1:=(cob (a:=⟨w8.heap.size,1,none⟩) hk20).trans g1
 have g2:=(cob (a:=⟨w8.heap.size,2,none⟩) hk20).trans g2
 have g3:=(cob (a:=⟨w8.heap.size,3,none⟩) hk20).trans g3
 have g4:=(cob (a:=⟨w8.heap.size,4,none⟩) hk20).trans g4
 have g5:=(cob (a:=⟨w8.heap.size,5,none⟩) hk20).trans g5
 have g6:=(cob (a:=⟨w8.heap.size,6,none⟩) hk20).trans g6
 have hn8:w8.heap.size < w20.heap.size:=Nat.lt_of_lt_of_le hn8 ht20.size
 have hhe:=heldOutcome_any R sg ga gc w20 z1 z2 hm20 hs20
 have hlow:∀ k,((sg.mv R.M).owns k\/oOf ga=some k)->wX.heap.size<=k:=fun k hh=>hh.elim (fun hh=>(HOG.out.1 k hh).1) (fun hh=>(HOG.out.2 k hh).1)
 have HB20:Hid (Below wb.heap.size wb w20):=Touch.below HB19.out ht20 HB19.out.size (fun k hk=>by have:=hlow k hk; have:=HBX.out.size; omega)
 have HS20:Hid (Below wS.heap.size wS w20):=Touch.below HS19.out ht20 HS19.out.size (fun k hk=>by have:=hlow k hk; have:=HZX.out; have:=HZY.out; omega)
 clear hmo hm20 hs20 ht20 hk20 hlow
 go_wp2_with fail
 refine hhe.mono ?_
 rintro e w21 ⟨rfl,hb21⟩
 have HB21:Hid (Below wb.heap.size wb w21):=HB20.out.trans (hb21.mono HB20.out.size)
 have HS21:Hid (Below wS.heap.size wS w21):=HS20.out.trans (hb21.mono HS20.out.size)
 have dq:decide ((1+(R.M.mem.length:Int)+R.M.pend.length * 2+R.M.tlb.length * 5+R.M.wc.length * 4)+R.seen.length * 4 < 0)=false:=by simp; omega
 obtain ⟨⟨p0,p1,p2,p3⟩,N0⟩:=HBOX.out w21 HB21.out
 clear hhe hb21 g0 g1 g2 g3 g4 g5 g6
 go_wp2_with fail
 refine (HTO.out w21 HB21.out).mono ?_
 rintro e aH ⟨sH,rfl,hm,_,hb⟩
 have HBaH:Hid (Below wb.heap.size wb aH):=HB21.out.trans (hb.mono HB21.out.size)
 have HMaH:Hid (MRow aH wb.heap.size (sH.mv M) M/\w21.heap.size<=aH.heap.size):=⟨hm.rebase HB21.out.size,hb.size⟩
 have HDaH:Hid (Below w21.heap.size w21 aH):=hb
 clear hm hb
 go_wp2_with fail
 refine (HTP.out aH HBaH.out).mono ?_
 rintro e bH ⟨rfl,ho,hb⟩
 have HBbH:Hid (Below wb.heap.size wb bH):=HBaH.out.trans (hb.mono HBaH.out.size)
 have HMbH:Hid (MRow bH wb.heap.size (sH.mv M) M/\ERow eOp bH aH.heap.size (.slice (some ⟨aH.heap.size,0,none⟩) ops.length ops.length) ops):=⟨HMaH.out.1.below hb,ho⟩
 have HDbH:Hid (Below w21.heap.size w21 bH):=HDaH.out.trans (hb.mono HDaH.out.size)
 clear ho hb
 go_wp2_with fail
 refine (HTE.out bH HBbH.out).mono ?_
 rintro e cH ⟨rfl,hv,hb⟩
 have HBcH:Hid (Below wb.heap.size wb cH):=HBbH.out.trans (hb.mono HBbH.out.size)
 have HDcH:Hid (Below w21.heap.size w21 cH):=HDbH.out.trans (hb.mono HDbH.out.size)
 have HMcH:Hid (MRow cH wb.heap.size (sH.mv M) M/\ERow eOp cH aH.heap.size (.slice (some ⟨aH.heap.size,0,none⟩) ops.length ops.length) ops/\ERow eEvent cH bH.heap.size (.slice (some ⟨bH.heap.size,0,none⟩) evs.length evs.length) evs):=⟨HMbH.out.1.below hb,HMbH.out.2.below hb,hv⟩
 clear hv hb
 go_wp2_with fail
 refine (HI.out sH _ _ _ _ _ _ _ cH HMcH.out.1 HMcH.out.2.1 HMcH.out.2.2).mono ?_
 rintro e w25 ⟨sz,za,zc,rfl,hm,hsr,_,_,hb⟩
 obtain ⟨wH,hwH⟩:∃ x,x=w25.alloc (.cells #[.int .i64 R.code,.int .i64 (R.at':Int),.slice sz.a1 R.M.mem.length sz.c1,.slice sz.a2 R.M.pend.length sz.c2,.slice sz.a3 R.M.tlb.length sz.c3,.slice sz.a4 R.M.wc.length sz.c4,.slice za R.seen.length zc] 60):=⟨_,rfl⟩
 have ba:Below w25.heap.size w25 wH:=by rw [hwH]; exact bal
 have hzwH:wH.heap.size=w25.heap.size+1:=by rw [hwH]; simp
 have HQwH:Hid (wH.cell? ⟨w25.heap.size,0,none⟩=some (.int .i64 R.code)/\wH.cell? ⟨w25.heap.size,1,none⟩=some (.int .i64 (R.at':Int))/\wH.cell? ⟨w25.heap.size,2,none⟩=some (.slice sz.a1 R.M.mem.length sz.c1)/\wH.cell? ⟨w25.heap.size,3,none⟩=some (.slice sz.a2 R.M.pend.length sz.c2)/\wH.cell? ⟨w25.heap.size,4,none⟩=some (.slice sz.a3 R.M.tlb.length sz.c3)/\wH.cell? ⟨w25.heap.size,5,none⟩=some (.slice sz.a4 R.M.wc.length sz.c4)/\wH.cell? ⟨w25.heap.size,6,none⟩=some (.slice za R.seen.length zc)):=hidOf <| by
  refine ⟨?_,?_,?_,?_,?_,?_,?_⟩ <;> (rw [hwH]; simp [go_sem])
 have HRwH:Hid (MRow wH cH.heap.size (sz.mv R.M) R.M/\ERow eSeen wH cH.heap.size (.slice za R.seen.length zc) R.seen):=⟨hm.below ba,hsr.below ba⟩
 have HZwH:Hid (wH.heap.size=w25.heap.size+1):=hzwH
 have HWwH:Hid (wH=w25.alloc (.cells #[.int .i64 R.code,.int .i64 (R.at':Int),.slice sz.a1 R.M.mem.length sz.c1,.slice sz.a2 R.M.pend.length sz.c2,.slice sz.a3 R.M.tlb.length sz.c3,.slice sz.a4 R.M.wc.length sz.c4,.slice za R.seen.length zc] 60)):=hwH
 have hSH:Below wS.heap.size wS wH:=HS21.out.trans ((HDcH.out.trans ((hb.trans (ba.mono hb.size)).mono HDcH.out.size)).mono HS21.out.size)
 have HBH:Hid (Below wb.heap.size wb wH):=HBcH.out.trans ((hb.trans (ba.mono hb.size)).mono HBcH.out.size)
 obtain ⟨v0,v1,v2,v3,v4,v5,v6⟩:=HQwH.out
 obtain ⟨u0,u1,u2,u3,u4,u5,u6⟩:=HQwS.out
 have hcu:∀ j,wH.cell? ⟨w5.heap.size,j,none⟩=wS.cell? ⟨w5.heap.size,j,none⟩:=fun j=>hSH.cell (by have:=HZwS.out; show w5.heap.size < wS.heap.size; omega)
 have u0:=(hcu 0).trans u0
 have u1:=(hcu 1).trans u1
 have u2:=(hcu 2).trans u2
 have u3:=(hcu 3).trans u3
 have u4:=(hcu 4).trans u4
 have u5:=(hcu 5).trans u5
 have u6:=(hcu 6).trans u6
 have hn5:w5.heap.size < w25.heap.size:=by have:=HS21.out.size; have:=HZwS.out; have:=HDcH.out.size; have:=hb.size; omega
 have heq:=eqOutcome_same R sz sw za wa zc wc _ _ wH z1 z2 HRwH.out.1 HRwH.out.2 (HRwS.out.1.below hSH) (HRwS.out.2.below hSH)
 rw [HWwH.out] at heq u0 u1 u2 u3 u4 u5 u6
 clear hm hsr hb ba hzwH hwH hcu hSH v0 v1 v2 v3 v4 v5 v6
 go_wp2_with fail
 refine heq.mono ?_
 rintro e wF ⟨rfl,hbF'⟩
 have hbF:Below wH.heap.size wH wF:=by rw [HWwH.out]; exact hbF'
 have HBF:Hid (Below w.heap.size w wF):=HB0.out.trans ((HBH.out.trans (hbF.mono HBH.out.size)).mono (by have:=HZB.out; omega))
 clear hbF' hbF heq
 go_wp2_with fail
 go_ret
 exact ⟨rfl,HBF.out⟩
end Go.Proofs.YtiiejckfcnmhoabGreat
