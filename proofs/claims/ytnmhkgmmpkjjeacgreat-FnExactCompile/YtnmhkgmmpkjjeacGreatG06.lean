import Derived.Test.YtnmhkgmmpkjjeacGreatG05
import Derived.Test.YtnmhkgmmpkjjeacGreatG00
import Derived.Lib.SmallJoins
import Derived.RegionTactic
import Derived.ChangeAlike
namespace Go.Proofs.YtnmhkgmmpkjjeacGreat
open Go.ChangeShapes Go.WideShapes Go.ChangeAt Go.RowKit Go.Joins
set_option linter.unusedVariables false
set_option linter.unusedSimpArgs false
set_option maxRecDepth 100000
attribute [local go_sem ↓] Go.wp_at_zero Go.wp_at_succ
set_option maxHeartbeats 4000000 in
theorem implComp_walk (A B:ByteArray) (fr:Int) (xa xb:List SpanE) (ca da cb db:Int) (zs:List Int) (cc:Int) (l:List OpE) (cd:Int) (w:World)
  (bca:0<=ca/\ca<=10) (bcb:0<=cb/\cb<=10) (bcc:0<=cc/\cc<=3) (bcd:0<=cd/\cd<=3) (hzs:cc=0->0 < zs.length)
  (hA:∀ wX,Calls Tryz.prog 83 #[.string A] wX fun e w'=>∃ a c,e=.returned (.tuple #[.slice a xa.length c,.agg #[.int .i64 ca,.int .i64 da]])/\ERow eSpan w' wX.heap.size (.slice a xa.length c) xa/\Below wX.heap.size wX w')
  (hB:∀ wX,Calls Tryz.prog 83 #[.string B] wX fun e w'=>∃ a c,e=.returned (.tuple #[.slice a xb.length c,.agg #[.int .i64 cb,.int .i64 db]])/\ERow eSpan w' wX.heap.size (.slice a xb.length c) xb/\Below wX.heap.size wX w')
  (hC:∀ a c b wX,ERow eSpan wX b (.slice a xa.length c) xa->Calls Tryz.prog 20 #[.slice a xa.length c,.int .i64 fr] wX fun e w'=>∃ a c,e=.returned (.tuple #[.agg #[.slice a zs.length c],.int .i64 cc])/\ERow eWord w' wX.heap.size (.slice a zs.length c) zs/\Below wX.heap.size wX w')
  (hD:∀ g cz a c b wX,cc=0->CRow wX g zs->zs.length<=cz->ERow eSpan wX b (.slice a xb.length c) xb->Calls Tryz.prog 11 #[.agg #[.slice (some ⟨g,0,none⟩) zs.length cz],.slice a xb.length c] wX fun e w'=>∃ a c,e=.returned (.tuple #[.slice a l.length c,.int .i64 cd])/\ERow eOp w' wX.heap.size (.slice a l.length c) l/\Below wX.heap.size wX w') :
  Calls Tryz.prog 55 #[.string A,.string B,.int .i64 fr] w fun e w'=>CompI w (memR (xa,ca,da) (xb,cb,db) (zs,cc) (l,cd)) (compR (xa,ca,da) (xb,cb,db) (zs,cc) (l,cd)) e w':=by
 obtain ⟨wb,hwb⟩:∃ wb,wb=(w.alloc (.cells #[.slice none 0 0] 31)).alloc (.cells #[.int .i64 0,.int .i64 0] 46):=⟨_,rfl⟩
 have hbb:Below w.heap.size w wb:=by rw [hwb]; exact bal.alloc (by simp) _
 have hzb:w.heap.size+1 < wb.heap.size:=by rw [hwb]; simp
 have HQ:Hid (∀ wX,Below wb.heap.size wb wX->(wX.cell? ⟨w.heap.size,0,none⟩=some (.slice none 0 0)/\wX.cell? ⟨w.heap.size+1,0,none⟩=some (.int .i64 0)/\wX.cell? ⟨w.heap.size+1,1,none⟩=some (.int .i64 0))/\(wX.frozen? ⟨w.heap.size,0,none⟩=false/\wX.frozen? ⟨w.heap.size+1,0,none⟩=false/\wX.frozen? ⟨w.heap.size+1,1,none⟩=false)):=hidOf fun wX hX=>by
  refine ⟨⟨?_,?_,?_⟩,⟨?_,?_,?_⟩⟩
  iterate 3 (exact (hX.cell (by simp; omega)).trans (by rw [hwb]; simp [go_sem]))
  iterate 3 (exact (hX.frozen (by simp; omega)).trans (by rw [hwb]; simp [go_sem]))
 have HEND:Hid (∀ (wX:World) (c d:Int),Below wb.heap.size wb wX->CompI w [] ([],c,d) (.returned (.tuple #[.agg #[.slice none 0 0],.slice none 0 0,.agg #[.int .i64 c,.int .i64 d]])) (((wX.setCell ⟨w.heap.size,0,none⟩ (.slice none 0 0)).setCell ⟨w.heap.size+1,0,none⟩ (.int .i64 c)).setCell ⟨w.heap.size+1,1,none⟩ (.int .i64 d))):=hidOf fun wX c d hX=>by
  exact ⟨none,0,none,0,rfl,eWord_none _ _,eOp_none _ _,hbb.trans ((((hX.mono (by omega)).setCell (by simp) _).setCell (by simp) _).setCell (by simp) _)⟩
 have HWB:Hid (wb=_):=hwb
 have HBB:Hid (Below w.heap.size w wb):=hbb
 have HC:Hid _:=hC
 have HD:Hid _:=hD
 have HR1:Hid (ca ≠ 0->compR (xa,ca,da) (xb,cb,db) (zs,cc) (l,cd)=([],100+ca,da)/\memR (xa,ca,da) (xb,cb,db) (zs,cc) (l,cd)=[]):=hidOf fun h=>by
  unfold compR memR
  rw [if_pos h,if_neg (fun hh=>h hh.1)]
  exact ⟨rfl,rfl⟩
 have HR2:Hid (ca=0->cb ≠ 0->compR (xa,ca,da) (xb,cb,db) (zs,cc) (l,cd)=([],200+cb,db)/\memR (xa,ca,da) (xb,cb,db) (zs,cc) (l,cd)=[]):=hidOf fun h h2=>by
  unfold compR memR
  rw [if_neg (by simpa using h),if_pos h2,if_neg (fun hh=>h2 hh.2.1)]
  exact ⟨rfl,rfl⟩
 have HR3:Hid (ca=0->cb=0->cc ≠ 0->compR (xa,ca,da) (xb,cb,db) (zs,cc) (l,cd)=([],300+cc,0)/\memR (xa,ca,da) (xb,cb,db) (zs,cc) (l,cd)=[]):=hidOf fun h h2 h3=>by
  unfold compR memR
  rw [if_neg (by simpa using h),if_neg (by simpa using h2),if_pos h3,if_neg (fun hh=>h3 hh.2.2.1)]
  exact ⟨rfl,rfl⟩
 have HR4:Hid (ca=0->cb=0->cc=0->cd ≠ 0->compR (xa,ca,da) (xb,cb,db) (zs,cc) (l,cd)=([],400+cd,0)/\memR (xa,ca,da) (xb,cb,db) (zs,cc) (l,cd)=[]):=hidOf fun h h2 h3 h4=>by
  unfold compR memR
  rw [if_neg (by simpa using h),if_neg (by simpa using h2),if_neg (by simpa using h3),if_pos h4,if_neg (fun hh=>h4 hh.2.2.2)]
  exact ⟨rfl,rfl⟩
 have HR5:Hid (ca=0->cb=0->cc=0->cd=0->compR (xa,ca,da) (xb,cb,db) (zs,cc) (l,cd)=(l,0,0)/\memR (xa,ca,da) (xb,cb,db) (zs,cc) (l,cd)=zs):=hidOf fun h h2 h3 h4=>by
  unfold compR memR
  rw [if_neg (by simpa using h),if_neg (by simpa using h2),if_neg (by simpa using h3),if_neg (by simpa using h4),if_pos ⟨h,h2,h3,h4⟩]
  exact ⟨rfl,rfl⟩
 generalize compR (xa,ca,da) (xb,cb,db) (zs,cc) (l,cd)=R at *
 generalize memR (xa,ca,da) (xb,cb,db) (zs,cc) (l,cd)=M at *
 have HBq:Hid _:=hB
 have t1:=hidOf (hA wb)
 obtain ⟨bca0,bca1⟩:=bca
 obtain ⟨bcb0,bcb1⟩:=bcb
 obtain ⟨bcc0,bcc1⟩:=bcc
 obtain ⟨bcd0,bcd1⟩:=bcd
 clear hA hB hC hD hwb hbb
 go_enter Tryz.func55,Tryz.ntmps55
 go_wp2_with fail
 rw [<- HWB.out]
 refine t1.out.mono ?_
 rintro e w1 ⟨a1,c1,rfl,hr1,hb1⟩
 obtain ⟨w2,hw2⟩:∃ w2,w2=w1.alloc (.cells #[.int .i64 ca,.int .i64 da] 46):=⟨_,rfl⟩
 have hb12:Below w1.heap.size w1 w2:=by rw [hw2]; exact bal
 have hz2:w1.heap.size < w2.heap.size:=by rw [hw2]; simp
 have hb2:Below wb.heap.size wb w2:=hb1.trans (hb12.mono hb1.size)
 have x0:w2.cell? ⟨w1.heap.size,0,none⟩=some (.int .i64 ca):=by rw [hw2]; simp [go_sem]
 have x1:w2.cell? ⟨w1.heap.size,1,none⟩=some (.int .i64 da):=by rw [hw2]; simp [go_sem]
 have HX2:Hid (∀ wX,Below w2.heap.size w2 wX->(wX.cell? ⟨w1.heap.size,0,none⟩=some (.int .i64 ca)/\wX.cell? ⟨w1.heap.size,1,none⟩=some (.int .i64 da))/\wX.frozen? ⟨w1.heap.size,0,none⟩=false/\wX.frozen? ⟨w1.heap.size,1,none⟩=false):=hidOf fun wX hX=>by
  refine ⟨⟨(hX.cell (p:=⟨w1.heap.size,0,none⟩) hz2).trans x0,(hX.cell (p:=⟨w1.heap.size,1,none⟩) hz2).trans x1⟩,?_,?_⟩
  ·exact (hX.frozen (p:=⟨w1.heap.size,0,none⟩) hz2).trans (by rw [hw2]; simp [go_sem])
  ·exact (hX.frozen (p:=⟨w1.heap.size,1,none⟩) hz2).trans (by rw [hw2]; simp [go_sem])
 have HW2:Hid (w2=_):=hw2
 have HB2:Hid (Below wb.heap.size wb w2):=hb2
 have HRA:Hid (∀ wX,Below w2.heap.size w2 wX->ERow eSpan wX wb.heap.size (.slice a1 xa.length c1) xa):=hidOf fun wX hX=>(hr1.below hb12).below hX
 have HOA:Hid (∀ q,(Value.slice a1 xa.length c1).ownBlock=some q->q < w1.heap.size):=hidOf fun q hq=>(hr1.own q hq).2
 obtain ⟨⟨q0,q1,q2⟩,f0,f1,f2⟩:=HQ.out w2 hb2
 have n1:wb.heap.size<=w1.heap.size:=hb1.size
 clear t1 hr1 hb1 hb12 hb2 hw2
 go_upto_if 22 with fail
 rw [<- HW2.out]
 by_cases k1:ca=0
 case neg =>
  have kb:(ca != 0)=true:=by simpa using k1
  have W1:IntKind.i64.wrap (100+ca)=100+ca:=by rw [IntKind.wrap_i64]; omega
  obtain ⟨z0,z1,z2⟩:=box3 (.slice none 0 0) (.int .i64 (100+ca)) (.int .i64 da) (by omega) q0 q1 q2
  have HE:=HEND.out w2 (100+ca) da HB2.out
  rw [<- (HR1.out k1).1,<- (HR1.out k1).2] at HE
  have HEH:Hid _:=HE
  clear HE
  go_wp2_with fail
  go_region
  go_wp2_with fail
  exact bodyPost_ret (v:=.tuple #[.agg #[.slice none 0 0],.slice none 0 0,.agg #[.int .i64 (100+ca),.int .i64 da]]) (by simp [results,Tryz.results55,go_sem,show ∀ (W:World) (p:Addr),W.drew.cell? p=W.cell? p from fun _ _=>rfl,z0,z1,z2]) rfl (CompI.drew HEH.out)
 case pos =>
 have kb:(ca != 0)=false:=by simpa using k1
 have t3:=hidOf (HBq.out w2)
 clear HR1 x0 x1 q0 q1 q2 f0 f1 f2 HBq
 go_wp2_with fail
 refine t3.out.mono ?_
 rintro e w3 ⟨a3,c3,rfl,hr3,hb3⟩
 obtain ⟨⟨p0,p1⟩,g0,g1⟩:=HX2.out w3 hb3
 obtain ⟨w4,hw4⟩:∃ w4,w4=(w3.setCell ⟨w1.heap.size,0,none⟩ (.int .i64 cb)).setCell ⟨w1.heap.size,1,none⟩ (.int .i64 db):=⟨_,rfl⟩
 have hz4:w4.heap.size=w3.heap.size:=by rw [hw4]; simp
 have hb4:Below wb.heap.size wb w4:=by
  rw [hw4]
  exact ((HB2.out.trans (hb3.mono HB2.out.size)).setCell (by simpa using n1) _).setCell (by simpa using n1) _
 have x0:w4.cell? ⟨w1.heap.size,0,none⟩=some (.int .i64 cb):=by rw [hw4]; simp [go_sem,p0]
 have x1:w4.cell? ⟨w1.heap.size,1,none⟩=some (.int .i64 db):=by rw [hw4]; simp [go_sem,p1]
 have HW4:Hid (w4=_):=hw4
 have HB4:Hid (Below wb.heap.size wb w4):=hb4
 have hx4:ERow eSpan w4 wb.heap.size (.slice a1 xa.length c1) xa:=by
  rw [hw4]
  refine ERow.kept (ERow.kept (HRA.out w3 hb3) (eGrown_set (g:=w1.heap.size) (World.grownBy.refl _ _) 0 _) ?_) (eGrown_set (g:=w1.heap.size) (World.grownBy.refl _ _) 1 _) ?_
  all_goals
   intro q hq
   have:=HOA.out q hq
   simp
   omega
 have hx3:ERow eSpan w4 w2.heap.size (.slice a3 xb.length c3) xb:=by
  rw [hw4]
  refine ERow.kept (ERow.kept hr3 (eGrown_set (g:=w1.heap.size) (World.grownBy.refl _ _) 0 _) ?_) (eGrown_set (g:=w1.heap.size) (World.grownBy.refl _ _) 1 _) ?_
  all_goals
   intro q hq
   have:=(hr3.own q hq).1
   simp
   omega
 have HRB:Hid (∀ wX,Below w4.heap.size w4 wX->ERow eSpan wX w2.heap.size (.slice a3 xb.length c3) xb):=hidOf fun wX hX=>hx3.below hX
 have t5:=hidOf (HC.out a1 c1 _ w4 hx4)
 obtain ⟨⟨q0,q1,q2⟩,f0,f1,f2⟩:=HQ.out w4 hb4
 go_upto_if 37 with fail
 rw [<- HW4.out]
 clear t3 hr3 hb3 hb4 hw4 hx4 hx3 HRA HC p0 p1 g0 g1
 by_cases k2:cb=0
 case neg =>
  have kb2:(cb != 0)=true:=by simpa using k2
  have W1:IntKind.i64.wrap (200+cb)=200+cb:=by rw [IntKind.wrap_i64]; omega
  obtain ⟨z0,z1,z2⟩:=box3 (.slice none 0 0) (.int .i64 (200+cb)) (.int .i64 db) (by omega) q0 q1 q2
  have HE:=HEND.out w4 (200+cb) db HB4.out
  rw [<- (HR2.out k1 k2).1,<- (HR2.out k1 k2).2] at HE
  have HEH:Hid _:=HE
  clear HE
  go_wp2_with fail
  go_region
  go_wp2_with fail
  exact bodyPost_ret (v:=.tuple #[.agg #[.slice none 0 0],.slice none 0 0,.agg #[.int .i64 (200+cb),.int .i64 db]]) (by simp [results,Tryz.results55,go_sem,show ∀ (W:World) (p:Addr),W.drew.cell? p=W.cell? p from fun _ _=>rfl,z0,z1,z2]) rfl (CompI.drew HEH.out)
 case pos =>
 have kb2:(cb != 0)=false:=by simpa using k2
 clear HR2 x0 x1 q0 q1 q2 f0 f1 f2
 go_wp2_with fail
 refine t5.out.mono ?_
 rintro e w5 ⟨a5,c5,rfl,hr5,hb5⟩
 obtain ⟨w6,hw6⟩:∃ w6,w6=w5.alloc (.cells #[.slice a5 zs.length c5] 31):=⟨_,rfl⟩
 have hb56:Below w5.heap.size w5 w6:=by rw [hw6]; exact bal
 have hb46:Below w4.heap.size w4 w6:=hb5.trans (hb56.mono hb5.size)
 have hb6:Below wb.heap.size wb w6:=HB4.out.trans (hb46.mono HB4.out.size)
 have hz6:w5.heap.size < w6.heap.size:=by rw [hw6]; simp
 have x0:w6.cell? ⟨w5.heap.size,0,none⟩=some (.slice a5 zs.length c5):=by rw [hw6]; simp [go_sem]
 have HX6:Hid (∀ wX,Below w6.heap.size w6 wX->wX.cell? ⟨w5.heap.size,0,none⟩=some (.slice a5 zs.length c5)):=hidOf fun wX hX=>(hX.cell (p:=⟨w5.heap.size,0,none⟩) hz6).trans x0
 have HW6:Hid (w6=_):=hw6
 have HB6:Hid (Below wb.heap.size wb w6):=hb6
 have HRC:Hid (ERow eWord w6 w4.heap.size (.slice a5 zs.length c5) zs):=hidOf (hr5.below hb56)
 have HRB6:Hid (ERow eSpan w6 w2.heap.size (.slice a3 xb.length c3) xb):=hidOf (HRB.out w6 hb46)
 have n5:wb.heap.size<=w5.heap.size:=by have:=HB4.out.size; have:=hb5.size; omega
 have n4:wb.heap.size<=w4.heap.size:=HB4.out.size
 obtain ⟨⟨q0,q1,q2⟩,f0,f1,f2⟩:=HQ.out w6 hb6
 clear t5 hr5 hb5 hb56 hb46 hb6 hw6 HRB
 go_upto_if 52 with fail
 rw [<- HW6.out]
 by_cases k3:cc=0
 case neg =>
  have kb3:(cc != 0)=true:=by simpa using k3
  have W1:IntKind.i64.wrap (300+cc)=300+cc:=by rw [IntKind.wrap_i64]; omega
  obtain ⟨z0,z1,z2⟩:=box3 (.slice none 0 0) (.int .i64 (300+cc)) (.int .i64 0) (by omega) q0 q1 q2
  have HE:=HEND.out w6 (300+cc) 0 HB6.out
  rw [<- (HR3.out k1 k2 k3).1,<- (HR3.out k1 k2 k3).2] at HE
  have HEH:Hid _:=HE
  clear HE
  go_wp2_with fail
  exact bodyPost_ret (v:=.tuple #[.agg #[.slice none 0 0],.slice none 0 0,.agg #[.int .i64 (300+cc),.int .i64 0]]) (by simp [results,Tryz.results55,go_sem,z0,z1,z2]) rfl HEH.out
 case pos =>
 have kb3:(cc != 0)=false:=by simpa using k3
 obtain ⟨gz,ez,_,hcz,hcr⟩:=ew_row HRC.out (hzs k3)
 subst ez
 have t7:=hidOf (HD.out gz c5 a3 c3 _ w6 k3 hcr hcz HRB6.out)
 clear HR3 q0 q1 q2 f0 f1 f2 hcr hcz
 go_wp2_with fail
 refine t7.out.mono ?_
 rintro e w7 ⟨a7,c7,rfl,hr7,hb7⟩
 have hb67:Below wb.heap.size wb w7:=HB6.out.trans (hb7.mono HB6.out.size)
 obtain ⟨⟨q0,q1,q2⟩,f0,f1,f2⟩:=HQ.out w7 hb67
 have y0:=HX6.out w7 hb7
 have HB7:Hid (Below wb.heap.size wb w7):=hb67
 have HR7:Hid (ERow eOp w7 w6.heap.size (.slice a7 l.length c7) l):=hr7
 have HRC7:Hid (ERow eWord w7 w4.heap.size (.slice (some ⟨gz,0,none⟩) zs.length c5) zs):=hidOf (HRC.out.below hb7)
 have s6:wb.heap.size<=w6.heap.size:=HB6.out.size
 clear hr7 hb7 hb67 t7 x0
 by_cases k4:cd=0
 case neg =>
  have kb4:(cd != 0)=true:=by simpa using k4
  have W1:IntKind.i64.wrap (400+cd)=400+cd:=by rw [IntKind.wrap_i64]; omega
  obtain ⟨z0,z1,z2⟩:=box3 (.slice none 0 0) (.int .i64 (400+cd)) (.int .i64 0) (by omega) q0 q1 q2
  have HE:=HEND.out w7 (400+cd) 0 HB7.out
  rw [<- (HR4.out k1 k2 k3 k4).1,<- (HR4.out k1 k2 k3 k4).2] at HE
  have HEH:Hid _:=HE
  clear HE
  go_wp2_with fail
  exact bodyPost_ret (v:=.tuple #[.agg #[.slice none 0 0],.slice none 0 0,.agg #[.int .i64 (400+cd),.int .i64 0]]) (by simp [results,Tryz.results55,go_sem,z0,z1,z2]) rfl HEH.out
 case pos =>
 have kb4:(cd != 0)=false:=by simpa using k4
 have HE:CompI w zs (l,0,0) (.returned (.tuple #[.agg #[.slice (some ⟨gz,0,none⟩) zs.length c5],.slice a7 l.length c7,.agg #[.int .i64 0,.int .i64 0]])) (((w7.setCell ⟨w.heap.size,0,none⟩ (.slice (some ⟨gz,0,none⟩) zs.length c5)).setCell ⟨w.heap.size+1,0,none⟩ (.int .i64 0)).setCell ⟨w.heap.size+1,1,none⟩ (.int .i64 0)):=by
  refine ⟨some ⟨gz,0,none⟩,c5,a7,c7,rfl,?_,?_,HBB.out.trans ((((HB7.out.mono (by omega)).setCell (by simp) _).setCell (by simp) _).setCell (by simp) _)⟩
  ·refine (ERow.kept (ERow.kept (ERow.kept HRC7.out (eGrown_set (g:=w.heap.size) (World.grownBy.refl _ _) 0 _) ?_) (eGrown_set (g:=w.heap.size+1) (World.grownBy.refl _ _) 0 _) ?_) (eGrown_set (g:=w.heap.size+1) (World.grownBy.refl _ _) 1 _) ?_).rebase (by omega)
   all_goals
    intro q hq
    have:=(HRC7.out.own q hq).1
    simp
    omega
  ·refine (ERow.kept (ERow.kept (ERow.kept HR7.out (eGrown_set (g:=w.heap.size) (World.grownBy.refl _ _) 0 _) ?_) (eGrown_set (g:=w.heap.size+1) (World.grownBy.refl _ _) 0 _) ?_) (eGrown_set (g:=w.heap.size+1) (World.grownBy.refl _ _) 1 _) ?_).rebase (by omega)
   all_goals
    intro q hq
    have:=(HR7.out.own q hq).1
    simp
    omega
 obtain ⟨z0,z1,z2⟩:=box3 (.slice (some ⟨gz,0,none⟩) zs.length c5) (.int .i64 0) (.int .i64 0) (by omega) q0 q1 q2
 rw [<- (HR5.out k1 k2 k3 k4).1] at HE
 have HEH:Hid _:=HE
 have HM:Hid (M=zs):=hidOf (HR5.out k1 k2 k3 k4).2
 clear HE
 go_wp2_with fail
 rw [HM.out]
 exact bodyPost_ret (v:=.tuple #[.agg #[.slice (some ⟨gz,0,none⟩) zs.length c5],.slice a7 l.length c7,.agg #[.int .i64 0,.int .i64 0]]) (by simp [results,Tryz.results55,go_sem,z0,z1,z2]) rfl HEH.out
set_option maxHeartbeats 4000000 in
theorem implCompile_of (A B:ByteArray) (fr:Int) (m:List Int) (R:List OpE × Int × Int) (w:World) (h:∀ wX,Calls Tryz.prog 55 #[.string A,.string B,.int .i64 fr] wX fun e w'=>CompI wX m R e w') :
  Calls Tryz.prog 23 #[.string A,.string B,.int .i64 fr] w fun e w'=>CompPost w R e w':=by
 obtain ⟨L,C,D⟩:=R
 obtain ⟨wb,hwb⟩:∃ wb,wb=w.alloc (.cells #[.int .i64 0,.int .i64 0] 46):=⟨_,rfl⟩
 have hbb:Below w.heap.size w wb:=by rw [hwb]; exact bal
 have hzb:w.heap.size < wb.heap.size:=by rw [hwb]; simp
 have HQ:Hid (∀ wX,Below wb.heap.size wb wX->(wX.cell? ⟨w.heap.size,0,none⟩=some (.int .i64 0)/\wX.cell? ⟨w.heap.size,1,none⟩=some (.int .i64 0))/\(wX.frozen? ⟨w.heap.size,0,none⟩=false/\wX.frozen? ⟨w.heap.size,1,none⟩=false)):=hidOf fun wX hX=>by
  refine ⟨⟨?_,?_⟩,⟨?_,?_⟩⟩
  iterate 2 (exact (hX.cell (by simpa using hzb)).trans (by rw [hwb]; simp [go_sem]))
  iterate 2 (exact (hX.frozen (by simpa using hzb)).trans (by rw [hwb]; simp [go_sem]))
 have t1:=hidOf (h wb)
 have HWB:Hid (wb=_):=hwb
 have HBB:Hid (Below w.heap.size w wb):=hbb
 clear hwb hbb h
 go_enter Tryz.func23,Tryz.ntmps23
 go_wp2_with fail
 rw [<- HWB.out]
 refine t1.out.mono ?_
 rintro e w1 ⟨am,cm,a1,c1,rfl,_,hr1,hb1⟩
 dsimp only at hr1 ⊢
 obtain ⟨w2,hw2⟩:∃ w2,w2=(w1.alloc (.cells #[.slice am m.length cm] 31)).alloc (.cells #[.int .i64 C,.int .i64 D] 46):=⟨_,rfl⟩
 have hb12:Below w1.heap.size w1 w2:=by rw [hw2]; exact bal.alloc (by simp) _
 have hb2:Below wb.heap.size wb w2:=hb1.trans (hb12.mono hb1.size)
 have x0:w2.cell? ⟨w1.heap.size+1,0,none⟩=some (.int .i64 C):=by rw [hw2]; simp [go_sem]
 have x1:w2.cell? ⟨w1.heap.size+1,1,none⟩=some (.int .i64 D):=by rw [hw2]; simp [go_sem]
 obtain ⟨⟨q0,q1⟩,f0,f1⟩:=HQ.out w2 hb2
 have n1:w.heap.size < w1.heap.size:=by have:=hb1.size; omega
 have HE:CompPost w (L,C,D) (.returned (.tuple #[.slice a1 L.length c1,.agg #[.int .i64 C,.int .i64 D]])) ((w2.setCell ⟨w.heap.size,0,none⟩ (.int .i64 C)).setCell ⟨w.heap.size,1,none⟩ (.int .i64 D)):=by
  refine ⟨a1,c1,rfl,?_,HBB.out.trans (((hb2.mono (by omega)).setCell (by simp) _).setCell (by simp) _)⟩
  have h2:=hr1.below hb12
  refine (ERow.kept (ERow.kept h2 (eGrown_set (g:=w.heap.size) (World.grownBy.refl _ _) 0 _) ?_) (eGrown_set (g:=w.heap.size) (World.grownBy.refl _ _) 1 _) ?_).rebase (by omega)
  all_goals
   intro q hq
   have:=(hr1.own q hq).1
   simp
   omega
 obtain ⟨z0,z1⟩:=box2 (.int .i64 C) (.int .i64 D) q0 q1
 have HEH:Hid _:=HE
 have HW2:Hid (w2=_):=hw2
 clear HE hr1 hb1 hb12 hb2 t1 hw2
 go_upto_region 2 with fail
 rw [<- HW2.out]
 go_region
 go_wp2_with fail
 exact bodyPost_ret (v:=.tuple #[.slice a1 L.length c1,.agg #[.int .i64 C,.int .i64 D]]) (by simp [results,Tryz.results23,go_sem,z0,z1]) rfl (CompPost.drew HEH.out)
end Go.Proofs.YtnmhkgmmpkjjeacGreat
