import Derived.Test.YtnmhkgmmpkjjeacGreatG05
import Derived.Test.YtnmhkgmmpkjjeacGreatG00
import Derived.Lib.SmallJoins
import Derived.RegionTactic
import Derived.ChangeAlike
import Derived.Test.YtnmhkgmmpkjjeacGreatG37
import Derived.Test.YtnmhkgmmpkjjeacGreatG21
import Derived.Test.YtnmhkgmmpkjjeacGreatG52
import Derived.Laws.EntriesVeiled
import Derived.Test.YtnmhkgmmpkjjeacGreatG06
import Derived.Test.YtnmhkgmmpkjjeacGreatG38
import Derived.Test.YtnmhkgmmpkjjeacGreatG40
import Derived.Test.YtnmhkgmmpkjjeacGreatG53
import Derived.ChangeOld
namespace Go.Proofs.YtnmhkgmmpkjjeacGreat
open Go.ChangeShapes Go.WideShapes Go.ChangeAt Go.RowKit Go.Joins
set_option linter.unusedVariables false
set_option linter.unusedSimpArgs false
set_option maxRecDepth 100000
attribute [local go_sem ↓] Go.wp_at_zero Go.wp_at_succ
set_option maxHeartbeats 4000000 in
theorem specComp_walk (A B:ByteArray) (fr:Int) (xa xb:List SpanE) (ca da cb db:Int) (zs:List Int) (cc:Int) (l:List OpE) (cd:Int) (w:World)
  (bca:0<=ca/\ca<=10) (bcb:0<=cb/\cb<=10) (bcc:0<=cc/\cc<=3) (bcd:0<=cd/\cd<=3) (hzs:cc=0->0 < zs.length)
  (hA:∀ wX,Calls Tryz.prog 54 #[.string A] wX fun e w'=>∃ a c,e=.returned (.tuple #[.slice a xa.length c,.agg #[.int .i64 ca,.int .i64 da]])/\ERow eSpan w' wX.heap.size (.slice a xa.length c) xa/\Below wX.heap.size wX w')
  (hB:∀ wX,Calls Tryz.prog 54 #[.string B] wX fun e w'=>∃ a c,e=.returned (.tuple #[.slice a xb.length c,.agg #[.int .i64 cb,.int .i64 db]])/\ERow eSpan w' wX.heap.size (.slice a xb.length c) xb/\Below wX.heap.size wX w')
  (hC:∀ a c b wX,ERow eSpan wX b (.slice a xa.length c) xa->Calls Tryz.prog 19 #[.slice a xa.length c,.int .i64 fr] wX fun e w'=>∃ a c,e=.returned (.tuple #[.agg #[.slice a zs.length c],.int .i64 cc])/\ERow eWord w' wX.heap.size (.slice a zs.length c) zs/\Below wX.heap.size wX w')
  (hD:∀ g cz a c b wX,cc=0->CRow wX g zs->zs.length<=cz->ERow eSpan wX b (.slice a xb.length c) xb->Calls Tryz.prog 8 #[.agg #[.slice (some ⟨g,0,none⟩) zs.length cz],.slice a xb.length c] wX fun e w'=>∃ a c,e=.returned (.tuple #[.slice a l.length c,.int .i64 cd])/\ERow eOp w' wX.heap.size (.slice a l.length c) l/\Below wX.heap.size wX w') :
  Calls Tryz.prog 22 #[.string A,.string B,.int .i64 fr] w fun e w'=>CompPost w (compR (xa,ca,da) (xb,cb,db) (zs,cc) (l,cd)) e w':=by
 obtain ⟨wb,hwb⟩:∃ wb,wb=(w.alloc (.cells #[.int .i64 0,.int .i64 0] 46)).alloc (.cells #[] 74):=⟨_,rfl⟩
 have hbb:Below w.heap.size w wb:=by rw [hwb]; exact bal.alloc (by simp) _
 have hzb:w.heap.size+1 < wb.heap.size:=by rw [hwb]; simp
 have HQ:Hid (∀ wX,Below wb.heap.size wb wX->(wX.cell? ⟨w.heap.size,0,none⟩=some (.int .i64 0)/\wX.cell? ⟨w.heap.size,1,none⟩=some (.int .i64 0))/\(wX.frozen? ⟨w.heap.size,0,none⟩=false/\wX.frozen? ⟨w.heap.size,1,none⟩=false)):=hidOf fun wX hX=>by
  refine ⟨⟨?_,?_⟩,⟨?_,?_⟩⟩
  iterate 2 (exact (hX.cell (by simp; omega)).trans (by rw [hwb]; simp [go_sem]))
  iterate 2 (exact (hX.frozen (by simp; omega)).trans (by rw [hwb]; simp [go_sem]))
 have HV:Hid (∀ wX,Below wb.heap.size wb wX->wX.heap[w.heap.size+1]?=some (.cells #[] 74)):=hidOf fun wX hX=>by
  rw [hX.block _ hzb,hwb]
  have:=heap_alloc_new (w.alloc (.cells #[.int .i64 0,.int .i64 0] 46)) (.cells #[] 74)
  rwa [World.size_alloc] at this
 have HEND:Hid (∀ (wX:World) (c d:Int),Below wb.heap.size wb wX->CompPost w ([],c,d) (.returned (.tuple #[.slice (some ⟨w.heap.size+1,0,none⟩) 0 0,.agg #[.int .i64 c,.int .i64 d]])) ((wX.setCell ⟨w.heap.size,0,none⟩ (.int .i64 c)).setCell ⟨w.heap.size,1,none⟩ (.int .i64 d))):=hidOf fun wX c d hX=>by
  refine ⟨_,0,rfl,?_,hbb.trans (((hX.mono (by omega)).setCell (by simp) _).setCell (by simp) _)⟩
  refine ((eOp_free (w.heap.size+1) (HV.out wX hX) (by omega)).kept (eGrown_set (World.grownBy.refl _ _) 0 _) ?_).kept (eGrown_set (World.grownBy.refl _ _) 1 _) ?_
  all_goals
   intro q hq
   have:w.heap.size+1=q:=by simpa [Value.ownBlock] using hq
   simp; omega
 have HWB:Hid (wb=_):=hwb
 have HBB:Hid (Below w.heap.size w wb):=hbb
 have HC:Hid _:=hC
 have HD:Hid _:=hD
 have HR1:Hid (ca ≠ 0->compR (xa,ca,da) (xb,cb,db) (zs,cc) (l,cd)=([],100+ca,da)):=hidOf fun h=>by unfold compR; rw [if_pos h]
 have HR2:Hid (ca=0->cb ≠ 0->compR (xa,ca,da) (xb,cb,db) (zs,cc) (l,cd)=([],200+cb,db)):=hidOf fun h h2=>by unfold compR; rw [if_neg (by simpa using h),if_pos h2]
 have HR3:Hid (ca=0->cb=0->cc ≠ 0->compR (xa,ca,da) (xb,cb,db) (zs,cc) (l,cd)=([],300+cc,0)):=hidOf fun h h2 h3=>by unfold compR; rw [if_neg (by simpa using h),if_neg (by simpa using h2),if_pos h3]
 have HR4:Hid (ca=0->cb=0->cc=0->cd ≠ 0->compR (xa,ca,da) (xb,cb,db) (zs,cc) (l,cd)=([],400+cd,0)):=hidOf fun h h2 h3 h4=>by unfold compR; rw [if_neg (by simpa using h),if_neg (by simpa using h2),if_neg (by simpa using h3),if_pos h4]
 have HR5:Hid (ca=0->cb=0->cc=0->cd=0->compR (xa,ca,da) (xb,cb,db) (zs,cc) (l,cd)=(l,0,0)):=hidOf fun h h2 h3 h4=>by unfold compR; rw [if_neg (by simpa using h),if_neg (by simpa using h2),if_neg (by simpa using h3),if_neg (by simpa using h4)]
 generalize compR (xa,ca,da) (xb,cb,db) (zs,cc) (l,cd)=R at *
 have HBq:Hid _:=hB
 have t1:=hidOf (hA wb)
 obtain ⟨bca0,bca1⟩:=bca
 obtain ⟨bcb0,bcb1⟩:=bcb
 obtain ⟨bcc0,bcc1⟩:=bcc
 obtain ⟨bcd0,bcd1⟩:=bcd
 clear hA hB hC hD hwb hbb
 go_enter Tryz.func22,Tryz.ntmps22
 go_wp2_with fail
 rw [<- HWB.out]
 refine t1.out.mono ?_
 rintro e w1 ⟨a1,c1,rfl,hr1,hb1⟩
 obtain ⟨w2,hw2⟩:∃ w2,w2=w1.alloc (.cells #[.int .i64 ca,.int .i64 da] 46):=⟨_,rfl⟩
 have hb12:Below w1.heap.size w1 w2:=by rw [hw2]; exact bal
 have hz2:w1.heap.size < w2.heap.size:=by rw [hw2]; simp
 have hb2:Below wb.heap.size wb w2:=hb1.trans (hb12.mono hb1.size)
 have x0:w2.cell? ⟨w1.heap.size,0,none⟩=some (.int .i64 ca):=by rw [hw2]; simp [go_sem]
 have x1:w2.cell? ⟨w1.heap.size,1,none⟩=some (.int .i64 da):=by rw [hw2]; simp [go_sem]
 have HW2:Hid (w2=_):=hw2
 have HB2:Hid (Below wb.heap.size wb w2):=hb2
 have HRA:Hid (∀ wX,Below w2.heap.size w2 wX->ERow eSpan wX wb.heap.size (.slice a1 xa.length c1) xa):=hidOf fun wX hX=>(hr1.below hb12).below hX
 obtain ⟨⟨q0,q1⟩,f0,f1⟩:=HQ.out w2 hb2
 have n1:w.heap.size < w1.heap.size:=by have:=hb1.size; omega
 clear t1 hr1 hb1 hb12 hb2 hw2
 go_upto_if 25 with fail
 rw [<- HW2.out]
 by_cases k1:ca=0
 case neg =>
  have kb:(ca != 0)=true:=by simpa using k1
  have W1:IntKind.i64.wrap (100+ca)=100+ca:=by rw [IntKind.wrap_i64]; omega
  obtain ⟨z0,z1⟩:=box2 (.int .i64 (100+ca)) (.int .i64 da) q0 q1
  have HE:=HEND.out w2 (100+ca) da HB2.out
  rw [<- HR1.out k1] at HE
  have HEH:Hid _:=HE
  clear HE
  go_wp2_with fail
  go_region
  go_wp2_with fail
  exact bodyPost_ret (v:=.tuple #[.slice (some ⟨w.heap.size+1,0,none⟩) 0 0,.agg #[.int .i64 (100+ca),.int .i64 da]]) (by simp [results,Tryz.results22,go_sem,z0,z1]) rfl (CompPost.drew HEH.out)
 case pos =>
 have kb:(ca != 0)=false:=by simpa using k1
 have t3:=hidOf (HBq.out w2)
 clear HR1 x0 x1 q0 q1 f0 f1 HBq
 go_wp2_with fail
 refine t3.out.mono ?_
 rintro e w3 ⟨a3,c3,rfl,hr3,hb3⟩
 obtain ⟨w4,hw4⟩:∃ w4,w4=w3.alloc (.cells #[.int .i64 cb,.int .i64 db] 46):=⟨_,rfl⟩
 have hb34:Below w3.heap.size w3 w4:=by rw [hw4]; exact bal
 have hz4:w3.heap.size < w4.heap.size:=by rw [hw4]; simp
 have hb24:Below w2.heap.size w2 w4:=hb3.trans (hb34.mono hb3.size)
 have hb4:Below wb.heap.size wb w4:=HB2.out.trans (hb24.mono HB2.out.size)
 have x0:w4.cell? ⟨w3.heap.size,0,none⟩=some (.int .i64 cb):=by rw [hw4]; simp [go_sem]
 have x1:w4.cell? ⟨w3.heap.size,1,none⟩=some (.int .i64 db):=by rw [hw4]; simp [go_sem]
 have HW4:Hid (w4=_):=hw4
 have HB4:Hid (Below wb.heap.size wb w4):=hb4
 have HRB:Hid (∀ wX,Below w4.heap.size w4 wX->ERow eSpan wX w2.heap.size (.slice a3 xb.length c3) xb):=hidOf fun wX hX=>(hr3.below hb34).below hX
 have t5:=hidOf (HC.out a1 c1 _ w4 (HRA.out w4 hb24))
 obtain ⟨⟨q0,q1⟩,f0,f1⟩:=HQ.out w4 hb4
 have n3:w.heap.size < w3.heap.size:=by have:=hb3.size; omega
 clear t3 hr3 hb3 hb34 hb24 hb4 hw4 HRA HC
 go_upto_if 40 with fail
 rw [<- HW4.out]
 by_cases k2:cb=0
 case neg =>
  have kb2:(cb != 0)=true:=by simpa using k2
  have W1:IntKind.i64.wrap (200+cb)=200+cb:=by rw [IntKind.wrap_i64]; omega
  obtain ⟨z0,z1⟩:=box2 (.int .i64 (200+cb)) (.int .i64 db) q0 q1
  have HE:=HEND.out w4 (200+cb) db HB4.out
  rw [<- HR2.out k1 k2] at HE
  have HEH:Hid _:=HE
  clear HE
  go_wp2_with fail
  go_region
  go_wp2_with fail
  exact bodyPost_ret (v:=.tuple #[.slice (some ⟨w.heap.size+1,0,none⟩) 0 0,.agg #[.int .i64 (200+cb),.int .i64 db]]) (by simp [results,Tryz.results22,go_sem,z0,z1]) rfl (CompPost.drew HEH.out)
 case pos =>
 have kb2:(cb != 0)=false:=by simpa using k2
 clear HR2 x0 x1 q0 q1 f0 f1
 go_wp2_with fail
 refine t5.out.mono ?_
 rintro e w5 ⟨a5,c5,rfl,hr5,hb5⟩
 obtain ⟨w6,hw6⟩:∃ w6,w6=w5.alloc (.cells #[.slice a5 zs.length c5] 31):=⟨_,rfl⟩
 have hb56:Below w5.heap.size w5 w6:=by rw [hw6]; exact bal
 have hb46:Below w4.heap.size w4 w6:=hb5.trans (hb56.mono hb5.size)
 have hb6:Below wb.heap.size wb w6:=HB4.out.trans (hb46.mono HB4.out.size)
 have x0:w6.cell? ⟨w5.heap.size,0,none⟩=some (.slice a5 zs.length c5):=by rw [hw6]; simp [go_sem]
 have HW6:Hid (w6=_):=hw6
 have HB6:Hid (Below wb.heap.size wb w6):=hb6
 have HRC:Hid (ERow eWord w6 w4.heap.size (.slice a5 zs.length c5) zs):=hidOf (hr5.below hb56)
 have HRB6:Hid (ERow eSpan w6 w2.heap.size (.slice a3 xb.length c3) xb):=hidOf (HRB.out w6 hb46)
 obtain ⟨⟨q0,q1⟩,f0,f1⟩:=HQ.out w6 hb6
 clear t5 hr5 hb5 hb56 hb46 hb6 hw6 HRB
 go_upto_if 55 with fail
 rw [<- HW6.out]
 by_cases k3:cc=0
 case neg =>
  have kb3:(cc != 0)=true:=by simpa using k3
  have W1:IntKind.i64.wrap (300+cc)=300+cc:=by rw [IntKind.wrap_i64]; omega
  have HE:=HEND.out w6 (300+cc) 0 HB6.out
  rw [<- HR3.out k1 k2 k3] at HE
  have HEH:Hid _:=HE
  clear HE
  go_wp2_with fail
  exact bodyPost_ret (v:=.tuple #[.slice (some ⟨w.heap.size+1,0,none⟩) 0 0,.agg #[.int .i64 (300+cc),.int .i64 0]]) (by simp [results,Tryz.results22,go_sem,q0,q1]) rfl HEH.out
 case pos =>
 have kb3:(cc != 0)=false:=by simpa using k3
 obtain ⟨gz,ez,_,hcz,hcr⟩:=ew_row HRC.out (hzs k3)
 subst ez
 have t7:=hidOf (HD.out gz c5 a3 c3 _ w6 k3 hcr hcz HRB6.out)
 clear HR3 q0 q1 f0 f1 hcr hcz
 go_wp2_with fail
 refine t7.out.mono ?_
 rintro e w7 ⟨a7,c7,rfl,hr7,hb7⟩
 have hb67:Below wb.heap.size wb w7:=HB6.out.trans (hb7.mono HB6.out.size)
 obtain ⟨⟨q0,q1⟩,f0,f1⟩:=HQ.out w7 hb67
 have HB7:Hid (Below wb.heap.size wb w7):=hb67
 have HR7:Hid (ERow eOp w7 w6.heap.size (.slice a7 l.length c7) l):=hr7
 have s6:wb.heap.size<=w6.heap.size:=HB6.out.size
 clear hr7 hb7 hb67 t7
 by_cases k4:cd=0
 case neg =>
  have kb4:(cd != 0)=true:=by simpa using k4
  have W1:IntKind.i64.wrap (400+cd)=400+cd:=by rw [IntKind.wrap_i64]; omega
  have HE:=HEND.out w7 (400+cd) 0 HB7.out
  rw [<- HR4.out k1 k2 k3 k4] at HE
  have HEH:Hid _:=HE
  clear HE
  go_wp2_with fail
  exact bodyPost_ret (v:=.tuple #[.slice (some ⟨w.heap.size+1,0,none⟩) 0 0,.agg #[.int .i64 (400+cd),.int .i64 0]]) (by simp [results,Tryz.results22,go_sem,q0,q1]) rfl HEH.out
 case pos =>
 have kb4:(cd != 0)=false:=by simpa using k4
 have HE:CompPost w (l,0,0) (.returned (.tuple #[.slice a7 l.length c7,.agg #[.int .i64 0,.int .i64 0]])) ((w7.setCell ⟨w.heap.size,0,none⟩ (.int .i64 0)).setCell ⟨w.heap.size,1,none⟩ (.int .i64 0)):=by
  refine ⟨a7,c7,rfl,?_,HBB.out.trans (((HB7.out.mono (by omega)).setCell (by simp) _).setCell (by simp) _)⟩
  refine (ERow.kept (ERow.kept HR7.out (eGrown_set (g:=w.heap.size) (World.grownBy.refl _ _) 0 (.int .i64 0)) ?_) (eGrown_set (g:=w.heap.size) (World.grownBy.refl _ _) 1 (.int .i64 0)) ?_).rebase (by omega)
  all_goals
   intro q hq
   have:=(HR7.out.own q hq).1
   simp
   omega
 rw [<- HR5.out k1 k2 k3 k4] at HE
 have HEH:Hid _:=HE
 clear HE
 go_wp2_with fail
 exact bodyPost_ret (v:=.tuple #[.slice a7 l.length c7,.agg #[.int .i64 0,.int .i64 0]]) (by simp [results,Tryz.results22,go_sem,q0,q1]) rfl HEH.out
end Go.Proofs.YtnmhkgmmpkjjeacGreat
namespace Go.Proofs.YtnmhkgmmpkjjeacGreat
open Go.ChangeShapes Go.WideShapes Go.ChangeAt Go.RowKit
set_option linter.unusedVariables false
set_option maxRecDepth 100000
def W64 (x:Int):Prop:=0<=x/\x < 2 ^ 64
theorem encI_b (l k o p:Int):W64 (encI l k o p):=by
 unfold encI W64
 split
 ·rename_i h
  unfold encW
  split <;> omega
 ·omega
theorem rgt_b (H:Nat->Ht) (all:List P3) (lv pg:Int):W64 (rgt H all lv pg):=by
 unfold rgt
 repeat' split
 all_goals first | exact encI_b _ _ _ _ | exact ⟨by omega,by omega⟩
def OpsW (l:List OpE):Prop:=∀ o ∈ l,o.kind=1->W64 o.word
theorem OpsW.app {l m:List OpE} (h1:OpsW l) (h2:OpsW m):OpsW (l ++ m):=fun o ho=>(List.mem_append.1 ho).elim (h1 o) (h2 o)
theorem OpsW.seal {l:List OpE} (h:OpsW l):OpsW (sealO l):=by
 unfold sealO
 split
 ·intro o ho; cases ho
 ·refine h.app (fun o ho hk=>?_)
  rw [List.mem_singleton] at ho
  subst ho
  cases hk
theorem planL_w (zs:List Int) (n:Nat) (H:Nat->Ht) (ps:List P3):OpsW (planL zs n H ps):=by
 unfold planL
 refine OpsW.app (OpsW.seal (fun o ho hk=>?_)) (OpsW.app (OpsW.seal (fun o ho hk=>?_)) (OpsW.app (fun o ho hk=>?_) (OpsW.app (OpsW.seal (fun o ho hk=>?_)) (OpsW.seal (fun o ho hk=>?_)))))
 ·unfold brkOps at ho
  obtain ⟨e,he,rfl⟩:=List.mem_map.1 ho
  exact (show W64 0 from ⟨by decide,by decide⟩)
 ·unfold tlbOps at ho
  obtain ⟨e,he,rfl⟩:=List.mem_map.1 ho
  cases hk
 ·unfold freeOps at ho
  obtain ⟨e,he,rfl⟩:=List.mem_map.1 ho
  cases hk
 ·unfold fillOps at ho
  obtain ⟨t,ht,ho⟩:=List.mem_flatMap.1 ho
  unfold fillOne at ho
  obtain ⟨i,hi,rfl⟩:=List.mem_map.1 ho
  exact rgt_b _ _ _ _
 ·unfold lnkOps at ho
  obtain ⟨e,he,rfl⟩:=List.mem_map.1 ho
  exact rgt_b _ _ _ _
theorem wrs_w:∀ (l:List OpE) (zs:List Int),OpsW l->(∀ i,W64 (zs.getD i 0))->∀ i,W64 ((wrs zs l).getD i 0)
 | [],zs,_,hz=>hz
 | o :: l,zs,hl,hz=>by
  show ∀ i,W64 ((wrs (wr1 zs o) l).getD i 0)
  refine wrs_w l (wr1 zs o) (fun o' ho'=>hl o' (List.mem_cons_of_mem _ ho')) (fun i=>?_)
  unfold wr1
  split
  ·rename_i hk
   have:=hl o List.mem_cons_self hk
   rw [List.getD_eq_getElem?_getD,List.getElem?_set]
   split
   ·split
    ·exact this
    ·exact ⟨by decide,by decide⟩
   ·have:=hz i
    rw [List.getD_eq_getElem?_getD] at this
    exact this
  ·exact hz i
theorem planF_zero {zs:List Int} {xs:List SpanE} (h:(planF zs xs).2=0):ptree zs=true/\vsB xs=true/\¬ nfr zs.length < ((wPre (lay xs) 256).length:Nat):=by
 by_cases h1:ptree zs=true
 ·by_cases h2:vsB xs=true
  ·by_cases h3:nfr zs.length < ((wPre (lay xs) 256).length:Nat)
   ·rw [planF_3 h1 h2 h3] at h; cases h
   ·exact ⟨h1,h2,h3⟩
  ·rw [planF_2 h1 (by simpa using h2)] at h; cases h
 ·rw [planF_1 (by simpa using h1)] at h; cases h
theorem build_w (xs:List SpanE) (fr:Int) (h:(buildF xs fr).2=0):0 < (buildF xs fr).1.length/\∀ i,0<=(buildF xs fr).1.getD i 0/\(buildF xs fr).1.getD i 0 < 2 ^ 64:=by
 unfold buildF at h ⊢
 split at h
 ·cases h
 ·rename_i hv
  rw [if_neg hv]
  split at h
  ·cases h
  ·rename_i hf
   rw [if_neg hf]
   split at h
   ·cases h
   ·rename_i hp
    rw [if_neg hp]
    have hp0:(planF (zeroZ fr.toNat) xs).2=0:=by simpa using hp
    obtain ⟨p1,p2,p3⟩:=planF_zero hp0
    rw [planF_0 p1 p2 p3]
    refine ⟨?_,?_⟩
    ·show 0 < (wrs _ _).length
     rw [wrs_len,zeroZ_len]
     omega
    ·exact wrs_w _ _ (planL_w _ _ _ _) (fun i=>by rw [zeroZ_at]; exact ⟨by decide,by decide⟩)
theorem buildF_c (xs:List SpanE) (fr:Int):0<=(buildF xs fr).2/\(buildF xs fr).2<=3:=by
 unfold buildF
 split
 ·exact ⟨by decide,by decide⟩
 ·split
  ·exact ⟨by decide,by decide⟩
  ·split
   ·exact ⟨by decide,by decide⟩
   ·exact ⟨Int.le_refl 0,(by decide:(0:Int)<=3)⟩
theorem planF_c (zs:List Int) (xs:List SpanE):0<=(planF zs xs).2/\(planF zs xs).2<=3:=by
 by_cases h1:ptree zs=true
 ·by_cases h2:vsB xs=true
  ·by_cases h3:nfr zs.length < ((wPre (lay xs) 256).length:Nat)
   ·rw [planF_3 h1 h2 h3]; exact ⟨by decide,by decide⟩
   ·rw [planF_0 h1 h2 h3]; exact ⟨Int.le_refl 0,(by decide:(0:Int)<=3)⟩
  ·rw [planF_2 h1 (by simpa using h2)]; exact ⟨by decide,by decide⟩
 ·rw [planF_1 (by simpa using h1)]; exact ⟨by decide,by decide⟩
end Go.Proofs.YtnmhkgmmpkjjeacGreat
namespace Go.Proofs.YtnmhkgmmpkjjeacGreat
open Go.ChangeShapes Go.WideShapes Go.ChangeAt Go.RowKit
set_option linter.unusedVariables false
set_option linter.unusedSimpArgs false
set_option maxRecDepth 100000
structure SpK (e:SpanE):Prop where
 p:0<=e.page/\e.page<=4096
 c:0<=e.count/\e.count<=4096
 o:-2000000<=e.out/\e.out<=2000000
 r:0<=e.perm/\e.perm<=7
theorem piece_p {all:List St} (hok:∀ s ∈ all,StOk s) (p:Int):0<=(pieceL all p).perm/\(pieceL all p).perm<=7:=by
 unfold pieceL
 split
 ·rename_i s h
  have:=hok s (List.mem_of_find?_eq_some h)
  exact ⟨this.p0,this.p1⟩
 ·exact ⟨by decide,by decide⟩
theorem spans_p {all:List St} (hok:∀ s ∈ all,StOk s):∀ k,∀ e ∈ spansTo all k,0<=e.perm/\e.perm<=7
 | 0=>by intro e he; simp [spansTo] at he
 | k+1=>by
  intro e he
  have hp:=piece_p hok (k:Nat)
  have ih:=spans_p hok k
  unfold spansTo spanStep at he
  generalize pieceL all (k:Nat)=s at *
  split at he
  ·split at he
   ·rename_i hj
    rcases List.mem_or_eq_of_mem_set he with h | h
    ·exact ih e h
    ·subst h
     have hm:lastS (spansTo all k) ∈ spansTo all k:=by
      unfold lastS eAt
      rw [List.getD_eq_getElem?_getD,List.getElem?_eq_getElem (by have:=hj.1; omega)]
      exact List.getElem_mem _
     have h5:=ih _ hm
     exact h5
   ·rcases List.mem_append.1 he with h | h
    ·exact ih e h
    ·rw [List.mem_singleton.1 h]; exact hp
  ·exact ih e he
theorem polE_k (ts:List Txt) (es:List Nat):(polE ts es).1.length<=4096/\∀ e ∈ (polE ts es).1,SpK e:=by
 unfold polE
 split
 ·exact ⟨Nat.zero_le _,fun e he=>by simp at he⟩
 ·split
  ·exact ⟨Nat.zero_le _,fun e he=>by simp at he⟩
  ·obtain ⟨h1,h2⟩:=spans_w (allTo_ok ts es es.length) 4096 (Nat.le_refl _)
   have h3:=spans_p (allTo_ok ts es es.length) 4096
   exact ⟨h1,fun e he=>⟨⟨(h2 e he).1,(h2 e he).2.1⟩,⟨(h2 e he).2.2.1,(h2 e he).2.2.2.1⟩,⟨(h2 e he).2.2.2.2.1,(h2 e he).2.2.2.2.2⟩,h3 e he⟩⟩
theorem polL_k (l:Txt):(polL l).1.length<=4096/\∀ e ∈ (polL l).1,SpK e:=by
 unfold polL polT
 split
 ·exact ⟨Nat.zero_le _,fun e he=>by simp at he⟩
 ·split
  ·exact ⟨Nat.zero_le _,fun e he=>by simp at he⟩
  ·split
   ·exact ⟨Nat.zero_le _,fun e he=>by simp at he⟩
   ·exact polE_k _ _
end Go.Proofs.YtnmhkgmmpkjjeacGreat
namespace Go.Proofs.YtnmhkgmmpkjjeacGreat
open Go.ChangeShapes Go.WideShapes Go.ChangeAt Go.RowKit
set_option linter.unusedVariables false
set_option maxRecDepth 100000
theorem codeL_c (all:List St) (s:St):0<=codeL all s/\codeL all s<=10:=by
 unfold codeL
 repeat' split
 all_goals exact ⟨by decide,by decide⟩
theorem polL_c (l:Txt):0<=(polL l).2.1/\(polL l).2.1<=10:=by
 unfold polL polT
 split
 ·dsimp only; omega
 split
 ·dsimp only; omega
 split
 ·dsimp only; omega
 unfold polE
 split
 ·exact codeL_c _ _
 split
 ·dsimp only; omega
 ·dsimp only; omega
theorem polL_wf (l:Txt):∀ i,i < (polL l).1.length->wfS (eAt eSpan (polL l).1 i):=fun i hi=>by
 have hm:eAt eSpan (polL l).1 i ∈ (polL l).1:=by
  unfold eAt
  rw [List.getD_eq_getElem?_getD,List.getElem?_eq_getElem hi]
  exact List.getElem_mem hi
 have h:=(polL_k l).2 _ hm
 have:=h.p; have:=h.c; have:=h.o; have:=h.r
 unfold wfS
 omega
def compF (ta tb:Txt) (fr:Int):List OpE × Int × Int:=compR (polL ta) (polL tb) (buildF (polL ta).1 fr) (planF (buildF (polL ta).1 fr).1 (polL tb).1)
theorem compF_len (ta tb:Txt) (fr:Int):(compF ta tb fr).1.length<=200000:=by
 unfold compF compR
 repeat' split
 all_goals first | exact Nat.zero_le _ | exact planF_len0 _ _
end Go.Proofs.YtnmhkgmmpkjjeacGreat
namespace Go.Proofs.YtnmhkgmmpkjjeacGreat
open Go.ChangeShapes Go.WideShapes Go.ChangeAt Go.RowKit
set_option linter.unusedVariables false
set_option linter.unusedSimpArgs false
set_option maxRecDepth 100000
attribute [local go_sem ↓] Go.wp_at_zero Go.wp_at_succ
theorem objOf_mem {all:List St} {n:Txt} (h:(objOf all n).kind=1):objOf all n ∈ all:=by
 induction all with
 | nil=>cases h
 | cons e r ih =>
  unfold objOf at h ⊢
  split
  ·exact List.mem_cons_self
  ·rename_i hx
   rw [if_neg hx] at h
   exact List.mem_cons_of_mem _ (ih h)
theorem good_regs {all:List St} (h:Good all):(∀ r ∈ regsOf all,spanOk r=true)/\(regsOf all).Pairwise (fun x y=>x.page+x.count<=y.page\/y.page+y.count<=x.page):=by
 have hz:∀ e,e.kind=2->szOf all e=(objOf all e.name).a:=fun e he=>by unfold szOf; simp [he]
 constructor
 ·intro r hr
  unfold regsOf at hr
  obtain ⟨e,he,rfl⟩:=List.mem_map.1 hr
  obtain ⟨m1,m2⟩:=List.mem_filter.1 he
  have k2:e.kind=2:=by simpa using m2
  obtain ⟨f1,f2⟩:=h.f e m1 (by omega)
  rw [hz e k2] at f1 f2
  have hm:=objOf_mem (h.o e m1 k2)
  have hg:=h.g _ hm (h.o e m1 k2)
  have so:=h.s _ hm
  have se:=h.s e m1
  have b0:=so.b0; have a0:=se.a0; have p1:=se.p1; have p0:=h.p e m1 k2
  rw [spanOk_iff]
  unfold regOf
  dsimp only
  omega
 ·unfold regsOf
  rw [List.pairwise_map]
  refine (h.d.filter _).imp_of_mem (fun {x y} hx hy hxy=>?_)
  obtain ⟨mx,kx⟩:=List.mem_filter.1 hx
  obtain ⟨my,ky⟩:=List.mem_filter.1 hy
  have kx2:x.kind=2:=by simpa using kx
  have ky2:y.kind=2:=by simpa using ky
  have:=hxy (by omega) (by omega)
  rw [hz x kx2,hz y ky2] at this
  unfold meetB at this
  unfold regOf
  simp at this ⊢
  omega
theorem sorted_gap {rs' rs:List SpanE} (hp:rs'.Perm rs) (hs:rs'.Pairwise (fun x y=>x.page<=y.page)) (hd:rs.Pairwise (fun x y=>x.page+x.count<=y.page\/y.page+y.count<=x.page)) (ho:∀ r ∈ rs,spanOk r=true):rs'.Pairwise (fun x y=>x.page+x.count<=y.page):=by
 have hd':rs'.Pairwise (fun x y=>x.page+x.count<=y.page\/y.page+y.count<=x.page):=(hp.pairwise_iff (fun {x y} h=>h.symm)).2 hd
 rw [List.pairwise_iff_getElem] at hs hd' ⊢
 intro i j hi hj hij
 have h1:=hs i j hi hj hij
 have h2:=hd' i j hi hj hij
 have h3:=ho _ (hp.mem_iff.1 (List.getElem_mem hj))
 rw [spanOk_iff] at h3
 omega
def RpPost (w:World) (r:List SpanE × Int × Int) (e:Ending) (w':World):Prop:=∃ a c,e=.returned (.tuple #[.slice a r.1.length c,.agg #[.int .i64 r.2.1,.int .i64 r.2.2]])/\ERow eSpan w' w.heap.size (.slice a r.1.length c) r.1/\Below w.heap.size w w'
theorem polL_fault (l:Txt) (h:(polL l).2.1 ≠ 0):(polL l).1=[]:=by
 unfold polL at h ⊢
 split
 ·rfl
 ·rename_i h1
  rw [if_neg h1] at h
  split
  ·rfl
  ·rename_i h2
   rw [if_neg h2] at h
   unfold polT at h ⊢
   split
   ·rfl
   ·rename_i h3
    rw [if_neg h3] at h
    unfold polE at h ⊢
    split
    ·rfl
    ·rename_i hf
     rw [hf] at h
     dsimp only at h
     split
     ·rfl
     ·rename_i h4
      rw [if_neg h4] at h
      exact absurd rfl h
set_option maxHeartbeats 2000000 in
theorem implRead_any (l:Txt) (w:World) (hl:l.length<=9223372036854775807):Calls Tryz.prog 83 #[.string (bs l)] w (RpPost w (polL l)):=by
 have HF:Hid ((polL l).2.1 ≠ 0->(polL l).1=[]):=hidP (polL_fault l)
 have hmk:∀ w:World,(Instr.makeMap 178 none).run Tryz.prog w=.ok (.map (some w.heap.size)) (w.alloc (.map #[] 0)):=fun w=>rfl
 obtain ⟨w3,hw3⟩:∃ w3,w3=((w.alloc (.cells #[.int .i64 0,.int .i64 0] 46)).alloc (.map #[] 0)).alloc (.cells #[.map (some (w.heap.size+1)),.slice none 0 0,.slice none 0 0,.slice none 0 0,.int .i64 0,.slice none 0 0] 181):=⟨_,rfl⟩
 have hb3:Below w.heap.size w w3:=by rw [hw3]; exact (bal.alloc (by simp) _).alloc (by simp; omega) _
 have HZ3:Hid (w.heap.size+2 < w3.heap.size):=hidP (by rw [hw3]; simp)
 have HD3:Hid (w3.cell? ⟨w.heap.size,0,none⟩=some (.int .i64 0)/\w3.cell? ⟨w.heap.size,1,none⟩=some (.int .i64 0)/\w3.frozen? ⟨w.heap.size,0,none⟩=false/\w3.frozen? ⟨w.heap.size,1,none⟩=false):=hidP (by rw [hw3]; refine ⟨?_,?_,?_,?_⟩ <;> simp [go_sem])
 have HPB:Hid (PB w3 (w.heap.size+2) (w.heap.size+1)):=hidP (by
  rw [hw3]
  refine ⟨?_,?_,?_,?_,?_,?_,?_,?_,by simp,by simp,by omega⟩
  rotate_left 7
  ·have:=MapO.new (w.alloc (.cells #[.int .i64 0,.int .i64 0] 46))
   rw [World.size_alloc] at this
   exact this.of_block (Below.heap_alloc _ _ _ (by simp))
  all_goals (first | (intro i; simp [go_sem]; done) | (simp [go_sem]; done))
 )
 have HW3:Hid (w3=_):=hw3
 have HB3:Hid (Below w.heap.size w w3):=hb3
 have t1:=hidP (firstFault_any l (w.heap.size+2) (w.heap.size+1) w3 hl HPB.out)
 generalize polL l=r at *
 clear hb3 hw3
 go_enter Tryz.func83,Tryz.ntmps83
 go_wp2_with fail
 rw [<- HW3.out]
 refine t1.out.mono ?_
 rintro e w4 ⟨rfl,ht4,hyes⟩
 obtain ⟨w5,hw5⟩:∃ w5,w5=w4.alloc (.cells #[.int .i64 r.2.1,.int .i64 r.2.2] 46):=⟨_,rfl⟩
 have hb5:Below w4.heap.size w4 w5:=by rw [hw5]; exact bal
 have HW5:Hid (w5=_):=hw5
 have hz4:w.heap.size+2 < w4.heap.size:=Nat.lt_of_lt_of_le HZ3.out ht4.size
 have hz5:w4.heap.size < w5.heap.size:=by rw [hw5]; simp
 have e4:w4.heap[w.heap.size]?=w3.heap[w.heap.size]?:=ht4.block _ (by have:=HZ3.out; omega) (by show ¬ (_\/_); omega)
 have e5:w5.heap[w.heap.size]?=w3.heap[w.heap.size]?:=(hb5.block _ (by omega)).trans e4
 have d0:=(World.cell?_of_block (a:=⟨w.heap.size,0,none⟩) e5).trans HD3.out.1
 have d1:=(World.cell?_of_block (a:=⟨w.heap.size,1,none⟩) e5).trans HD3.out.2.1
 have g0:=(World.frozen?_of_block (a:=⟨w.heap.size,0,none⟩) e5).trans HD3.out.2.2.1
 have g1:=(World.frozen?_of_block (a:=⟨w.heap.size,1,none⟩) e5).trans HD3.out.2.2.2
 have x0:w5.cell? ⟨w4.heap.size,0,none⟩=some (.int .i64 r.2.1):=by rw [hw5]; simp [go_sem]
 have x1:w5.cell? ⟨w4.heap.size,1,none⟩=some (.int .i64 r.2.2):=by rw [hw5]; simp [go_sem]
 have HT4:=hidP ht4
 have HB4:Hid (Below w.heap.size w w4):=hidP ⟨ht4.os.trans HB3.out.os,ht4.tape.trans HB3.out.tape,ht4.output.trans HB3.out.output,Nat.le_trans HB3.out.size ht4.size,fun k hk=>(ht4.block k (by have:=HZ3.out; omega) (by show ¬ (_\/_); omega)).trans (HB3.out.block k hk)⟩
 have HB5:Hid (Below w.heap.size w w5):=hidP (HB4.out.trans (hb5.mono (by omega)))
 have HBE:=hidP hb5
 clear hw5 ht4 e4 e5 t1 hb5
 by_cases hc:r.2.1=0
 ·obtain ⟨all,at_,B,v,hgd,hr,hB,hp,hal⟩:=hyes hc
  have hp5:=hp.below HBE.out
  have c3:w5.cell? ⟨w.heap.size+1+1,3,none⟩=some (.slice v.ra (regsOf all).length v.rc):=hp5.c3
  obtain ⟨hok,hdj⟩:=good_regs hgd
  have t2:=hidP (joinSpans_any v.ra v.rc B (regsOf all) w5 hp5.rr (by have:=(lens_le all).2.2; omega) hok)
  have HOW:Hid (∀ k,oP v.ra=some k->w3.heap.size<=k):=hidP (fun k hk=>Nat.le_trans hB (hp.of.2.2 k hk).1)
  have HOK:=hidP hok
  have HDJ:=hidP hdj
  have HRR:Hid (r=(spansTo all 4096,0,0)):=hr
  rw [hr] at HW5 x0 x1
  have hc0:((0:Int) != 0)=false:=rfl
  clear hyes hp hp5 hok hdj hgd hc hal
  dsimp only at HW5 x0 x1
  subst hr
  go_upto_region 3 with fail
  rw [<- HW5.out]
  go_wp2_with fail
  refine t2.out.mono ?_
  rintro e w6 ⟨rs',a',c',hpm,hso,rfl,hrow,ht6⟩
  have hj:joinL rs'=spansTo all 4096:=join_sorted hpm (sorted_gap hpm hso HDJ.out HOK.out) (fun r hr=>by have:=HOK.out r hr; rw [spanOk_iff] at this; omega)
  rw [hj] at hrow ⊢
  have e6:w6.heap[w.heap.size]?=w5.heap[w.heap.size]?:=ht6.block _ (by omega) (fun e=>by have:=HOW.out _ e; have:=HZ3.out; omega)
  replace d0:=(World.cell?_of_block (a:=⟨w.heap.size,0,none⟩) e6).trans d0
  replace d1:=(World.cell?_of_block (a:=⟨w.heap.size,1,none⟩) e6).trans d1
  replace g0:=(World.frozen?_of_block (a:=⟨w.heap.size,0,none⟩) e6).trans g0
  replace g1:=(World.frozen?_of_block (a:=⟨w.heap.size,1,none⟩) e6).trans g1
  have HB6:Hid (Below w.heap.size w w6):=hidP ⟨ht6.os.trans HB5.out.os,ht6.tape.trans HB5.out.tape,ht6.output.trans HB5.out.output,Nat.le_trans HB5.out.size ht6.size,fun k hk=>(ht6.block k (by omega) (fun e=>by have:=HOW.out _ e; have:=HZ3.out; omega)).trans (HB5.out.block k hk)⟩
  have HR6:Hid (ERow eSpan w6 w5.heap.size (.slice a' (spansTo all 4096).length c') (spansTo all 4096)):=hidP hrow
  clear hpm hso hj hrow ht6 e6 t2 c3 x0 x1
  go_wp2_with fail
  obtain ⟨w7,hw7⟩:∃ w7,w7=(w6.setCell ⟨w.heap.size,0,none⟩ (.int .i64 0)).setCell ⟨w.heap.size,1,none⟩ (.int .i64 0):=⟨_,rfl⟩
  have c0:w7.cell? ⟨w.heap.size,0,none⟩=some (.int .i64 0):=by rw [hw7]; exact (pcell (by omega)).trans (World.cell?_setCell_same _ _ _ d0)
  have c1:w7.cell? ⟨w.heap.size,1,none⟩=some (.int .i64 0):=by rw [hw7]; exact World.cell?_setCell_same _ _ _ ((pcell (by omega)).trans d1)
  have t7:Touch (fun k=>k=w.heap.size) w6 w7:=by rw [hw7]; exact (pset (a:=⟨w.heap.size,0,none⟩)).trans (pset (a:=⟨w.heap.size,1,none⟩))
  have HB7:Hid (Below w.heap.size w w7):=hidP (by rw [hw7]; exact (HB6.out.setCell (by simp) _).setCell (by simp) _)
  have HR7:Hid (ERow eSpan w7 w.heap.size (.slice a' (spansTo all 4096).length c') (spansTo all 4096)):=hidP ((HR6.out.touch t7 (fun k hk e=>by have:=(HR6.out.own k hk).1; omega)).rebase (by omega))
  rw [<- hw7]
  exact bodyPost_ret (v:=.tuple #[.slice a' (spansTo all 4096).length c',.agg #[.int .i64 0,.int .i64 0]]) (by simp [results,Tryz.results83,go_sem,c0,c1]) rfl ⟨a',c',rfl,HR7.out,HB7.out⟩
 ·have hcb:(r.2.1 != 0)=true:=by simpa using hc
  have HN:Hid (r.1=[]):=hidP (HF.out hc)
  have HS:Hid (∀ wX,Below w5.heap.size w5 wX->wX.cell? ⟨w4.heap.size,0,none⟩=some (.int .i64 r.2.1)/\wX.cell? ⟨w4.heap.size,1,none⟩=some (.int .i64 r.2.2)):=hidP (fun wX hX=>⟨(hX.cell (p:=⟨w4.heap.size,0,none⟩) hz5).trans x0,(hX.cell (p:=⟨w4.heap.size,1,none⟩) hz5).trans x1⟩)
  clear hyes hc
  obtain ⟨w7,hw7⟩:∃ w7,w7=((w5.setCell ⟨w.heap.size,0,none⟩ (.int .i64 r.2.1)).setCell ⟨w.heap.size,1,none⟩ (.int .i64 r.2.2)).drew:=⟨_,rfl⟩
  have c0:w7.cell? ⟨w.heap.size,0,none⟩=some (.int .i64 r.2.1):=by rw [hw7]; exact (pcell (by omega)).trans (World.cell?_setCell_same _ _ _ d0)
  have c1:w7.cell? ⟨w.heap.size,1,none⟩=some (.int .i64 r.2.2):=by rw [hw7]; exact World.cell?_setCell_same _ _ _ ((pcell (by omega)).trans d1)
  have HB7:Hid (Below w.heap.size w w7):=hidP (by rw [hw7]; exact ((HB5.out.setCell (by simp) _).setCell (by simp) _).drew)
  have HS7:Hid (w7.cell? ⟨w4.heap.size,0,none⟩=some (.int .i64 r.2.1)/\w7.cell? ⟨w4.heap.size,1,none⟩=some (.int .i64 r.2.2)):=hidP (by
   have e:w7.heap[w4.heap.size]?=w5.heap[w4.heap.size]?:=by rw [hw7]; exact (Below.heap_setCell _ _ _ _ (by show _ ≠ w.heap.size; omega)).trans (Below.heap_setCell _ _ _ _ (by show _ ≠ w.heap.size; omega))
   exact ⟨(World.cell?_of_block e).trans x0,(World.cell?_of_block e).trans x1⟩)
  have HW7:Hid (w7=_):=hw7
  clear hw7
  go_upto_region 3 with fail
  rw [<- HW5.out]
  go_wp2_with fail
  refine wp_region_held_drew (S:=fun wX=>wX.cell? ⟨w4.heap.size,0,none⟩=some (.int .i64 r.2.1)/\wX.cell? ⟨w4.heap.size,1,none⟩=some (.int .i64 r.2.2)) (by kernel_rfl) (HS.out _ (Below.refl _ _).drew) (fun hHeld=>?_)
  refine tk 0 ?_
  refine tk 1 ?_
  refine wpAnyH_ready (rs:=[2]) (by kernel_rfl) (by simp) ?_
  refine AllReadyH.cons rfl (fun K hK=>?_) AllReadyH.nil
  go_simp
  rw [<- HW7.out]
  refine hK.out _ _ HS7.out (fun hHeld2=>?_)
  clear hK K hHeld hHeld2
  refine wpAnyH_done (by kernel_rfl) ?_ _
  go_wp2_with fail
  refine bodyPost_ret (v:=.tuple #[.slice none 0 0,.agg #[.int .i64 r.2.1,.int .i64 r.2.2]]) (by simp [results,Tryz.results83,go_sem,c0,c1]) rfl ⟨none,0,?_,?_,HB7.out⟩
  ·rw [HN.out]; rfl
  ·rw [HN.out]; exact ⟨by simp [ecells],.inl ⟨rfl,rfl⟩⟩
end Go.Proofs.YtnmhkgmmpkjjeacGreat
namespace Go.Proofs.YtnmhkgmmpkjjeacGreat
open Go.ChangeShapes Go.WideShapes Go.ChangeAt Go.RowKit
set_option linter.unusedVariables false
set_option linter.unusedSimpArgs false
set_option maxRecDepth 100000
attribute [local go_sem ↓] Go.wp_at_zero Go.wp_at_succ
attribute [local go_sem] bs_size bs_cAt bs_app bs_mk bs_cut bs_list
theorem specComp_any (ta tb:Txt) (fr:Int) (w:World) (ha:ta.length<=1048576) (hb:tb.length<=1048576) (hf0:-9223372036854775808<=fr) (hf1:fr<=9223372036854775807) :
  Calls Tryz.prog 22 #[.string (bs ta),.string (bs tb),.int .i64 fr] w fun e w'=>CompPost w (compF ta tb fr) e w':=by
 have ka:=(polL_k ta).1
 have kb:=(polL_k tb).1
 refine specComp_walk (bs ta) (bs tb) fr (polL ta).1 (polL tb).1 (polL ta).2.1 (polL ta).2.2 (polL tb).2.1 (polL tb).2.2 (buildF (polL ta).1 fr).1 (buildF (polL ta).1 fr).2 (planF (buildF (polL ta).1 fr).1 (polL tb).1).1 (planF (buildF (polL ta).1 fr).1 (polL tb).1).2 w (polL_c ta) (polL_c tb) (buildF_c _ _) (planF_c _ _) (fun h=>(build_w _ _ h).1) (fun wX=>?_) (fun wX=>?_) (fun a c b wX hx=>?_) (fun g cz a c b wX h0 hg hcz hx=>?_)
 ·refine (specRead_any ta wX (by omega)).mono ?_
  rintro e w' ⟨g,c,h1,h2,h3⟩
  exact ⟨_,c,h1,h2,h3⟩
 ·refine (specRead_any tb wX (by omega)).mono ?_
  rintro e w' ⟨g,c,h1,h2,h3⟩
  exact ⟨_,c,h1,h2,h3⟩
 ·exact specBuild_any a c b _ fr wX (by omega) hf0 hf1 (polL_wf ta) hx
 ·exact specPlan_any g _ cz a c b _ wX (by have:=buildF_len (polL ta).1 fr; omega) (build_w _ _ h0).2 hg (by omega) (polL_wf tb) hx
theorem implCompI_any (ta tb:Txt) (fr:Int) (w:World) (ha:ta.length<=1048576) (hb:tb.length<=1048576) (hf0:-9223372036854775808<=fr) (hf1:fr<=9223372036854775807) :
  Calls Tryz.prog 55 #[.string (bs ta),.string (bs tb),.int .i64 fr] w fun e w'=>CompI w (memR (polL ta) (polL tb) (buildF (polL ta).1 fr) (planF (buildF (polL ta).1 fr).1 (polL tb).1)) (compF ta tb fr) e w':=by
 have ka:=(polL_k ta).1
 have kb:=(polL_k tb).1
 refine implComp_walk (bs ta) (bs tb) fr (polL ta).1 (polL tb).1 (polL ta).2.1 (polL ta).2.2 (polL tb).2.1 (polL tb).2.2 (buildF (polL ta).1 fr).1 (buildF (polL ta).1 fr).2 (planF (buildF (polL ta).1 fr).1 (polL tb).1).1 (planF (buildF (polL ta).1 fr).1 (polL tb).1).2 w (polL_c ta) (polL_c tb) (buildF_c _ _) (planF_c _ _) (fun h=>(build_w _ _ h).1) (fun wX=>implRead_any ta wX (by omega)) (fun wX=>implRead_any tb wX (by omega)) (fun a c b wX hx=>?_) (fun g cz a c b wX h0 hg hcz hx=>?_)
 ·exact implBuild_any a c b _ fr wX (by omega) hf0 hf1 (polL_wf ta) hx
 ·exact implPlan_any g _ cz a c b _ wX (by have:=buildF_len (polL ta).1 fr; omega) hcz (build_w _ _ h0).2 hg (by omega) (polL_wf tb) hx
end Go.Proofs.YtnmhkgmmpkjjeacGreat
