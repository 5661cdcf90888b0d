import Derived.Test.YtiiejckfcnmhoabGreatQ28
import Derived.Test.YtiiejckfcnmhoabGreatQ54
import Derived.Test.YtiiejckfcnmhoabGreatQ50
import Derived.Test.YtiiejckfcnmhoabGreatQ33
import Derived.Deep.RegionLaw
import Derived.Deep.DeepCutAuto
namespace Go.Proofs.YtiiejckfcnmhoabGreat
open Go.ChangeShapes Go.WideShapes Go.ChangeAt Go.RowKit
set_option linter.unusedVariables false
attribute [local go_sem ↓] Go.wp_at_zero Go.wp_at_succ
set_option maxRecDepth 100000 in
set_option maxHeartbeats 4000000 in
theorem xNext_any (gx gu b0 bo:Nat) (oa:Option Addr) (oc:Nat) (ops:List OpE) (v:XV) (x:XS) (w:World) (ho:∀ i,OpOk (opAt ops i)) (hn:ops.length<=20000) (hx:XOk ops x) (hops:ERow eOp w bo (.slice oa ops.length oc) ops) (hgo:∀ k,oOf oa=some k->¬ v.all gx gu k) (hB:b0<=w.heap.size) (h:XM w gx gu b0 oa oc ops v x) :
  Calls Tryz.prog 121 #[.pointer (some ⟨gx,0,none⟩)] w fun e w'=>e=.returned (.tuple #[])/\∃ v',XStep w w' gx gu b0 oa oc ops v v' (nextX ops x):=by
 have hlt:=h.lt
 have hat:=hx.at'
 have q0:=h.q0
 have q1:=h.q1
 have q2:=h.q2
 have HX:Hid (XM w gx gu b0 oa oc ops v x):=h
 by_cases hl:x.at' < ops.length
 ·obtain ⟨g,hg1,hg2⟩:=ops_cells hops
  obtain ⟨hae,hgl⟩:=hg1 (by omega)
  obtain ⟨OO,hOO⟩:∃ OO,opAt ops x.at'=OO:=⟨_,rfl⟩
  obtain ⟨K,A,Bb,W⟩:=OO
  have hgn:¬ v.all gx gu g:=hgo g (by rw [hae]; rfl)
  have hoo:OpOk ⟨K,A,Bb,W⟩:=by rw [<- hOO]; exact ho _
  have HST:Hid (∀ wX,Below w.heap.size w wX->Calls Tryz.prog 72 #[.pointer (some ⟨gu,0,none⟩),.agg #[.int .i64 K,.int .i64 A,.int .i64 Bb,.int .u64 W]] wX fun e w'=>e=.returned (.int .i64 (opM x.M ⟨K,A,Bb,W⟩).2)/\∃ u',UWide wX w' gu b0 b0 v.u u' (opM x.M ⟨K,A,Bb,W⟩).1):=fun wX hX=>mStep_any gu b0 b0 v.u x.M ⟨K,A,Bb,W⟩ wX hx.vm.wok hx.vm.valid hoo h.th (h.um.below hX)
  have HN:Hid (nextX ops x=if (opM x.M ⟨K,A,Bb,W⟩).2=0 then ⟨(opM x.M ⟨K,A,Bb,W⟩).1,x.at'+1,0,x.seen⟩ else ⟨x.M,x.at',(opM x.M ⟨K,A,Bb,W⟩).2,x.seen⟩):=hidOf <| by unfold nextX; rw [if_pos hl,hOO]
  have hsame:(opM x.M ⟨K,A,Bb,W⟩).2 ≠ 0->(opM x.M ⟨K,A,Bb,W⟩).1=x.M:=opM_same
  have HK:Hid (∀ wX:World,(∀ j,j ≠ 3->wX.cell? ⟨gx,j,none⟩=w.cell? ⟨gx,j,none⟩)->wX.heap[g]?=w.heap[g]?->wX.cell? ⟨gx,0,none⟩=some (.pointer (some ⟨gu,0,none⟩))/\wX.cell? ⟨gx,1,none⟩=some (.slice (some ⟨g,0,none⟩) ops.length oc)/\wX.cell? ⟨gx,2,none⟩=some (.int .i64 (x.at':Int))/\wX.cell? ⟨g,x.at' * 4,none⟩=some (.int .i64 K)/\wX.cell? ⟨g,x.at' * 4+1,none⟩=some (.int .i64 A)/\wX.cell? ⟨g,x.at' * 4+2,none⟩=some (.int .i64 Bb)/\wX.cell? ⟨g,x.at' * 4+3,none⟩=some (.int .u64 W)):=fun wX h1 h2=>by
   rw [hae] at q1
   obtain ⟨c0,c1,c2,c3⟩:=hg2 x.at' K A Bb W hl hOO wX h2
   exact ⟨(h1 0 (by omega)).trans q0,(h1 1 (by omega)).trans q1,(h1 2 (by omega)).trans q2,c0,c1,c2,c3⟩
  rw [hae] at q1
  have d0:((x.at':Int) == (ops.length:Int))=false:=by simp; omega
  have L1:(0:Int)<=(x.at':Int):=by omega
  have L2:(x.at':Int) < (ops.length:Int):=by omega
  have HNG:Hid (¬ v.u.all gu gx/\¬ v.u.all gu g/\¬ g=gx):=⟨h.ng,fun hh=>hgn (.inr (.inl hh)),fun e=>hgn (.inl e)⟩
  generalize opM x.M ⟨K,A,Bb,W⟩=R at *
  obtain ⟨M',cd⟩:=R
  dsimp only at HST HN hsame
  have HSM:Hid (cd ≠ 0->M'=x.M):=hsame
  clear h hx hops hgo hg1 hg2 hOO hoo hl hsame hae hgn ho
  have FIN:Hid (∀ (wX w2:World) (u':UV),Below w.heap.size w wX->UWide wX w2 gu b0 b0 v.u u' M'->XStep w (w2.setCell ⟨gx,3,none⟩ (.int .i64 cd)) gx gu b0 oa oc ops v ⟨u',v.sa,v.sc⟩ ⟨M',x.at',cd,x.seen⟩):=fun wX w2 u' hX hU=>((XStep.refl HX.out hX).trans ((HX.out.below hX).mach hU)).trans (((HX.out.below hX).mach hU).xm.setCode cd)
  go_enter Tryz.func121,Tryz.ntmps121
  go_wp2_with fail
  refine wp_region_held_drew (S:=fun wX=>wX.cell? ⟨gx,1,none⟩=some (.slice (some ⟨g,0,none⟩) ops.length oc)/\wX.cell? ⟨gx,2,none⟩=some (.int .i64 (x.at':Int))) (by kernel_rfl) (⟨q1,q2⟩) (fun hHeld=>?_)
  refine tk 0 ?_
  refine tk 1 ?_
  refine tk 2 ?_
  refine tk 3 ?_
  refine tk 4 ?_
  refine tk 5 ?_
  refine tk 6 ?_
  refine tk 7 ?_
  refine tk 8 ?_
  refine tk 9 ?_
  refine wpAnyH_done (by kernel_rfl) ?_ _
  go_wp2_with fail
  refine wp_region_held_drew (S:=fun wX=>wX.cell? ⟨gx,0,none⟩=some (.pointer (some ⟨gu,0,none⟩))/\wX.cell? ⟨gx,1,none⟩=some (.slice (some ⟨g,0,none⟩) ops.length oc)/\wX.cell? ⟨gx,2,none⟩=some (.int .i64 (x.at':Int))/\wX.cell? ⟨g,x.at' * 4,none⟩=some (.int .i64 K)/\wX.cell? ⟨g,x.at' * 4+1,none⟩=some (.int .i64 A)/\wX.cell? ⟨g,x.at' * 4+2,none⟩=some (.int .i64 Bb)/\wX.cell? ⟨g,x.at' * 4+3,none⟩=some (.int .u64 W)) (by kernel_rfl) (HK.out _ (fun j hj=>rfl) rfl) (fun hHeld=>?_)
  refine tk 0 ?_
  refine tk 1 ?_
  refine tk 2 ?_
  refine tk 3 ?_
  refine tk 4 ?_
  refine tk 5 ?_
  refine tk 6 ?_
  refine tk 7 ?_
  refine tk 8 ?_
  refine tk 9 ?_
  refine tk 10 ?_
  refine tk 11 ?_
  refine tk 12 ?_
  refine tk 13 ?_
  refine tk 14 ?_
  refine wpAnyH_ready (rs:=[15]) (by kernel_rfl) (by simp) ?_
  refine AllReadyH.cons rfl (fun K hK=>?_) AllReadyH.nil
  go_simp
  refine (HST.out _ (br.drew.drew)).mono ?_
  rintro e w2 ⟨rfl,u',hU⟩
  have k1:w2.heap[gx]?=w.heap[gx]?:=hU.tch.block gx hlt HNG.out.1
  have k2:w2.heap[g]?=w.heap[g]?:=hU.tch.block g hgl HNG.out.2.1
  have hF:=FIN.out _ w2 u' (br.drew.drew) hU
  have hKw:=HK.out w2 (fun j hj=>cob k1) k2
  have hKs:=HK.out (w2.setCell ⟨gx,3,none⟩ (.int .i64 cd)) (fun j hj=>(World.cell?_setCell_other _ _ _ _ (by intro e; injection e with _ e; exact hj e.symm)).trans (cob k1)) ((Below.heap_setCell _ _ _ _ HNG.out.2.2).trans k2)
  have y3:w2.cell? ⟨gx,3,none⟩=some (.int .i64 x.code):=(cob k1).trans HX.out.q3
  have z3:w2.frozen? ⟨gx,3,none⟩=false:=(fob k1).trans HX.out.f3
  have hl2:gx < w2.heap.size:=Nat.lt_of_lt_of_le hlt hU.tch.size
  go_wp2_with fail
  refine hK.out _ _ hKw (fun hHeld=>?_)
  clear hK K
  refine tk 16 ?_
  refine tk 17 ?_
  refine wpAnyH_ready (rs:=[18]) (by kernel_rfl) (by simp) ?_
  refine AllReadyH.cons rfl (fun K hK=>?_) AllReadyH.nil
  go_simp
  refine hK.out _ _ hKs (fun hHeld=>?_)
  clear hK K
  refine wpAnyH_done (by kernel_rfl) ?_ _
  obtain ⟨w3,hw3⟩:∃ w3,w3=w2.setCell ⟨gx,3,none⟩ (.int .i64 cd):=⟨_,rfl⟩
  rw [<- hw3] at hF ⊢
  have r2:=hF.xm.q2
  have r3:=hF.xm.q3
  have s2:=hF.xm.f2
  have hl3:=hF.xm.lt
  dsimp only at r2 r3
  have HF:Hid (XStep w w3 gx gu b0 oa oc ops v ⟨u',v.sa,v.sc⟩ ⟨M',x.at',cd,x.seen⟩):=hF
  clear hF hKw hKs y3 z3 k1 k2 hU hw3 hHeld
  by_cases hc:cd=0
  ·subst hc
   have HN2:Hid (nextX ops x=⟨M',x.at'+1,0,x.seen⟩):=hidOf <| by rw [HN.out,if_pos rfl]
   clear HN
   have HF2:Hid (XStep w (w3.setCell ⟨gx,2,none⟩ (.int .i64 ((x.at'+1:Nat):Int))) gx gu b0 oa oc ops v ⟨u',v.sa,v.sc⟩ ⟨M',x.at'+1,0,x.seen⟩):=HF.out.trans (HF.out.xm.setAt (x.at'+1))
   go_wp2_with fail
   refine bodyPost_end (v:=.tuple #[]) (by simp [results,Tryz.results121,go_sem]) rfl ⟨rfl,⟨u',v.sa,v.sc⟩,?_⟩
   rw [HN2.out]
   exact HF2.out
  ·have dc:(cd == 0)=false:=by simpa using hc
   have HF2:Hid (XStep w w3 gx gu b0 oa oc ops v ⟨u',v.sa,v.sc⟩ (nextX ops x)):=hidOf <| by
    rw [HN.out,if_neg hc,<- HSM.out hc]
    exact HF.out
   clear hc
   go_wp2_with fail
   exact bodyPost_end (v:=.tuple #[]) (by simp [results,Tryz.results121,go_sem]) rfl ⟨rfl,⟨u',v.sa,v.sc⟩,HF2.out⟩
 ·have d0:((x.at':Int) == (ops.length:Int))=true:=by simp; omega
  have HN:Hid (nextX ops x=x):=nextX_done hl
  clear hl h hx hops hgo ho
  go_enter Tryz.func121,Tryz.ntmps121
  go_wp2_with fail
  refine wp_region_held_drew (S:=fun wX=>wX.cell? ⟨gx,1,none⟩=some (.slice oa ops.length oc)/\wX.cell? ⟨gx,2,none⟩=some (.int .i64 (x.at':Int))) (by kernel_rfl) (⟨q1,q2⟩) (fun hHeld=>?_)
  refine tk 0 ?_
  refine tk 1 ?_
  refine tk 2 ?_
  refine tk 3 ?_
  refine tk 4 ?_
  refine tk 5 ?_
  refine tk 6 ?_
  refine tk 7 ?_
  refine tk 8 ?_
  refine tk 9 ?_
  refine wpAnyH_done (by kernel_rfl) ?_ _
  go_wp2_with fail
  refine bodyPost_ret (v:=.tuple #[]) (by simp [results,Tryz.results121,go_sem]) rfl ⟨rfl,v,?_⟩
  rw [HN.out]
  exact XStep.refl HX.out (br.drew)
set_option maxRecDepth 100000 in
set_option maxHeartbeats 4000000 in
theorem xHappen0_any (gx gu b0 bo:Nat) (oa:Option Addr) (oc:Nat) (ops:List OpE) (v:XV) (x:XS) (P N C:Int) (w:World) (ho:∀ i,OpOk (opAt ops i)) (hn:ops.length<=20000) (hx:XOk ops x) (hops:ERow eOp w bo (.slice oa ops.length oc) ops) (hgo:∀ k,oOf oa=some k->¬ v.all gx gu k) (hB:b0<=w.heap.size) (h:XM w gx gu b0 oa oc ops v x) :
  Calls Tryz.prog 120 #[.pointer (some ⟨gx,0,none⟩),.agg #[.int .i64 0,.int .i64 P,.int .i64 N,.int .i64 C]] w fun e w'=>e=.returned (.tuple #[])/\∃ v',XStep w w' gx gu b0 oa oc ops v v' (happenX ops x ⟨0,P,N,C⟩):=by
 obtain ⟨wb,hwb⟩:∃ wb,wb=w.alloc (.cells #[.int .i64 0,.int .i64 P,.int .i64 N,.int .i64 C] 120):=⟨_,rfl⟩
 have hbb:Below w.heap.size w wb:=by rw [hwb]; exact bal
 have hzb:wb.heap.size=w.heap.size+1:=by rw [hwb]; simp
 have HBB:Hid (Below w.heap.size w wb):=hbb
 have HZB:Hid (wb.heap.size=w.heap.size+1):=hzb
 have HX:Hid (XM w gx gu b0 oa oc ops v x):=h
 have hlt:=h.lt
 have HN:Hid (Calls Tryz.prog 121 #[.pointer (some ⟨gx,0,none⟩)] wb fun e w'=>e=.returned (.tuple #[])/\∃ v',XStep wb w' gx gu b0 oa oc ops v v' (nextX ops x)):=xNext_any gx gu b0 bo oa oc ops v x wb ho hn hx (hops.below hbb) hgo (by omega) (h.below hbb)
 have HE:Hid (happenX ops x ⟨0,P,N,C⟩=nextX ops x):=hidOf <| by unfold happenX; rw [if_pos rfl]
 have HWB:Hid (wb=_):=hwb
 clear hwb hbb hzb h hx hops hgo ho
 go_enter Tryz.func120,Tryz.ntmps120
 go_wp2_with fail
 rw [<- HWB.out]
 refine HN.out.mono ?_
 rintro e w2 ⟨rfl,v',hst⟩
 have HF:Hid (∃ v',XStep w w2 gx gu b0 oa oc ops v v' (happenX ops x ⟨0,P,N,C⟩)):=⟨v',by rw [HE.out]; exact (XStep.refl HX.out HBB.out).trans hst⟩
 clear hst
 go_wp2_with fail
 exact bodyPost_end (v:=.tuple #[]) (by simp [results,Tryz.results120,go_sem]) rfl ⟨rfl,HF.out⟩
set_option maxRecDepth 100000 in
set_option maxHeartbeats 4000000 in
theorem xHappen1_any (gx gu b0 bo:Nat) (oa:Option Addr) (oc:Nat) (ops:List OpE) (v:XV) (x:XS) (P N C:Int) (w:World) (ho:∀ i,OpOk (opAt ops i)) (hn:ops.length<=20000) (hx:XOk ops x) (hops:ERow eOp w bo (.slice oa ops.length oc) ops) (hgo:∀ k,oOf oa=some k->¬ v.all gx gu k) (hB:b0<=w.heap.size) (h:XM w gx gu b0 oa oc ops v x) (hp0:0<=P) (hp1:P < 4096) (hc0:0<=C) (hc1:C<=65535) :
  Calls Tryz.prog 120 #[.pointer (some ⟨gx,0,none⟩),.agg #[.int .i64 1,.int .i64 P,.int .i64 N,.int .i64 C]] w fun e w'=>e=.returned (.tuple #[])/\∃ v',XStep w w' gx gu b0 oa oc ops v v' (happenX ops x ⟨1,P,N,C⟩):=by
 obtain ⟨wb,hwb⟩:∃ wb,wb=w.alloc (.cells #[.int .i64 1,.int .i64 P,.int .i64 N,.int .i64 C] 120):=⟨_,rfl⟩
 have hbb:Below w.heap.size w wb:=by rw [hwb]; exact bal
 have hzb:wb.heap.size=w.heap.size+1:=by rw [hwb]; simp
 have HBB:Hid (Below w.heap.size w wb):=hbb
 have HZB:Hid (wb.heap.size=w.heap.size+1):=hzb
 have HX:Hid (XM w gx gu b0 oa oc ops v x):=h
 have hlt:=h.lt
 have q0:wb.cell? ⟨gx,0,none⟩=some (.pointer (some ⟨gu,0,none⟩)):=(h.below hbb).q0
 have HK:Hid (∀ wX:World,wX.heap[gx]?=wb.heap[gx]?->wX.heap[w.heap.size]?=wb.heap[w.heap.size]?->wX.cell? ⟨gx,0,none⟩=some (.pointer (some ⟨gu,0,none⟩))/\wX.cell? ⟨w.heap.size,1,none⟩=some (.int .i64 P)/\wX.cell? ⟨w.heap.size,3,none⟩=some (.int .i64 C)):=fun wX h1 h2=>⟨(cob h1).trans q0,(cob h2).trans (by rw [hwb]; simp [go_sem]),(cob h2).trans (by rw [hwb]; simp [go_sem])⟩
 have hwc:∀ i,i < x.M.wc.length->((eAt eWc x.M.wc i).level=2\/(eAt eWc x.M.wc i).level=3)/\0<=(eAt eWc x.M.wc i).page/\(eAt eWc x.M.wc i).page < 4096/\(eAt eWc x.M.wc i).page % cov ((eAt eWc x.M.wc i).level - 1)=0:=fun i hi=>by
  have h1:=valid_wc hx.vm.valid i hi
  unfold wcOkB at h1
  simp only [Bool.and_eq_true,Bool.or_eq_true,decide_eq_true_eq] at h1
  have h2:0<=(eAt eWc x.M.wc i).page/\(eAt eWc x.M.wc i).page < 4096:=by simpa [pageOk] using h1.1.1.1.2
  exact ⟨h1.1.1.1.1,h2.1,h2.2,h1.1.1.2⟩
 have HMC:Hid (∀ wX,Below wb.heap.size wb wX->Calls Tryz.prog 105 #[.pointer (some ⟨gu,0,none⟩),.int .i64 P,.int .i64 C] wX fun r w'=>r=.returned (hitV (walkM x.M P C).2)/\∃ u',UStep wX w' gu b0 b0 true v.u u' ((walkM x.M P C).1)):=fun wX hX=>walk_any gu b0 b0 true v.u x.M P C wX hp0 hp1 hc0 hc1 hx.vm.wok (by have:=hX.size; omega) hwc (startM_ok hx.vm.valid P C) (.inl rfl) (fun _ i hi=>(valid_pend hx.vm.valid i hi).1) ((h.um.below hbb).below hX)
 have HE:Hid (happenX ops x ⟨1,P,N,C⟩=⟨(walkM x.M P C).1,x.at',x.code,x.seen⟩):=hidOf <| by unfold happenX; simp
 have HNG:Hid (¬ v.u.all gu gx/\¬ v.u.all gu w.heap.size):=⟨h.ng,fun hh=>by have:=h.um.all_lt _ hh; omega⟩
 have HTH:Hid (UThree v.u):=h.th
 have FIN:Hid (∀ (wX w2:World) (u':UV),Below wb.heap.size wb wX->UStep wX w2 gu b0 b0 true v.u u' ((walkM x.M P C).1)->XStep w w2 gx gu b0 oa oc ops v ⟨u',v.sa,v.sc⟩ (happenX ops x ⟨1,P,N,C⟩)):=fun wX w2 u' hX hU=>by
  rw [HE.out]
  have bX:=HBB.out.trans (hX.mono (by have:=HZB.out; omega))
  exact (XStep.refl HX.out bX).trans ((HX.out.below bX).mach (hU.wide HTH.out))
 have hgb:gx < wb.heap.size:=by omega
 have hwl:w.heap.size < wb.heap.size:=by omega
 have HWB:Hid (wb=_):=hwb
 clear hwb hbb hzb h hx hops hgo ho
 go_enter Tryz.func120,Tryz.ntmps120
 go_wp2_with fail
 rw [<- HWB.out]
 refine wp_region_held_drew (S:=fun wX=>wX.cell? ⟨gx,0,none⟩=some (.pointer (some ⟨gu,0,none⟩))/\wX.cell? ⟨w.heap.size,1,none⟩=some (.int .i64 P)/\wX.cell? ⟨w.heap.size,3,none⟩=some (.int .i64 C)) (by kernel_rfl) (HK.out _ rfl rfl) (fun hHeld=>?_)
 refine tk 0 ?_
 refine tk 1 ?_
 refine tk 2 ?_
 refine tk 3 ?_
 refine tk 4 ?_
 refine tk 5 ?_
 refine tk 6 ?_
 refine tk 7 ?_
 refine wpAnyH_ready (rs:=[8]) (by kernel_rfl) (by simp) ?_
 refine AllReadyH.cons rfl (fun K hK=>?_) AllReadyH.nil
 go_simp
 refine (HMC.out _ (br.drew)).mono ?_
 rintro e w2 ⟨rfl,u',hU⟩
 have hW:=hU.wide HTH.out
 have k1:w2.heap[gx]?=wb.heap[gx]?:=hW.tch.block gx hgb HNG.out.1
 have k2:w2.heap[w.heap.size]?=wb.heap[w.heap.size]?:=hW.tch.block w.heap.size hwl HNG.out.2
 have HF:Hid (∃ v',XStep w w2 gx gu b0 oa oc ops v v' (happenX ops x ⟨1,P,N,C⟩)):=⟨_,FIN.out _ w2 u' (br.drew) hU⟩
 have hKw:=HK.out w2 k1 k2
 clear hU hW k1 k2
 go_wp2_with fail
 refine hK.out _ _ hKw (fun hHeld=>?_)
 clear hK K
 refine wpAnyH_done (by kernel_rfl) ?_ _
 go_wp2_with fail
 exact bodyPost_end (v:=.tuple #[]) (by simp [results,Tryz.results120,go_sem]) rfl ⟨rfl,HF.out⟩
set_option maxRecDepth 100000 in
set_option maxHeartbeats 4000000 in
theorem xHappen2_any (gx gu b0 bo:Nat) (oa:Option Addr) (oc:Nat) (ops:List OpE) (v:XV) (x:XS) (P N C:Int) (w:World) (ho:∀ i,OpOk (opAt ops i)) (hn:ops.length<=20000) (hx:XOk ops x) (hops:ERow eOp w bo (.slice oa ops.length oc) ops) (hgo:∀ k,oOf oa=some k->¬ v.all gx gu k) (hB:b0<=w.heap.size) (h:XM w gx gu b0 oa oc ops v x) :
  Calls Tryz.prog 120 #[.pointer (some ⟨gx,0,none⟩),.agg #[.int .i64 2,.int .i64 P,.int .i64 N,.int .i64 C]] w fun e w'=>e=.returned (.tuple #[])/\∃ v',XStep w w' gx gu b0 oa oc ops v v' (happenX ops x ⟨2,P,N,C⟩):=by
 obtain ⟨wb,hwb⟩:∃ wb,wb=w.alloc (.cells #[.int .i64 2,.int .i64 P,.int .i64 N,.int .i64 C] 120):=⟨_,rfl⟩
 have hbb:Below w.heap.size w wb:=by rw [hwb]; exact bal
 have hzb:wb.heap.size=w.heap.size+1:=by rw [hwb]; simp
 have HBB:Hid (Below w.heap.size w wb):=hbb
 have HZB:Hid (wb.heap.size=w.heap.size+1):=hzb
 have HX:Hid (XM w gx gu b0 oa oc ops v x):=h
 have hlt:=h.lt
 have q0:wb.cell? ⟨gx,0,none⟩=some (.pointer (some ⟨gu,0,none⟩)):=(h.below hbb).q0
 have HK:Hid (∀ wX:World,wX.heap[gx]?=wb.heap[gx]?->wX.heap[w.heap.size]?=wb.heap[w.heap.size]?->wX.cell? ⟨gx,0,none⟩=some (.pointer (some ⟨gu,0,none⟩))/\wX.cell? ⟨w.heap.size,3,none⟩=some (.int .i64 C)):=fun wX h1 h2=>⟨(cob h1).trans q0,(cob h2).trans (by rw [hwb]; simp [go_sem])⟩
 have HMC:Hid (∀ wX,Below wb.heap.size wb wX->Calls Tryz.prog 145 #[.pointer (some ⟨gu,0,none⟩),.int .i64 C] wX fun r w'=>r=.returned (.tuple #[])/\∃ u',UStep wX w' gu b0 b0 true v.u u' (⟨x.M.mem,x.M.pend,keepTo eTlb true C x.M.tlb x.M.tlb.length,x.M.wc⟩)):=fun wX hX=>dropT_any gu b0 b0 true v.u x.M C wX hx.vm.t ((h.um.below hbb).below hX)
 have HE:Hid (happenX ops x ⟨2,P,N,C⟩=⟨⟨x.M.mem,x.M.pend,keepTo eTlb true C x.M.tlb x.M.tlb.length,x.M.wc⟩,x.at',x.code,x.seen⟩):=hidOf <| by unfold happenX; simp
 have HNG:Hid (¬ v.u.all gu gx/\¬ v.u.all gu w.heap.size):=⟨h.ng,fun hh=>by have:=h.um.all_lt _ hh; omega⟩
 have HTH:Hid (UThree v.u):=h.th
 have FIN:Hid (∀ (wX w2:World) (u':UV),Below wb.heap.size wb wX->UStep wX w2 gu b0 b0 true v.u u' (⟨x.M.mem,x.M.pend,keepTo eTlb true C x.M.tlb x.M.tlb.length,x.M.wc⟩)->XStep w w2 gx gu b0 oa oc ops v ⟨u',v.sa,v.sc⟩ (happenX ops x ⟨2,P,N,C⟩)):=fun wX w2 u' hX hU=>by
  rw [HE.out]
  have bX:=HBB.out.trans (hX.mono (by have:=HZB.out; omega))
  exact (XStep.refl HX.out bX).trans ((HX.out.below bX).mach (hU.wide HTH.out))
 have hgb:gx < wb.heap.size:=by omega
 have hwl:w.heap.size < wb.heap.size:=by omega
 have HWB:Hid (wb=_):=hwb
 clear hwb hbb hzb h hx hops hgo ho
 go_enter Tryz.func120,Tryz.ntmps120
 go_wp2_with fail
 rw [<- HWB.out]
 refine wp_region_held_drew (S:=fun wX=>wX.cell? ⟨gx,0,none⟩=some (.pointer (some ⟨gu,0,none⟩))/\wX.cell? ⟨w.heap.size,3,none⟩=some (.int .i64 C)) (by kernel_rfl) (HK.out _ rfl rfl) (fun hHeld=>?_)
 refine tk 0 ?_
 refine tk 1 ?_
 refine tk 2 ?_
 refine tk 3 ?_
 refine tk 4 ?_
 refine tk 5 ?_
 refine wpAnyH_ready (rs:=[6]) (by kernel_rfl) (by simp) ?_
 refine AllReadyH.cons rfl (fun K hK=>?_) AllReadyH.nil
 go_simp
 refine (HMC.out _ (br.drew)).mono ?_
 rintro e w2 ⟨rfl,u',hU⟩
 have hW:=hU.wide HTH.out
 have k1:w2.heap[gx]?=wb.heap[gx]?:=hW.tch.block gx hgb HNG.out.1
 have k2:w2.heap[w.heap.size]?=wb.heap[w.heap.size]?:=hW.tch.block w.heap.size hwl HNG.out.2
 have HF:Hid (∃ v',XStep w w2 gx gu b0 oa oc ops v v' (happenX ops x ⟨2,P,N,C⟩)):=⟨_,FIN.out _ w2 u' (br.drew) hU⟩
 have hKw:=HK.out w2 k1 k2
 clear hU hW k1 k2
 go_wp2_with fail
 refine hK.out _ _ hKw (fun hHeld=>?_)
 clear hK K
 refine wpAnyH_done (by kernel_rfl) ?_ _
 go_wp2_with fail
 exact bodyPost_end (v:=.tuple #[]) (by simp [results,Tryz.results120,go_sem]) rfl ⟨rfl,HF.out⟩
set_option maxRecDepth 100000 in
set_option maxHeartbeats 4000000 in
theorem xHappen3_any (gx gu b0 bo:Nat) (oa:Option Addr) (oc:Nat) (ops:List OpE) (v:XV) (x:XS) (P N C:Int) (w:World) (ho:∀ i,OpOk (opAt ops i)) (hn:ops.length<=20000) (hx:XOk ops x) (hops:ERow eOp w bo (.slice oa ops.length oc) ops) (hgo:∀ k,oOf oa=some k->¬ v.all gx gu k) (hB:b0<=w.heap.size) (h:XM w gx gu b0 oa oc ops v x) :
  Calls Tryz.prog 120 #[.pointer (some ⟨gx,0,none⟩),.agg #[.int .i64 3,.int .i64 P,.int .i64 N,.int .i64 C]] w fun e w'=>e=.returned (.tuple #[])/\∃ v',XStep w w' gx gu b0 oa oc ops v v' (happenX ops x ⟨3,P,N,C⟩):=by
 obtain ⟨wb,hwb⟩:∃ wb,wb=w.alloc (.cells #[.int .i64 3,.int .i64 P,.int .i64 N,.int .i64 C] 120):=⟨_,rfl⟩
 have hbb:Below w.heap.size w wb:=by rw [hwb]; exact bal
 have hzb:wb.heap.size=w.heap.size+1:=by rw [hwb]; simp
 have HBB:Hid (Below w.heap.size w wb):=hbb
 have HZB:Hid (wb.heap.size=w.heap.size+1):=hzb
 have HX:Hid (XM w gx gu b0 oa oc ops v x):=h
 have hlt:=h.lt
 have q0:wb.cell? ⟨gx,0,none⟩=some (.pointer (some ⟨gu,0,none⟩)):=(h.below hbb).q0
 have HK:Hid (∀ wX:World,wX.heap[gx]?=wb.heap[gx]?->wX.heap[w.heap.size]?=wb.heap[w.heap.size]?->wX.cell? ⟨gx,0,none⟩=some (.pointer (some ⟨gu,0,none⟩))/\wX.cell? ⟨w.heap.size,3,none⟩=some (.int .i64 C)):=fun wX h1 h2=>⟨(cob h1).trans q0,(cob h2).trans (by rw [hwb]; simp [go_sem])⟩
 have HMC:Hid (∀ wX,Below wb.heap.size wb wX->Calls Tryz.prog 146 #[.pointer (some ⟨gu,0,none⟩),.int .i64 C] wX fun r w'=>r=.returned (.tuple #[])/\∃ u',UStep wX w' gu b0 b0 true v.u u' (⟨x.M.mem,x.M.pend,x.M.tlb,keepTo eWc true C x.M.wc x.M.wc.length⟩)):=fun wX hX=>dropW_any gu b0 b0 true v.u x.M C wX hx.vm.c ((h.um.below hbb).below hX)
 have HE:Hid (happenX ops x ⟨3,P,N,C⟩=⟨⟨x.M.mem,x.M.pend,x.M.tlb,keepTo eWc true C x.M.wc x.M.wc.length⟩,x.at',x.code,x.seen⟩):=hidOf <| by unfold happenX; simp
 have HNG:Hid (¬ v.u.all gu gx/\¬ v.u.all gu w.heap.size):=⟨h.ng,fun hh=>by have:=h.um.all_lt _ hh; omega⟩
 have HTH:Hid (UThree v.u):=h.th
 have FIN:Hid (∀ (wX w2:World) (u':UV),Below wb.heap.size wb wX->UStep wX w2 gu b0 b0 true v.u u' (⟨x.M.mem,x.M.pend,x.M.tlb,keepTo eWc true C x.M.wc x.M.wc.length⟩)->XStep w w2 gx gu b0 oa oc ops v ⟨u',v.sa,v.sc⟩ (happenX ops x ⟨3,P,N,C⟩)):=fun wX w2 u' hX hU=>by
  rw [HE.out]
  have bX:=HBB.out.trans (hX.mono (by have:=HZB.out; omega))
  exact (XStep.refl HX.out bX).trans ((HX.out.below bX).mach (hU.wide HTH.out))
 have hgb:gx < wb.heap.size:=by omega
 have hwl:w.heap.size < wb.heap.size:=by omega
 have HWB:Hid (wb=_):=hwb
 clear hwb hbb hzb h hx hops hgo ho
 go_enter Tryz.func120,Tryz.ntmps120
 go_wp2_with fail
 rw [<- HWB.out]
 refine wp_region_held_drew (S:=fun wX=>wX.cell? ⟨gx,0,none⟩=some (.pointer (some ⟨gu,0,none⟩))/\wX.cell? ⟨w.heap.size,3,none⟩=some (.int .i64 C)) (by kernel_rfl) (HK.out _ rfl rfl) (fun hHeld=>?_)
 refine tk 0 ?_
 refine tk 1 ?_
 refine tk 2 ?_
 refine tk 3 ?_
 refine tk 4 ?_
 refine tk 5 ?_
 refine wpAnyH_ready (rs:=[6]) (by kernel_rfl) (by simp) ?_
 refine AllReadyH.cons rfl (fun K hK=>?_) AllReadyH.nil
 go_simp
 refine (HMC.out _ (br.drew)).mono ?_
 rintro e w2 ⟨rfl,u',hU⟩
 have hW:=hU.wide HTH.out
 have k1:w2.heap[gx]?=wb.heap[gx]?:=hW.tch.block gx hgb HNG.out.1
 have k2:w2.heap[w.heap.size]?=wb.heap[w.heap.size]?:=hW.tch.block w.heap.size hwl HNG.out.2
 have HF:Hid (∃ v',XStep w w2 gx gu b0 oa oc ops v v' (happenX ops x ⟨3,P,N,C⟩)):=⟨_,FIN.out _ w2 u' (br.drew) hU⟩
 have hKw:=HK.out w2 k1 k2
 clear hU hW k1 k2
 go_wp2_with fail
 refine hK.out _ _ hKw (fun hHeld=>?_)
 clear hK K
 refine wpAnyH_done (by kernel_rfl) ?_ _
 go_wp2_with fail
 exact bodyPost_end (v:=.tuple #[]) (by simp [results,Tryz.results120,go_sem]) rfl ⟨rfl,HF.out⟩
theorem both_waysX {α β:Type} {G:Prop} {F:α->β->Prop} {C:α->β->Prop} (h1:(∀ a b,F a b->C a b)->G) (h2:∀ a b,F a b->C a b):G:=h1 h2
set_option maxRecDepth 100000 in
set_option maxHeartbeats 4000000 in
theorem xHappen4_any (gx gu b0 bo:Nat) (oa:Option Addr) (oc:Nat) (ops:List OpE) (v:XV) (x:XS) (P N C:Int) (w:World) (ho:∀ i,OpOk (opAt ops i)) (hn:ops.length<=20000) (hx:XOk ops x) (hops:ERow eOp w bo (.slice oa ops.length oc) ops) (hgo:∀ k,oOf oa=some k->¬ v.all gx gu k) (hB:b0<=w.heap.size) (h:XM w gx gu b0 oa oc ops v x) (hp0:0<=P) (hp1:P < 4096) (hc0:0<=C) (hc1:C<=65535) (hnd:needOk N=true) (hsl:x.seen.length<=20000) :
  Calls Tryz.prog 120 #[.pointer (some ⟨gx,0,none⟩),.agg #[.int .i64 4,.int .i64 P,.int .i64 N,.int .i64 C]] w fun e w'=>e=.returned (.tuple #[])/\∃ v',XStep w w' gx gu b0 oa oc ops v v' (happenX ops x ⟨4,P,N,C⟩):=by
 obtain ⟨wb,hwb⟩:∃ wb,wb=w.alloc (.cells #[.int .i64 4,.int .i64 P,.int .i64 N,.int .i64 C] 120):=⟨_,rfl⟩
 have hbb:Below w.heap.size w wb:=by rw [hwb]; exact bal
 have hzb:wb.heap.size=w.heap.size+1:=by rw [hwb]; simp
 have HBB:Hid (Below w.heap.size w wb):=hbb
 have HZB:Hid (wb.heap.size=w.heap.size+1):=hzb
 have HX:Hid (XM w gx gu b0 oa oc ops v x):=h
 have hlt:=h.lt
 obtain ⟨iE,hiE,hz0,hz1,hz2⟩:=info_parts infoSeen
 have q0:wb.cell? ⟨gx,0,none⟩=some (.pointer (some ⟨gu,0,none⟩)):=(h.below hbb).q0
 have q4:wb.cell? ⟨gx,4,none⟩=some (.slice v.sa x.seen.length v.sc):=(h.below hbb).q4
 have HK:Hid (∀ wX:World,wX.heap[gx]?=wb.heap[gx]?->wX.heap[w.heap.size]?=wb.heap[w.heap.size]?->wX.cell? ⟨gx,0,none⟩=some (.pointer (some ⟨gu,0,none⟩))/\wX.cell? ⟨w.heap.size,1,none⟩=some (.int .i64 P)/\wX.cell? ⟨w.heap.size,2,none⟩=some (.int .i64 N)/\wX.cell? ⟨w.heap.size,3,none⟩=some (.int .i64 C)):=fun wX h1 h2=>⟨(cob h1).trans q0,(cob h2).trans (by rw [hwb]; simp [go_sem]),(cob h2).trans (by rw [hwb]; simp [go_sem]),(cob h2).trans (by rw [hwb]; simp [go_sem])⟩
 have HMC0:Hid (∀ wX,Below wb.heap.size wb wX->Calls Tryz.prog 52 #[.pointer (some ⟨gu,0,none⟩),.int .i64 P,.int .i64 N,.int .i64 C] wX fun r w'=>r=.returned (seenV (accS x.M P N C))/\∃ u',UStep wX w' gu b0 b0 true v.u u' (accN x.M P C)):=fun wX hX=>access_any gu b0 b0 v.u x.M P N C wX hp0 hp1 hc0 hc1 hnd hx.vm.wok hx.vm.valid (by have:=hX.size; omega) ((h.um.below hbb).below hX)
 have HE:Hid (happenX ops x ⟨4,P,N,C⟩=⟨accN x.M P C,x.at',x.code,x.seen ++ [accS x.M P N C]⟩):=hidOf <| by unfold happenX; simp
 obtain ⟨SE,hSE⟩:∃ SE,SE=accS x.M P N C:=⟨_,rfl⟩
 obtain ⟨AM,hAM⟩:∃ AM,AM=accN x.M P C:=⟨_,rfl⟩
 rw [<- hSE,<- hAM] at HE
 rw [<- hSE,<- hAM] at HMC0
 obtain ⟨sp,sn,sk,so⟩:=SE
 have HMC:Hid (∀ wX,Below wb.heap.size wb wX->Calls Tryz.prog 52 #[.pointer (some ⟨gu,0,none⟩),.int .i64 P,.int .i64 N,.int .i64 C] wX fun r w'=>r=.returned (.agg #[.int .i64 sp,.int .i64 sn,.int .i64 sk,.int .i64 so])/\∃ u',UStep wX w' gu b0 b0 true v.u u' AM):=HMC0.out
 have hg1:¬ v.u.all gu gx:=h.ng
 have hg2:¬ v.u.all gu w.heap.size:=fun hh=>by have:=h.um.all_lt _ hh; omega
 have hth:UThree v.u:=h.th
 have hgb:gx < wb.heap.size:=by omega
 have hwl:w.heap.size < wb.heap.size:=by omega
 have HAFT:Hid (∀ (w2:World) (u':UV),UStep wb.drew w2 gu b0 b0 true v.u u' AM->w2.heap[gx]?=wb.heap[gx]?/\w2.heap[w.heap.size]?=wb.heap[w.heap.size]?/\w2.cell? ⟨gx,4,none⟩=some (.slice v.sa x.seen.length v.sc)/\gx < w2.heap.size):=fun w2 u' hU=>by
  have hW:=hU.wide hth
  have k1:w2.heap[gx]?=wb.heap[gx]?:=hW.tch.block gx hgb hg1
  exact ⟨k1,hW.tch.block w.heap.size hwl hg2,(cob k1).trans q4,Nat.lt_of_lt_of_le hgb hW.tch.size⟩
 have HKA:Hid (∀ w2:World,w2.heap[gx]?=wb.heap[gx]?->w2.heap[w.heap.size]?=wb.heap[w.heap.size]?->(w2.alloc (.cells #[.int .i64 sp,.int .i64 sn,.int .i64 sk,.int .i64 so] 38)).cell? ⟨gx,0,none⟩=some (.pointer (some ⟨gu,0,none⟩))/\(w2.alloc (.cells #[.int .i64 sp,.int .i64 sn,.int .i64 sk,.int .i64 so] 38)).cell? ⟨w.heap.size,1,none⟩=some (.int .i64 P)/\(w2.alloc (.cells #[.int .i64 sp,.int .i64 sn,.int .i64 sk,.int .i64 so] 38)).cell? ⟨w.heap.size,2,none⟩=some (.int .i64 N)/\(w2.alloc (.cells #[.int .i64 sp,.int .i64 sn,.int .i64 sk,.int .i64 so] 38)).cell? ⟨w.heap.size,3,none⟩=some (.int .i64 C)):=fun w2 h1 h2=>by
  have l1:gx < w2.heap.size:=(Array.getElem?_eq_some_iff.1 (h1.trans (Array.getElem?_eq_getElem hgb))).1
  have l2:w.heap.size < w2.heap.size:=(Array.getElem?_eq_some_iff.1 (h2.trans (Array.getElem?_eq_getElem hwl))).1
  have hb:Below w2.heap.size w2 (w2.alloc (.cells #[.int .i64 sp,.int .i64 sn,.int .i64 sk,.int .i64 so] 38)):=bal
  exact HK.out _ ((hb.block gx l1).trans h1) ((hb.block _ l2).trans h2)
 have FIN:Hid (∀ (w2:World) (u':UV),UStep wb.drew w2 gu b0 b0 true v.u u' AM->∀ g1 cap1 (wn:World),wn.ownsRow b0 38 4 (.slice (some ⟨g1,0,none⟩) (x.seen.length+1) cap1) (x.seen.length+1) (ecells eSeen x.seen ++ [.int .i64 sp,.int .i64 sn,.int .i64 sk,.int .i64 so])->(w2.alloc (.cells #[.int .i64 sp,.int .i64 sn,.int .i64 sk,.int .i64 so] 38)).grownBy wn (oOf v.sa)->(oOf v.sa=some g1\/g1=w2.heap.size+1)->XStep w (wn.setCell ⟨gx,4,none⟩ (.slice (some ⟨g1,0,none⟩) (x.seen.length+1) cap1)) gx gu b0 oa oc ops v ⟨u',some ⟨g1,0,none⟩,cap1⟩ (happenX ops x ⟨4,P,N,C⟩)):=fun w2 u' hU g1 cap1 wn hown hgrow hat=>by
  rw [HE.out]
  have bX:Below w.heap.size w wb.drew:=HBB.out.drew
  have st1:=(XStep.refl HX.out bX).trans ((HX.out.below bX).mach (hU.wide hth))
  have st2:=st1.trans (XStep.refl st1.xm (br.alloc (Nat.le_refl _) (.cells #[.int .i64 sp,.int .i64 sn,.int .i64 sk,.int .i64 so] 38)))
  have hl:(x.seen ++ [(⟨sp,sn,sk,so⟩:SeenR)]).length=x.seen.length+1:=by simp
  have hnew:ERow eSeen wn b0 (.slice (some ⟨g1,0,none⟩) (x.seen ++ [(⟨sp,sn,sk,so⟩:SeenR)]).length cap1) (x.seen ++ [(⟨sp,sn,sk,so⟩:SeenR)]):=by
   rw [hl]
   exact ERow.snocL (m:=x.seen.length+1) rfl hown
  have st3:=st2.xm.newSeen hgrow (some ⟨g1,0,none⟩) cap1 _ hnew (fun k hk=>by
   have:g1=k:=by simpa [oOf,Value.ownBlock] using hk
   subst this
   rcases hat with h' | h'
   ·exact .inl h'
   ·exact .inr (by simp; omega))
  rw [hl] at st3
  exact st2.trans st3
 have HROW:Hid (∀ (w2:World) (u':UV),UStep wb.drew w2 gu b0 b0 true v.u u' AM->(w2.alloc (.cells #[.int .i64 sp,.int .i64 sn,.int .i64 sk,.int .i64 so] 38)).ownsRow b0 38 4 (.slice v.sa x.seen.length v.sc) x.seen.length (ecells eSeen x.seen)/\(w2.alloc (.cells #[.int .i64 sp,.int .i64 sn,.int .i64 sk,.int .i64 so] 38)).frozen? ⟨gx,4,none⟩=false/\b0<=w2.heap.size):=fun w2 u' hU=>by
  have bX:Below w.heap.size w wb.drew:=HBB.out.drew
  have st1:=(XStep.refl HX.out bX).trans ((HX.out.below bX).mach (hU.wide hth))
  have st2:=st1.trans (XStep.refl st1.xm (br.alloc (Nat.le_refl _) (.cells #[.int .i64 sp,.int .i64 sn,.int .i64 sk,.int .i64 so] 38)))
  have:=st1.tch.size
  exact ⟨st2.xm.s,st2.xm.f4,by omega⟩
 have HNS:Hid (oOf v.sa ≠ some gx):=h.ns
 have HLO:Hid (∀ k,oOf v.sa=some k->k < w.heap.size):=fun k hk=>(h.s.ownA k hk).2
 have HWB:Hid (wb=_):=hwb
 have HIMP:Hid (w.heap.size<=wb.heap.size):=hidOf <| by show w.heap.size<=wb.heap.size; omega
 clear hwb hbb hzb h hx hops hgo ho hg1 hg2 hth hSE hAM
 go_enter Tryz.func120,Tryz.ntmps120
 go_wp2_with fail
 rw [<- HWB.out]
 refine wp_region_held_drew (S:=fun wX=>wX.cell? ⟨gx,0,none⟩=some (.pointer (some ⟨gu,0,none⟩))/\wX.cell? ⟨w.heap.size,1,none⟩=some (.int .i64 P)/\wX.cell? ⟨w.heap.size,2,none⟩=some (.int .i64 N)/\wX.cell? ⟨w.heap.size,3,none⟩=some (.int .i64 C)) (by kernel_rfl) (HK.out _ rfl rfl) (fun hHeld=>?_)
 refine tk 0 ?_
 refine tk 1 ?_
 refine tk 2 ?_
 refine tk 3 ?_
 refine tk 5 ?_
 refine tk 6 ?_
 refine tk 7 ?_
 refine tk 8 ?_
 refine tk 9 ?_
 refine tk 10 ?_
 refine tk 11 ?_
 refine tk 12 ?_
 refine tk 13 ?_
 refine tk 14 ?_
 apply both_waysX (F:=fun (w2:World) (u':UV)=>((w2.alloc (.cells #[.int .i64 sp,.int .i64 sn,.int .i64 sk,.int .i64 so] 38)).cell? ⟨gx,0,none⟩=some (.pointer (some ⟨gu,0,none⟩))/\(w2.alloc (.cells #[.int .i64 sp,.int .i64 sn,.int .i64 sk,.int .i64 so] 38)).cell? ⟨w.heap.size,1,none⟩=some (.int .i64 P)/\(w2.alloc (.cells #[.int .i64 sp,.int .i64 sn,.int .i64 sk,.int .i64 so] 38)).cell? ⟨w.heap.size,2,none⟩=some (.int .i64 N)/\(w2.alloc (.cells #[.int .i64 sp,.int .i64 sn,.int .i64 sk,.int .i64 so] 38)).cell? ⟨w.heap.size,3,none⟩=some (.int .i64 C))/\UStep wb.drew w2 gu b0 b0 true v.u u' AM)
 ·intro cont
  refine wpAnyH_ready (rs:=[4,15]) (by kernel_rfl) (by simp) ?_
  refine AllReadyH.cons rfl (fun K hK=>?_) (AllReadyH.cons rfl (fun K hK=>?_) AllReadyH.nil)
  ·skip
   go_simp
   refine hK.out _ _ (HK.out _ rfl rfl) (fun hHeld=>?_)
   clear hK K
   refine wpAnyH_ready (rs:=[15]) (by kernel_rfl) (by simp) ?_
   refine AllReadyH.cons rfl (fun K hK=>?_) AllReadyH.nil
   go_simp
   refine (HMC.out _ (br.drew)).mono ?_
   rintro e w2 ⟨rfl,u',hU⟩
   obtain ⟨hgw2,hhw2,q4w,hlw⟩:=HAFT.out w2 u' hU
   go_wp2_with fail
   refine hK.out _ _ (HK.out w2 hgw2 hhw2) (fun hHeld=>?_)
   clear hK K
   refine wpAnyH_ready (rs:=[16]) (by kernel_rfl) (by simp) ?_
   refine AllReadyH.cons rfl (fun K hK=>?_) AllReadyH.nil
   go_simp
   refine hK.out _ _ (HKA.out w2 hgw2 hhw2) (fun hHeld=>?_)
   clear hK K
   exact cont w2 u' ⟨HKA.out w2 hgw2 hhw2,hU⟩
  ·skip
   go_simp
   refine (HMC.out _ (br.drew)).mono ?_
   rintro e w2 ⟨rfl,u',hU⟩
   obtain ⟨hgw2,hhw2,q4w,hlw⟩:=HAFT.out w2 u' hU
   go_wp2_with fail
   refine hK.out _ _ (HK.out w2 hgw2 hhw2) (fun hHeld=>?_)
   clear hK K
   refine wpAnyH_ready (rs:=[4,16]) (by kernel_rfl) (by simp) ?_
   refine AllReadyH.cons rfl (fun K hK=>?_) (AllReadyH.cons rfl (fun K hK=>?_) AllReadyH.nil)
   ·skip
    go_simp
    refine hK.out _ _ (HK.out w2 hgw2 hhw2) (fun hHeld=>?_)
    clear hK K
    refine wpAnyH_ready (rs:=[16]) (by kernel_rfl) (by simp) ?_
    refine AllReadyH.cons rfl (fun K hK=>?_) AllReadyH.nil
    go_simp
    refine hK.out _ _ (HKA.out w2 hgw2 hhw2) (fun hHeld=>?_)
    clear hK K
    exact cont w2 u' ⟨HKA.out w2 hgw2 hhw2,hU⟩
   ·skip
    go_simp
    refine hK.out _ _ (HKA.out w2 hgw2 hhw2) (fun hHeld=>?_)
    clear hK K
    refine wpAnyH_ready (rs:=[4]) (by kernel_rfl) (by simp) ?_
    refine AllReadyH.cons rfl (fun K hK=>?_) AllReadyH.nil
    go_simp
    refine hK.out _ _ (HKA.out w2 hgw2 hhw2) (fun hHeld=>?_)
    clear hK K
    exact cont w2 u' ⟨HKA.out w2 hgw2 hhw2,hU⟩
 rintro w2 u' ⟨hHeld,hU⟩
 obtain ⟨hown0,hfz,hb0⟩:=HROW.out w2 u' hU
 obtain ⟨hgw2,hhw2,q4w,hlw⟩:=HAFT.out w2 u' hU
 have hhl:w.heap.size < w2.heap.size:=(Array.getElem?_eq_some_iff.1 (hhw2.trans (Array.getElem?_eq_getElem hwl))).1
 refine wpAnyH_ready (rs:=[17]) (by kernel_rfl) (by simp) ?_
 refine AllReadyH.cons rfl (fun K hK=>?_) AllReadyH.nil
 refine step_append_lies _ (by rfl) (.tmp 45) (.tmp 57) 58 (by rfl) b0 38 iE _ 4 32 Tryz.underlying58 hiE hz0 hz1 hz2 rfl (by omega) _ _ _ (by rfl) hown0 ⟨w2.heap.size,0,none⟩ 1 1 [.int .i64 sp,.int .i64 sn,.int .i64 sk,.int .i64 so] (by rfl) rfl (World.news_of_block (heap_alloc_new w2 (.cells #[.int .i64 sp,.int .i64 sn,.int .i64 sk,.int .i64 so] 38))) (by intro u hu; simp at hu; rcases hu with rfl | rfl | rfl | rfl <;> rfl) (by omega) (by unfold maxLen; omega) (by omega) (by simp; omega) (w2.heap.size+1) (by simp) ?_
 intro g1 cap1 wn hown hgrow hat hlt3
 rw [own_slice] at hgrow hat
 have hfin:=FIN.out w2 u' hU g1 cap1 wn hown hgrow hat
 have hAl:Below w2.heap.size w2 (w2.alloc (.cells #[.int .i64 sp,.int .i64 sn,.int .i64 sk,.int .i64 so] 38)):=bal
 have kx:wn.heap[gx]?=wb.heap[gx]?:=(hgrow.block gx (by simp; omega) (fun e=>HNS.out e.symm)).trans ((hAl.block gx hlw).trans hgw2)
 have kh:wn.heap[w.heap.size]?=wb.heap[w.heap.size]?:=(hgrow.block w.heap.size (by simp; omega) (fun e=>by have:=HLO.out _ e.symm; omega)).trans ((hAl.block _ hhl).trans hhw2)
 have hKn:=HK.out wn kx kh
 have c4:=(cob (a:=⟨gx,4,none⟩) kx).trans q4
 have z4:=(fob (a:=⟨gx,4,none⟩) (hgrow.block gx (by simp; omega) (fun e=>HNS.out e.symm))).trans hfz
 have hKs:(wn.setCell ⟨gx,4,none⟩ (.slice (some ⟨g1,0,none⟩) (x.seen.length+1) cap1)).cell? ⟨gx,0,none⟩=some (.pointer (some ⟨gu,0,none⟩))/\(wn.setCell ⟨gx,4,none⟩ (.slice (some ⟨g1,0,none⟩) (x.seen.length+1) cap1)).cell? ⟨w.heap.size,1,none⟩=some (.int .i64 P)/\(wn.setCell ⟨gx,4,none⟩ (.slice (some ⟨g1,0,none⟩) (x.seen.length+1) cap1)).cell? ⟨w.heap.size,2,none⟩=some (.int .i64 N)/\(wn.setCell ⟨gx,4,none⟩ (.slice (some ⟨g1,0,none⟩) (x.seen.length+1) cap1)).cell? ⟨w.heap.size,3,none⟩=some (.int .i64 C):=by
  have e0:(wn.setCell ⟨gx,4,none⟩ (.slice (some ⟨g1,0,none⟩) (x.seen.length+1) cap1)).heap[w.heap.size]?=wn.heap[w.heap.size]?:=Below.heap_setCell _ _ _ _ (by intro e; have e':w.heap.size=gx:=e; omega)
  exact ⟨(World.cell?_setCell_other _ _ _ _ (by simp)).trans hKn.1,(cob e0).trans hKn.2.1,(cob e0).trans hKn.2.2.1,(cob e0).trans hKn.2.2.2⟩
 have HF:Hid _:=hfin
 have hln:gx < wn.heap.size:=(Array.getElem?_eq_some_iff.1 (kx.trans (Array.getElem?_eq_getElem hgb))).1
 refine hK.out _ _ hKn (fun hHeld=>?_)
 clear hK K hfin hown hgrow hat hU hown0 hAl
 refine tk 18 ?_
 refine tk 19 ?_
 refine wpAnyH_ready (rs:=[20]) (by kernel_rfl) (by simp) ?_
 refine AllReadyH.cons rfl (fun K hK=>?_) AllReadyH.nil
 go_simp
 refine hK.out _ _ hKs (fun hHeld=>?_)
 clear hK K
 refine wpAnyH_done (by kernel_rfl) ?_ _
 go_wp2_with fail
 exact bodyPost_end (v:=.tuple #[]) (by simp [results,Tryz.results120,go_sem]) rfl ⟨rfl,_,HF.out⟩
end Go.Proofs.YtiiejckfcnmhoabGreat
