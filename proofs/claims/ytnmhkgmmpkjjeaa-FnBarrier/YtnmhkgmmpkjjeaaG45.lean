import Derived.Test.YtnmhkgmmpkjjeaaG37
import Derived.Test.YtnmhkgmmpkjjeaaG38
import Derived.Test.YtnmhkgmmpkjjeaaG40
import Derived.Test.YtnmhkgmmpkjjeaaG44
namespace Go.Proofs.Ytnmhkgmmpkjjeaa
open Go.ChangeShapes Go.WideShapes Go.ChangeAt Go.RowKit
set_option linter.unusedVariables false
set_option linter.unusedSimpArgs false
set_option maxRecDepth 100000
attribute [local go_sem ↓] Go.wp_at_zero Go.wp_at_succ
theorem put4T {w:World} {B:Nat} {v0 v1 v2 v3:Value}:Touch (fun k=>k=B) w ((((w.setCell ⟨B,0,none⟩ (v0)).setCell ⟨B,1,none⟩ (v1)).setCell ⟨B,2,none⟩ (v2)).setCell ⟨B,3,none⟩ (v3)) :=
 ⟨rfl,rfl,rfl,by simp,fun k hk hn=>by rw [Below.heap_setCell _ _ _ _ hn,Below.heap_setCell _ _ _ _ hn,Below.heap_setCell _ _ _ _ hn,Below.heap_setCell _ _ _ _ hn]⟩
theorem Touch.mono {S S':Nat->Prop} {a b:World} (h:Touch S a b) (hS:∀ k,S k->S' k):Touch S' a b:=⟨h.os,h.tape,h.output,h.size,fun k hk hn=>h.block k hk (fun h'=>hn (hS k h'))⟩
theorem touch_cel {S:Nat->Prop} {a b:World} (h:Touch S a b) {B i:Nat} (hB:B < a.heap.size) (hn:¬ S B):b.cell? ⟨B,i,none⟩=a.cell? ⟨B,i,none⟩:=World.cell?_of_block (a:=⟨B,i,none⟩) (h.block B hB hn)
theorem touch_frz {S:Nat->Prop} {a b:World} (h:Touch S a b) {B i:Nat} (hB:B < a.heap.size) (hn:¬ S B):b.frozen? ⟨B,i,none⟩=a.frozen? ⟨B,i,none⟩:=World.frozen?_of_block (a:=⟨B,i,none⟩) (h.block B hB hn)
def C4 (w:World) (B:Nat) (v0 v1 v2 v3:Value):Prop:=w.cell? ⟨B,0,none⟩=some v0/\w.cell? ⟨B,1,none⟩=some v1/\w.cell? ⟨B,2,none⟩=some v2/\w.cell? ⟨B,3,none⟩=some v3
theorem C4.touch {S:Nat->Prop} {a b:World} {B:Nat} {v0 v1 v2 v3:Value} (h:C4 a B v0 v1 v2 v3) (ht:Touch S a b) (hB:B < a.heap.size) (hn:¬ S B):C4 b B v0 v1 v2 v3:=by
 unfold C4
 rw [touch_cel ht hB hn,touch_cel ht hB hn,touch_cel ht hB hn,touch_cel ht hB hn]
 exact h
theorem C4.put {w:World} {B:Nat} {v0 v1 v2 v3 r0 r1 r2 r3:Value} (h:C4 w B r0 r1 r2 r3):C4 ((((w.setCell ⟨B,0,none⟩ (v0)).setCell ⟨B,1,none⟩ (v1)).setCell ⟨B,2,none⟩ (v2)).setCell ⟨B,3,none⟩ (v3)) B v0 v1 v2 v3:=put4c rfl h.1 h.2.1 h.2.2.1 h.2.2.2
theorem two_put {wE:World} {B:Nat} {v0 v1 v2 v3 u0 u1 u2 u3 r0 r1 r2 r3 q0 q1 q2 q3:Value} (hr:C4 wE B r0 r1 r2 r3) (hq:C4 wE (B+1) q0 q1 q2 q3) (hl:B+1 < wE.heap.size) :
  Touch (fun k=>k=B\/k=B+1) wE (((((wE.setCell ⟨B,0,none⟩ (v0)).setCell ⟨B,1,none⟩ (v1)).setCell ⟨B,2,none⟩ (v2)).setCell ⟨B,3,none⟩ (v3))).drew/\Touch (fun k=>k=B\/k=B+1) wE (((((((((wE.setCell ⟨B,0,none⟩ (v0)).setCell ⟨B,1,none⟩ (v1)).setCell ⟨B,2,none⟩ (v2)).setCell ⟨B,3,none⟩ (v3)).setCell ⟨B+1,0,none⟩ (u0)).setCell ⟨B+1,1,none⟩ (u1)).setCell ⟨B+1,2,none⟩ (u2)).setCell ⟨B+1,3,none⟩ (u3))).drew/\C4 (((((((((wE.setCell ⟨B,0,none⟩ (v0)).setCell ⟨B,1,none⟩ (v1)).setCell ⟨B,2,none⟩ (v2)).setCell ⟨B,3,none⟩ (v3)).setCell ⟨B+1,0,none⟩ (u0)).setCell ⟨B+1,1,none⟩ (u1)).setCell ⟨B+1,2,none⟩ (u2)).setCell ⟨B+1,3,none⟩ (u3))).drew B v0 v1 v2 v3/\C4 (((((((((wE.setCell ⟨B,0,none⟩ (v0)).setCell ⟨B,1,none⟩ (v1)).setCell ⟨B,2,none⟩ (v2)).setCell ⟨B,3,none⟩ (v3)).setCell ⟨B+1,0,none⟩ (u0)).setCell ⟨B+1,1,none⟩ (u1)).setCell ⟨B+1,2,none⟩ (u2)).setCell ⟨B+1,3,none⟩ (u3))).drew (B+1) u0 u1 u2 u3/\Touch (fun k=>k=B\/k=B+1) wE (((((wE.setCell ⟨B,0,none⟩ (v0)).setCell ⟨B,1,none⟩ (v1)).setCell ⟨B,2,none⟩ (v2)).setCell ⟨B,3,none⟩ (v3)))/\Touch (fun k=>k=B\/k=B+1) wE (((((((((wE.setCell ⟨B,0,none⟩ (v0)).setCell ⟨B,1,none⟩ (v1)).setCell ⟨B,2,none⟩ (v2)).setCell ⟨B,3,none⟩ (v3)).setCell ⟨B+1,0,none⟩ (u0)).setCell ⟨B+1,1,none⟩ (u1)).setCell ⟨B+1,2,none⟩ (u2)).setCell ⟨B+1,3,none⟩ (u3)))/\C4 (((((((((wE.setCell ⟨B,0,none⟩ (v0)).setCell ⟨B,1,none⟩ (v1)).setCell ⟨B,2,none⟩ (v2)).setCell ⟨B,3,none⟩ (v3)).setCell ⟨B+1,0,none⟩ (u0)).setCell ⟨B+1,1,none⟩ (u1)).setCell ⟨B+1,2,none⟩ (u2)).setCell ⟨B+1,3,none⟩ (u3))) B v0 v1 v2 v3/\C4 (((((((((wE.setCell ⟨B,0,none⟩ (v0)).setCell ⟨B,1,none⟩ (v1)).setCell ⟨B,2,none⟩ (v2)).setCell ⟨B,3,none⟩ (v3)).setCell ⟨B+1,0,none⟩ (u0)).setCell ⟨B+1,1,none⟩ (u1)).setCell ⟨B+1,2,none⟩ (u2)).setCell ⟨B+1,3,none⟩ (u3))) (B+1) u0 u1 u2 u3:=by
 have p1:=put4T (w:=wE) (B:=B) (v0:=v0) (v1:=v1) (v2:=v2) (v3:=v3)
 have c1:C4 (((((wE.setCell ⟨B,0,none⟩ (v0)).setCell ⟨B,1,none⟩ (v1)).setCell ⟨B,2,none⟩ (v2)).setCell ⟨B,3,none⟩ (v3))) B v0 v1 v2 v3:=C4.put hr
 have d1:=hq.touch p1 (by omega) (by omega)
 have s1:=p1.size
 generalize (((((wE.setCell ⟨B,0,none⟩ (v0)).setCell ⟨B,1,none⟩ (v1)).setCell ⟨B,2,none⟩ (v2)).setCell ⟨B,3,none⟩ (v3)))=wA at *
 have p2:=put4T (w:=wA) (B:=B+1) (v0:=u0) (v1:=u1) (v2:=u2) (v3:=u3)
 have c2:C4 (((((wA.setCell ⟨B+1,0,none⟩ (u0)).setCell ⟨B+1,1,none⟩ (u1)).setCell ⟨B+1,2,none⟩ (u2)).setCell ⟨B+1,3,none⟩ (u3))) (B+1) u0 u1 u2 u3:=C4.put d1
 have d2:=c1.touch p2 (by omega) (by omega)
 have s2:=p2.size
 generalize (((((wA.setCell ⟨B+1,0,none⟩ (u0)).setCell ⟨B+1,1,none⟩ (u1)).setCell ⟨B+1,2,none⟩ (u2)).setCell ⟨B+1,3,none⟩ (u3)))=wF at *
 have e:Touch (fun _=>False) wF wF.drew:=Touch.of_below (Below.refl _ _).drew
 have eA:Touch (fun k=>k=B\/k=B+1) wA wA.drew:=Touch.of_below (Below.refl _ _).drew
 exact ⟨(p1.mono (fun k hk=>.inl hk)).trans eA,((p1.mono (fun k hk=>.inl hk)).trans (p2.mono (fun k hk=>.inr hk))).trans (e.mono (fun k hk=>hk.elim)),d2.touch e (by omega) (fun h=>h),c2.touch e (by omega) (fun h=>h),p1.mono (fun k hk=>.inl hk),(p1.mono (fun k hk=>.inl hk)).trans (p2.mono (fun k hk=>.inr hk)),d2,c2⟩
set_option maxHeartbeats 16000000 in
theorem drawStep_any (a:Option Addr) (cap:Nat) (cs:List Int) (w:World) (hc:Byt cs) (hs:BAt w a cs) :
  Calls Try.prog 28 #[.slice a cs.length cap] w fun e w'=>∃ (s:SV) (o:OpE),OpOk o/\e=.returned (.tuple #[.agg #[.slice s.a1 (drawSt cs).mem.length s.c1,.slice s.a2 (drawSt cs).pend.length s.c2,.slice s.a3 (drawSt cs).tlb.length s.c3,.slice s.a4 (drawSt cs).wc.length s.c4],.agg #[.int .i64 o.kind,.int .i64 o.a,.int .i64 o.b,.int .u64 o.word]])/\MRow w' w.heap.size (s.mv (drawSt cs)) (drawSt cs)/\Below w.heap.size w w':=by
 obtain ⟨wb,hwb⟩:∃ wb,wb=(w.alloc (.cells #[.slice none 0 0,.slice none 0 0,.slice none 0 0,.slice none 0 0] 38)).alloc (.cells #[.int .i64 0,.int .i64 0,.int .i64 0,.int .u64 0] 65):=⟨_,rfl⟩
 have hbb:Below w.heap.size w wb:=by rw [hwb]; exact ((Below.refl _ _).alloc (Nat.le_refl _) _).alloc (by simp) _
 have hzb:wb.heap.size=w.heap.size+2:=by rw [hwb]; simp
 have HQ:Hid (∀ wX,Below wb.heap.size wb wX->(wX.cell? ⟨w.heap.size,0,none⟩=some (.slice none 0 0)/\wX.cell? ⟨w.heap.size,1,none⟩=some (.slice none 0 0)/\wX.cell? ⟨w.heap.size,2,none⟩=some (.slice none 0 0)/\wX.cell? ⟨w.heap.size,3,none⟩=some (.slice none 0 0))/\(wX.cell? ⟨w.heap.size+1,0,none⟩=some (.int .i64 0)/\wX.cell? ⟨w.heap.size+1,1,none⟩=some (.int .i64 0)/\wX.cell? ⟨w.heap.size+1,2,none⟩=some (.int .i64 0)/\wX.cell? ⟨w.heap.size+1,3,none⟩=some (.int .u64 0))/\wX.frozen? ⟨w.heap.size,0,none⟩=false/\wX.frozen? ⟨w.heap.size,1,none⟩=false/\wX.frozen? ⟨w.heap.size,2,none⟩=false/\wX.frozen? ⟨w.heap.size,3,none⟩=false/\wX.frozen? ⟨w.heap.size+1,0,none⟩=false/\wX.frozen? ⟨w.heap.size+1,1,none⟩=false/\wX.frozen? ⟨w.heap.size+1,2,none⟩=false/\wX.frozen? ⟨w.heap.size+1,3,none⟩=false):=hidP fun wX hX=>by
  refine ⟨⟨?_,?_,?_,?_⟩,⟨?_,?_,?_,?_⟩,?_,?_,?_,?_,?_,?_,?_,?_⟩
  iterate 8 (exact (hX.cell (by simp; omega)).trans (by rw [hwb]; simp [go_sem]))
  iterate 8 (exact (hX.frozen (by simp; omega)).trans (by rw [hwb]; simp [go_sem]))
 have HBA:Hid (∀ wX,Below wb.heap.size wb wX->BAt wX a cs):=hidP fun wX hX=>hs.below (hbb.trans (hX.mono (by omega)))
 have t0:=take_any a cap cs 0 12 wb hc (by omega) (by omega) (hs.below hbb)
 have HT1:Hid (∀ wX,Below wb.heap.size wb wX->Calls Try.prog 76 #[.slice a cs.length cap,.int .i64 1] wX fun e w'=>∃ s:SV,e=.returned (.tuple #[.agg #[.slice s.a1 (drawMa cs 1).1.mem.length s.c1,.slice s.a2 (drawMa cs 1).1.pend.length s.c2,.slice s.a3 (drawMa cs 1).1.tlb.length s.c3,.slice s.a4 (drawMa cs 1).1.wc.length s.c4],.int .i64 ((drawMa cs 1).2:Int)])/\MRow w' wX.heap.size (s.mv (drawMa cs 1).1) (drawMa cs 1).1/\Below wX.heap.size wX w'):=hidP fun wX hX=>drawMach_any a cap cs 1 wX hc (by omega) (HBA.out wX hX)
 obtain ⟨d1,d2,d3,d4,d5,d6,d7⟩:=okDraw cs hc
 obtain ⟨e1,e2,e3⟩:=stA_ok cs hc
 obtain ⟨bH0,bH1⟩:=tkV_bd cs 0 12 (by omega) hc (by omega)
 have HSP:Hid (∀ (s:SV) (b:Nat) wX,Below wb.heap.size wb wX->MRow wX b (s.mv (drawMa cs 1).1) (drawMa cs 1).1->tkV cs 0 12=11->Calls Try.prog 77 #[.slice a cs.length cap,.int .i64 ((drawMa cs 1).2:Int),.agg #[.slice s.a1 (drawMa cs 1).1.mem.length s.c1,.slice s.a2 (drawMa cs 1).1.pend.length s.c2,.slice s.a3 (drawMa cs 1).1.tlb.length s.c3,.slice s.a4 (drawMa cs 1).1.wc.length s.c4]] wX fun e w'=>∃ s':SV,e=.returned (.agg #[.slice s'.a1 (stA cs).mem.length s'.c1,.slice s'.a2 (stA cs).pend.length s'.c2,.slice s'.a3 (stA cs).tlb.length s'.c3,.slice s'.a4 (stA cs).wc.length s'.c4])/\MRow w' wX.heap.size (s'.mv (stA cs)) (stA cs)/\Below wX.heap.size wX w'):=hidP fun s b wX hX hm h11=>by
  have h:=spoilS_any a cap cs (drawMa cs 1).2 s (drawMa cs 1).1 b wX hc (by omega) (HBA.out wX hX) ⟨by omega,by omega,by omega,by omega⟩ d4 d5 (fun i hi=>by
   have:=d7 _ (eAt_in eTlb hi)
   simp only [tlbOkB,pageOk,Bool.and_eq_true,Bool.or_eq_true,decide_eq_true_eq] at this
   omega) hm
  rw [show spoilM (drawMa cs 1).1 (tkV cs (drawMa cs 1).2 10) (tkV cs ((drawMa cs 1).2+1) 200)=stA cs by unfold stA; rw [if_pos h11]] at h
  exact h
 have HA11:Hid (tkV cs 0 12 ≠ 11->stA cs=(drawMa cs 1).1):=hidP fun h=>by unfold stA; rw [if_neg h]
 have HFR:Hid (∀ g c wX,Calls Try.prog 39 #[.agg #[.slice g (stA cs).mem.length c]] wX fun e w'=>e=.returned (.int .i64 (nfr (stA cs).mem.length))/\Below wX.heap.size wX w'):=hidP fun g c wX=>frames_any g (stA cs).mem.length c (by have:=e2.w; omega) wX
 have HOP0:Hid (∀ (s:SV) (b:Nat) wX,Below wb.heap.size wb wX->nfr (stA cs).mem.length ≠ 0->MRow wX b (s.mv (stA cs)) (stA cs)->Calls Try.prog 78 #[.slice a cs.length cap,.int .i64 ((drawMa cs 1).2:Int),.agg #[.slice s.a1 (stA cs).mem.length s.c1,.slice s.a2 (stA cs).pend.length s.c2,.slice s.a3 (stA cs).tlb.length s.c3,.slice s.a4 (stA cs).wc.length s.c4]] wX fun e w'=>∃ o:OpE,OpOk o/\e=.returned (.tuple #[.agg #[.int .i64 o.kind,.int .i64 o.a,.int .i64 o.b,.int .u64 o.word],.int .i64 (((drawMa cs 1).2:Int)+1+1+1+1)])/\Below wX.heap.size wX w'):=hidP fun s b wX hX hn hm=>drawOp_any a cap cs (drawMa cs 1).2 s (stA cs) b wX hc (by omega) (HBA.out wX hX) e2 ⟨hn,e1.word⟩ e1 hm
 have HTZ:Hid (∀ wX,Below wb.heap.size wb wX->∃ V:Int,Calls Try.prog 37 #[.slice a cs.length cap,.int .i64 (((drawMa cs 1).2:Int)+1+1+1+1),.int .i64 2] wX fun e w'=>e=.returned (.tuple #[.int .i64 V,.int .i64 (((drawMa cs 1).2:Int)+1+1+1+1+1)])/\Below wX.heap.size wX w'):=hidP fun wX hX=>by
  have h:=take_any a cap cs ((drawMa cs 1).2+4) 2 wX hc (by omega) (by omega) (HBA.out wX hX)
  rw [show (((drawMa cs 1).2+4:Nat):Int)=((drawMa cs 1).2:Int)+1+1+1+1 by omega] at h
  exact ⟨_,h⟩
 have HDS:Hid (drawSt cs=if nfr (stA cs).mem.length=0 then stA cs else if 7<=tkV cs 0 12/\tkV cs 0 12<=10/\0 < (stA cs).tlb.length then stB (tkV cs 0 12) (stAd ((drawMa cs 1).2+5) (stA cs)) (stA cs) else stA cs):=hidP rfl
 have HVM:Hid (tkV cs 0 12 ≠ 11->nfr (stA cs).mem.length ≠ 0->VM (stA cs)):=e3
 have HMO:Hid (MOk (stA cs)/\(stA cs).Small):=hidP ⟨e1,e2⟩
 generalize drawSt cs=R at *
 generalize tkV cs 0 12=H at *
 generalize stA cs=A at *
 generalize drawMa cs 1=D at *
 obtain ⟨M0,q⟩:=D
 dsimp only at *
 have HWB:Hid (wb=_):=hwb
 have HBB:Hid (Below w.heap.size w wb):=hbb
 rw [hwb] at t0
 rw [show ((0:Nat):Int)=0 from rfl] at t0
 clear hc hs hwb hbb d1 d2 d3 d4 d5 d7 e1 e2 e3
 go_enter Try.func28,Try.ntmps28
 go_wp2_with fail
 refine t0.mono ?_
 rintro e w1 ⟨rfl,hb1'⟩
 have hb1:Below wb.heap.size wb w1:=by rw [HWB.out]; exact hb1'
 have t1:=HT1.out w1 hb1
 have HB1:Hid (Below wb.heap.size wb w1):=hb1
 have L1:w.heap.size+1 < w1.heap.size:=by have:=hb1.size; omega
 clear t0 hb1' hb1
 go_wp2_with fail
 refine t1.mono ?_
 rintro e w2 ⟨s,rfl,hr2',hb2'⟩
 have HR2:Hid (MRow w2 w1.heap.size (s.mv M0) M0):=hr2'
 have HB2:Hid (Below w1.heap.size w1 w2):=hb2'
 clear hr2' hb2' t1
 go_upto_region 3 with fail
 have hr4:=HR2.out
 have hb4:=HB2.out
 obtain ⟨w5,hw5⟩:∃ w5,w5=w2.alloc (.cells #[.slice s.a1 M0.mem.length s.c1,.slice s.a2 M0.pend.length s.c2,.slice s.a3 M0.tlb.length s.c3,.slice s.a4 M0.wc.length s.c4] 38):=⟨_,rfl⟩
 have z5:w5.heap.size=w2.heap.size+1:=by rw [hw5]; simp
 have hd5:DMS w1 w5 w1.heap.size w2.heap.size w1.heap.size (fun _=>False) s M0:=by
  have b5:Below w2.heap.size w2 w5:=by rw [hw5]; exact bal
  refine ⟨?_,?_,?_,?_,fun i hi=>?_,hr4.below b5,fun k hk=>.inr ⟨(hr4.own k hk).1,by have:=(hr4.own k hk).2; omega⟩,hb4.trans (b5.mono hb4.size),by omega,hb4.size,Nat.le_refl _,fun k hk=>hk.elim⟩
  iterate 4 (rw [hw5]; simp [go_sem])
  ·rcases (show i=0\/i=1\/i=2\/i=3 by omega) with rfl | rfl | rfl | rfl <;> (rw [hw5]; simp [go_sem])
 have N2:w1.heap.size<=w2.heap.size:=hb4.size
 have N3:w2.heap.size < w5.heap.size:=by omega
 have HKB:Hid (∀ {s M wX},DMS w1 wX w1.heap.size w2.heap.size w1.heap.size (fun _=>False) s M->Below wb.heap.size wb wX):=hidP fun hX=>HB1.out.trans (hX.bel.mono HB1.out.size)
 have HD5:Hid (DMS _ _ _ _ _ _ _ _):=hd5
 rw [<- hw5]
 clear hr4 hb4 hw5 z5
 have k0:=hd5.c0
 have k1:=hd5.c1
 have k2:=hd5.c2
 have k3:=hd5.c3
 have kf0:=hd5.fz 0 (by omega)
 have kf1:=hd5.fz 1 (by omega)
 have kf2:=hd5.fz 2 (by omega)
 have kf3:=hd5.fz 3 (by omega)
 clear hd5
 go_upto_if 25 with fail
 go_cut [] (fun wz=>∃ s:SV,DMS w1 wz w1.heap.size w2.heap.size w1.heap.size (fun _=>False) s A)
 case first =>
  by_cases h11:H=11
  ·have h11b:(H == 11)=true:=by simpa using h11
   have tS:=HSP.out s w1.heap.size w5 (HKB.out HD5.out) HD5.out.row h11
   clear h11
   go_wp2_with fail
   refine tS.mono ?_
   rintro e w6 ⟨s',rfl,hr6,hb6⟩
   have hdn:=HD5.out.swap hb6 (hr6.rebase (by omega)) (fun k hk=>.inr (hr6.own k hk).1)
   have hd6:=HD5.out.below hb6
   have q0:=hd6.c0
   have q1:=hd6.c1
   have q2:=hd6.c2
   have q3:=hd6.c3
   have g0:=hd6.fz 0 (by omega)
   have g1:=hd6.fz 1 (by omega)
   have g2:=hd6.fz 2 (by omega)
   have g3:=hd6.fz 3 (by omega)
   have HDN:Hid (DMS _ _ _ _ _ _ _ _):=hdn
   clear tS hr6 hb6 hdn hd6 k0 k1 k2 k3 kf0 kf1 kf2 kf3
   go_wp2_with fail
   go_meet
   case rel=>exact ⟨s',HDN.out⟩
  ·have h11b:(H == 11)=false:=by simpa using h11
   have HE:Hid (A=M0):=hidP (HA11.out h11)
   clear h11
   go_wp2_with fail
   go_meet
   case rel=>exact ⟨s,by rw [HE.out]; exact HD5.out⟩
 case rest =>
  clear k0 k1 k2 k3 kf0 kf1 kf2 kf3 HD5
  obtain ⟨s,hdc⟩:=hcut
  have HDc:Hid (DMS _ wc _ _ _ _ _ _):=hdc
  have k0:=hdc.c0
  have tF:=HFR.out s.a1 s.c1 wc
  have LC:w2.heap.size < wc.heap.size:=hdc.lt
  clear hdc
  go_wp2_with fail
  refine tF.mono ?_
  rintro e w7 ⟨rfl,hb7⟩
  have HD7:Hid (DMS _ w7 _ _ _ _ _ _):=hidP (HDc.out.below hb7)
  clear tF hb7 k0 HDc
  have L7:w2.heap.size < w7.heap.size:=HD7.out.lt
  have k0:=HD7.out.c0
  have k1:=HD7.out.c1
  have k2:=HD7.out.c2
  have k3:=HD7.out.c3
  by_cases hn:nfr A.mem.length=0
  ·have hnb:(nfr A.mem.length == 0)=true:=by simpa using hn
   have HRR:Hid (R=A):=hidP (by rw [HDS.out,if_pos hn])
   have HT:Hid (∀ wX,Touch (fun k=>k=w.heap.size\/k=w.heap.size+1) w7 wX->MRow wX w.heap.size (s.mv A) A/\Below w.heap.size w wX):=hidP fun wX hX=>by
    have hb:Below wb.heap.size wb w7:=HKB.out HD7.out
    have c:=HD7.out
    refine ⟨(c.row.touch hX (fun k hk=>by have:=(c.row.own k hk).1; omega)).rebase (base:=w1.heap.size) (by omega),?_⟩
    exact Touch.below (HBB.out.trans (hb.mono (by omega))) hX (by have:=hb.size; omega) (fun k hk=>by omega)
   obtain ⟨⟨r0,r1,r2,r3⟩,⟨q0,q1,q2,q3⟩,f0,f1,f2,f3,f4,f5,f6,f7⟩:=HQ.out w7 (HKB.out HD7.out)
   have HR0:Hid (C4 w7 w.heap.size _ _ _ _):=hidP ⟨r0,r1,r2,r3⟩
   have HR1:Hid (C4 w7 (w.heap.size+1) _ _ _ _):=hidP ⟨q0,q1,q2,q3⟩
   have LE:w.heap.size+1 < w7.heap.size:=by have:=(HKB.out HD7.out).size; omega
   obtain ⟨_,_,_,_,tA,tF,cA,cB⟩:=two_put (v0:=.slice s.a1 A.mem.length s.c1) (v1:=.slice s.a2 A.pend.length s.c2) (v2:=.slice s.a3 A.tlb.length s.c3) (v3:=.slice s.a4 A.wc.length s.c4) (u0:=.int .i64 2) (u1:=.int .i64 0) (u2:=.int .i64 0) (u3:=.int .u64 0) HR0.out HR1.out LE
   have HTA:Hid (Touch _ _ _):=tA
   have HTF:Hid (Touch _ _ _):=tF
   have HCA:Hid (C4 _ _ _ _ _ _):=cA
   have HCC:Hid (C4 _ _ _ _ _ _):=cB
   clear tA tF cA cB
   clear hn
   go_wp2_with fail
   obtain ⟨wF,hwF⟩:∃ wF,wF=((((((((w7.setCell ⟨w.heap.size,0,none⟩ (.slice s.a1 A.mem.length s.c1)).setCell ⟨w.heap.size,1,none⟩ (.slice s.a2 A.pend.length s.c2)).setCell ⟨w.heap.size,2,none⟩ (.slice s.a3 A.tlb.length s.c3)).setCell ⟨w.heap.size,3,none⟩ (.slice s.a4 A.wc.length s.c4)).setCell ⟨w.heap.size+1,0,none⟩ (.int .i64 2)).setCell ⟨w.heap.size+1,1,none⟩ (.int .i64 0)).setCell ⟨w.heap.size+1,2,none⟩ (.int .i64 0)).setCell ⟨w.heap.size+1,3,none⟩ (.int .u64 0)):=⟨_,rfl⟩
   have tF:=HTF.out
   have cA:=HCA.out
   have cB:=HCC.out
   rw [<- hwF] at tF cA cB ⊢
   obtain ⟨hm,hb⟩:=HT.out wF tF
   obtain ⟨a0,a1,a2,a3⟩:=cA
   obtain ⟨b0,b1,b2,b3⟩:=cB
   clear hwF tF HTA HTF HCA HCC
   try go_wp2_with fail
   rw [HRR.out]
   exact bodyPost_ret (v:=.tuple #[.agg #[.slice s.a1 A.mem.length s.c1,.slice s.a2 A.pend.length s.c2,.slice s.a3 A.tlb.length s.c3,.slice s.a4 A.wc.length s.c4],.agg #[.int .i64 (⟨2,0,0,0⟩:OpE).kind,.int .i64 (⟨2,0,0,0⟩:OpE).a,.int .i64 (⟨2,0,0,0⟩:OpE).b,.int .u64 (⟨2,0,0,0⟩:OpE).word]]) (by simp [results,Try.results28,go_sem,a0,a1,a2,a3,b0,b1,b2,b3]) rfl ⟨s,⟨2,0,0,0⟩,opok0 _ _ _ (by omega) (by omega) (by omega),rfl,hm,hb⟩
  ·have hnb:(nfr A.mem.length == 0)=false:=by simpa using hn
   have tO:=HOP0.out s w1.heap.size w7 (HKB.out HD7.out) hn HD7.out.row
   have HDS2:Hid (R=if 7<=H/\H<=10/\0 < A.tlb.length then stB H (stAd (q+5) A) A else A):=hidP (by rw [HDS.out,if_neg hn])
   have HVM2:Hid (H ≠ 11->VM A):=hidP (fun h=>HVM.out h hn)
   clear hn HDS
   go_wp2_with fail
   refine tO.mono ?_
   rintro e w8 ⟨o,hoo,rfl,hb8⟩
   have HOO:Hid (OpOk o):=hoo
   have HD8:Hid (DMS _ w8 _ _ _ _ _ _):=hidP (HD7.out.below hb8)
   clear tO hb8 hoo k0 k1 k2 k3
   go_upto_region 8 with fail
   obtain ⟨w9,hw9⟩:∃ w9,w9=w8.alloc (.cells #[.int .i64 o.kind,.int .i64 o.a,.int .i64 o.b,.int .u64 o.word] 65):=⟨_,rfl⟩
   have hb9:Below w8.heap.size w8 w9:=by rw [hw9]; exact bal
   have HOP:Hid (w9.cell? ⟨w8.heap.size,0,none⟩=some (.int .i64 o.kind)/\w9.cell? ⟨w8.heap.size,1,none⟩=some (.int .i64 o.a)/\w9.cell? ⟨w8.heap.size,2,none⟩=some (.int .i64 o.b)/\w9.cell? ⟨w8.heap.size,3,none⟩=some (.int .u64 o.word)):=hidP (by rw [hw9]; simp [go_sem])
   have LO:w8.heap.size < w9.heap.size:=by rw [hw9]; simp
   have HD9:Hid (DMS _ w9 _ _ _ _ _ _):=hidP (HD8.out.below hb9)
   have L8:w2.heap.size < w8.heap.size:=HD8.out.lt
   have LM:w2.heap.size < w9.heap.size:=HD9.out.lt
   rw [<- hw9]
   have k0:=HD9.out.c0
   have k1:=HD9.out.c1
   have k2:=HD9.out.c2
   have k3:=HD9.out.c3
   obtain ⟨o0,o1,o2,o3⟩:=HOP.out
   clear hw9 hb9 HD8 HD7
   obtain ⟨CB,hCB⟩:∃ CB,decide (7<=H/\H<=10/\0 < A.tlb.length)=CB:=⟨_,rfl⟩
   have HCB:Hid (decide (7<=H/\H<=10/\0 < A.tlb.length)=CB):=hCB
   clear hCB
   go_cut [54] (fun v wz=>v=.bool CB/\wz=w9)
   case first =>
    by_cases h7:7<=H
    ·have h7b:decide (7<=H)=true:=by simpa using h7
     by_cases h10:H<=10
     ·have h10b:decide (H<=10)=true:=by simpa using h10
      by_cases h0:0 < A.tlb.length
      ·have h0i:(0:Int) < (A.tlb.length:Int):=by omega
       have h0b:decide ((0:Int) < (A.tlb.length:Int))=true:=by simpa using h0i
       have HE:Hid (true=CB):=hidP ((decide_eq_true (⟨h7,h10,h0⟩:7<=H/\H<=10/\0 < A.tlb.length)).symm.trans HCB.out)
       have h0n:decide (0 < A.tlb.length)=true:=by simpa using h0
       clear h0
       go_wp2_with fail
       go_meet
       case rel=>exact ⟨by rw [<- HE.out] <;> first | rfl | rw [h0n],rfl⟩
      ·have hnil:A.tlb=[]:=List.length_eq_zero_iff.1 (by omega)
       have HE:Hid (false=CB):=hidP ((decide_eq_false (by omega)).symm.trans HCB.out)
       clear h0
       go_wp2_with fail
       go_meet
       case rel=>exact ⟨by rw [<- HE.out] <;> first | rfl | rw [h0n],rfl⟩
     ·have h10b:decide (H<=10)=false:=by simpa using h10
      have HE:Hid (false=CB):=hidP ((decide_eq_false (by omega)).symm.trans HCB.out)
      go_wp2_with fail
      go_meet
      case rel=>exact ⟨by rw [<- HE.out] <;> first | rfl | rw [h0n],rfl⟩
    ·have h7b:decide (7<=H)=false:=by simpa using h7
     have HE:Hid (false=CB):=hidP ((decide_eq_false (by omega)).symm.trans HCB.out)
     go_wp2_with fail
     go_meet
     case rel=>exact ⟨by rw [<- HE.out] <;> first | rfl | rw [h0n],rfl⟩
   case rest =>
    obtain ⟨rfl,rfl⟩:=hcut
    cases CB
    ·have HRR:Hid (R=A):=hidP (by rw [HDS2.out,if_neg (by have:=HCB.out; simpa using this)])
     clear k0 k1 k2 k3 o0 o1 o2 o3
     have HT:Hid (∀ wX,Touch (fun k=>k=w.heap.size\/k=w.heap.size+1) wc wX->(wX.cell? ⟨w2.heap.size,0,none⟩=some (.slice s.a1 A.mem.length s.c1)/\wX.cell? ⟨w2.heap.size,1,none⟩=some (.slice s.a2 A.pend.length s.c2)/\wX.cell? ⟨w2.heap.size,2,none⟩=some (.slice s.a3 A.tlb.length s.c3)/\wX.cell? ⟨w2.heap.size,3,none⟩=some (.slice s.a4 A.wc.length s.c4)/\wX.cell? ⟨w8.heap.size,0,none⟩=some (.int .i64 o.kind)/\wX.cell? ⟨w8.heap.size,1,none⟩=some (.int .i64 o.a)/\wX.cell? ⟨w8.heap.size,2,none⟩=some (.int .i64 o.b)/\wX.cell? ⟨w8.heap.size,3,none⟩=some (.int .u64 o.word))/\MRow wX w.heap.size (s.mv A) A/\Below w.heap.size w wX):=hidP fun wX hX=>by
      have hb:Below wb.heap.size wb wc:=HKB.out HD9.out
      have c:=HD9.out
      refine ⟨⟨(touch_cel hX c.lt (by omega)).trans c.c0,(touch_cel hX c.lt (by omega)).trans c.c1,(touch_cel hX c.lt (by omega)).trans c.c2,(touch_cel hX c.lt (by omega)).trans c.c3,(touch_cel hX LO (by omega)).trans HOP.out.1,(touch_cel hX LO (by omega)).trans HOP.out.2.1,(touch_cel hX LO (by omega)).trans HOP.out.2.2.1,(touch_cel hX LO (by omega)).trans HOP.out.2.2.2⟩,?_,?_⟩
      ·exact (c.row.touch hX (fun k hk=>by have:=(c.row.own k hk).1; omega)).rebase (base:=w1.heap.size) (by omega)
      ·exact Touch.below (HBB.out.trans (hb.mono (by omega))) hX (by have:=hb.size; omega) (fun k hk=>by omega)
     obtain ⟨⟨r0,r1,r2,r3⟩,⟨q0,q1,q2,q3⟩,f0,f1,f2,f3,f4,f5,f6,f7⟩:=HQ.out wc (HKB.out HD9.out)
     have HR0:Hid (C4 wc w.heap.size _ _ _ _):=hidP ⟨r0,r1,r2,r3⟩
     have HR1:Hid (C4 wc (w.heap.size+1) _ _ _ _):=hidP ⟨q0,q1,q2,q3⟩
     have LE:w.heap.size+1 < wc.heap.size:=by have:=(HKB.out HD9.out).size; omega
     go_wp2_with fail
     refine wp_region_held_drew (S:=fun wX=>wX.cell? ⟨w2.heap.size,0,none⟩=some (.slice s.a1 A.mem.length s.c1)/\wX.cell? ⟨w2.heap.size,1,none⟩=some (.slice s.a2 A.pend.length s.c2)/\wX.cell? ⟨w2.heap.size,2,none⟩=some (.slice s.a3 A.tlb.length s.c3)/\wX.cell? ⟨w2.heap.size,3,none⟩=some (.slice s.a4 A.wc.length s.c4)/\wX.cell? ⟨w8.heap.size,0,none⟩=some (.int .i64 o.kind)/\wX.cell? ⟨w8.heap.size,1,none⟩=some (.int .i64 o.a)/\wX.cell? ⟨w8.heap.size,2,none⟩=some (.int .i64 o.b)/\wX.cell? ⟨w8.heap.size,3,none⟩=some (.int .u64 o.word)) (by kernel_rfl) (HT.out _ (Touch.of_below (Below.refl _ _).drew)).1 (fun hHeld=>?_)
     refine tk 0 ?_
     refine tk 1 ?_
     refine wpAnyH_ready (rs:=[2]) (by kernel_rfl) (by simp) ?_
     refine AllReadyH.cons rfl (fun K hK=>?_) AllReadyH.nil
     obtain ⟨tA,tF,cA,cB,_⟩:=two_put (v0:=.slice s.a1 A.mem.length s.c1) (v1:=.slice s.a2 A.pend.length s.c2) (v2:=.slice s.a3 A.tlb.length s.c3) (v3:=.slice s.a4 A.wc.length s.c4) (u0:=.int .i64 o.kind) (u1:=.int .i64 o.a) (u2:=.int .i64 o.b) (u3:=.int .u64 o.word) HR0.out HR1.out LE
     have HTA:Hid (Touch _ _ _):=tA
     have HTF:Hid (Touch _ _ _):=tF
     have HCA:Hid (C4 _ _ _ _ _ _):=cA
     have HCC:Hid (C4 _ _ _ _ _ _):=cB
     clear tA tF cA cB
     go_simp
     refine hK.out _ _ (HT.out _ HTA.out).1 (fun hHeld2=>?_)
     clear hK K
     refine wpAnyH_ready (rs:=[3]) (by kernel_rfl) (by simp) ?_
     refine AllReadyH.cons rfl (fun K hK=>?_) AllReadyH.nil
     go_simp
     refine hK.out _ _ (HT.out _ HTF.out).1 (fun hHeld3=>?_)
     clear hK K
     refine wpAnyH_done (by kernel_rfl) ?_ _
     clear hHeld hHeld2 hHeld3
     obtain ⟨wF,hwF⟩:∃ wF,wF=((((((((wc.setCell ⟨w.heap.size,0,none⟩ (.slice s.a1 A.mem.length s.c1)).setCell ⟨w.heap.size,1,none⟩ (.slice s.a2 A.pend.length s.c2)).setCell ⟨w.heap.size,2,none⟩ (.slice s.a3 A.tlb.length s.c3)).setCell ⟨w.heap.size,3,none⟩ (.slice s.a4 A.wc.length s.c4)).setCell ⟨w.heap.size+1,0,none⟩ (.int .i64 o.kind)).setCell ⟨w.heap.size+1,1,none⟩ (.int .i64 o.a)).setCell ⟨w.heap.size+1,2,none⟩ (.int .i64 o.b)).setCell ⟨w.heap.size+1,3,none⟩ (.int .u64 o.word)).drew:=⟨_,rfl⟩
     have tF:=HTF.out
     have cA:=HCA.out
     have cB:=HCC.out
     rw [<- hwF] at tF cA cB ⊢
     obtain ⟨_,hm,hb⟩:=HT.out wF tF
     obtain ⟨a0,a1,a2,a3⟩:=cA
     obtain ⟨b0,b1,b2,b3⟩:=cB
     clear hwF tF HTA HTF HCA HCC
     go_wp2_with fail
     rw [HRR.out]
     exact bodyPost_ret (v:=.tuple #[.agg #[.slice s.a1 A.mem.length s.c1,.slice s.a2 A.pend.length s.c2,.slice s.a3 A.tlb.length s.c3,.slice s.a4 A.wc.length s.c4],.agg #[.int .i64 o.kind,.int .i64 o.a,.int .i64 o.b,.int .u64 o.word]]) (by simp [results,Try.results28,go_sem,a0,a1,a2,a3,b0,b1,b2,b3]) rfl ⟨s,o,HOO.out,rfl,hm,hb⟩
    ·have hcond:=of_decide_eq_true HCB.out
     have hvm:=HVM2.out (by omega)
     obtain ⟨V,tZ⟩:=HTZ.out wc (HKB.out HD9.out)
     obtain ⟨hpb,ad0,ad1,ad2⟩:=stAd_bd hvm (q+5) hcond.2.2
     have HRB:Hid (R=stB H (stAd (q+5) A) A):=hidP (by rw [HDS2.out,if_pos hcond])
     obtain ⟨IX,hIX⟩:∃ IX,(q+5) % A.tlb.length=IX:=⟨_,rfl⟩
     have hIl:IX < A.tlb.length:=by rw [<- hIX]; exact Nat.mod_lt _ hcond.2.2
     have eI:((q:Int)+1+1+1+1+1).tmod (A.tlb.length:Int)=(IX:Int):=by
      rw [Int.tmod_eq_emod_of_nonneg (by omega),<- hIX,show ((q:Int)+1+1+1+1+1)=((q+5:Nat):Int) by omega]
      rfl
     obtain ⟨E0,hE⟩:∃ E0,eAt eTlb A.tlb IX=E0:=⟨_,rfl⟩
     obtain ⟨P,S,O,Rr,D⟩:=E0
     rw [hIX,hE] at hpb
     dsimp only at hpb
     have HADE:Hid (stAd (q+5) A=addrD A.mem P):=hidP (by unfold stAd; rw [hIX,hE])
     generalize stAd (q+5) A=AD at *
     have hae:=HADE.out
     have hml:0 < A.mem.length:=by have:=nfr_mul _ hvm.n0; omega
     have hnil:A.tlb ≠ []:=by intro h0; rw [h0] at hIl; exact absurd hIl (by simp)
     have hl0:((A.tlb.length:Int) == 0)=false:=beq_eq_false_iff_ne.2 (by omega)
     have HV:Hid (VM A):=hvm
     have hI0:(0:Int)<=(IX:Int):=by omega
     have hI1:(IX:Int) < (A.tlb.length:Int):=by omega
     have HH:Hid (7<=H/\H<=10):=hidP ⟨hcond.1,hcond.2.1⟩
     have HEX:Hid (eAt eTlb A.tlb IX=_):=hE
     have HEN:Hid (∀ wX,Calls Try.prog 34 #[.int .i64 3,.agg #[.int .i64 3,.int .i64 ((q:Int)+1+1+1+1+1),.int .i64 3]] wX fun e w'=>e=.returned (.int .u64 (encI 3 3 ((q:Int)+1+1+1+1+1) 3))/\Below wX.heap.size wX w'):=hidP fun wX=>specEncode_any _ _ _ _ wX
     obtain ⟨bE0,bE1⟩:=encI_bd 3 3 ((q:Int)+1+1+1+1+1) 3
     generalize encI 3 3 ((q:Int)+1+1+1+1+1) 3=EV at *
     have hq:q<=501:=d6
     clear hvm hcond hIX hE hae HDS2 HVM2
     go_wp2_with fail
     refine tZ.mono ?_
     rintro e w10 ⟨rfl,hb10⟩
     have HD10:Hid (DMS _ w10 _ _ _ _ _ _):=hidP (HD9.out.below hb10)
     have HOP1:Hid (w10.cell? ⟨w8.heap.size,0,none⟩=some (.int .i64 o.kind)/\w10.cell? ⟨w8.heap.size,1,none⟩=some (.int .i64 o.a)/\w10.cell? ⟨w8.heap.size,2,none⟩=some (.int .i64 o.b)/\w10.cell? ⟨w8.heap.size,3,none⟩=some (.int .u64 o.word)):=hidP ⟨(hb10.cell (p:=⟨w8.heap.size,0,none⟩) LO).trans HOP.out.1,(hb10.cell (p:=⟨w8.heap.size,1,none⟩) LO).trans HOP.out.2.1,(hb10.cell (p:=⟨w8.heap.size,2,none⟩) LO).trans HOP.out.2.2.1,(hb10.cell (p:=⟨w8.heap.size,3,none⟩) LO).trans HOP.out.2.2.2⟩
     have L10:=hb10.size
     clear tZ hb10 k0 k1 k2 k3 o0 o1 o2 o3
     have hrow:ERow eTlb w10 w1.heap.size (.slice s.a3 A.tlb.length s.c3) A.tlb:=HD10.out.row.t
     obtain ⟨g,hg1,hg2⟩:=tlbS_cells hrow
     obtain ⟨hae,hgl⟩:=hg1 (by omega)
     have hrw:=hg2 IX P S O Rr D hIl HEX.out
     obtain ⟨gm,eg,hcm⟩:=MRow.memc HD10.out.row hml
     have HSA:Hid (∀ wX,Below w10.heap.size w10 wX->wX.cell? ⟨w2.heap.size,0,none⟩=some (.slice (some ⟨gm,0,none⟩) A.mem.length s.c1)/\wX.cell? ⟨w2.heap.size,2,none⟩=some (.slice (some ⟨g,0,none⟩) A.tlb.length s.c3)/\wX.cell? ⟨g,IX * 5,none⟩=some (.int .i64 P)):=hidP fun wX hX=>by
      have c:=HD10.out.below hX
      refine ⟨?_,?_,(hrw wX (hX.block g hgl)).1⟩
      ·rw [c.c0,eg]
      ·rw [c.c2,hae]
     have HTA:Hid (∀ wX,Below w10.heap.size w10 wX->Calls Try.prog 79 #[.agg #[.slice (some ⟨gm,0,none⟩) A.mem.length s.c1],.int .i64 P] wX fun e w'=>e=.returned (.int .i64 AD)/\Below wX.heap.size wX w'):=hidP fun wX hX=>by
      rw [HADE.out]
      exact addrS_any gm s.c1 A.mem P wX hpb.1 hpb.2 HV.out.wok.okMem (hcm.below hX hcm.lt)
     have tA:=HTA.out w10.drew (Below.refl _ _).drew
     clear hrow hg1 hg2 hae hrw eg hcm
     go_wp2_with fail
     refine wp_region_held_drew (S:=fun wX=>wX.cell? ⟨w2.heap.size,0,none⟩=some (.slice (some ⟨gm,0,none⟩) A.mem.length s.c1)/\wX.cell? ⟨w2.heap.size,2,none⟩=some (.slice (some ⟨g,0,none⟩) A.tlb.length s.c3)/\wX.cell? ⟨g,IX * 5,none⟩=some (.int .i64 P)) (by kernel_rfl) (HSA.out _ (Below.refl _ _).drew) (fun hHeld=>?_)
     refine tk 0 ?_
     refine tk 1 ?_
     refine tk 2 ?_
     refine tk 3 ?_
     refine tk 4 ?_
     refine tk 5 ?_
     refine tk 6 ?_
     refine tk 7 ?_
     refine tk 8 ?_
     refine tk 9 ?_
     refine tk 10 ?_
     refine tk 11 ?_
     refine wpAnyH_ready (rs:=[12]) (by kernel_rfl) (by simp) ?_
     refine AllReadyH.cons rfl (fun K hK=>?_) AllReadyH.nil
     go_simp
     refine tA.mono ?_
     rintro e w11 ⟨rfl,hb11'⟩
     have hb11:Below w10.heap.size w10 w11:=(Below.refl _ _).drew.trans hb11'
     have HS11:Hid (w11.cell? ⟨w2.heap.size,0,none⟩=_/\w11.cell? ⟨w2.heap.size,2,none⟩=_/\w11.cell? ⟨g,IX * 5,none⟩=_):=hidP (HSA.out w11 hb11)
     have HD11:Hid (DMS _ w11 _ _ _ _ _ _):=hidP (HD10.out.below hb11)
     have HOP2:Hid (w11.cell? ⟨w8.heap.size,0,none⟩=some (.int .i64 o.kind)/\w11.cell? ⟨w8.heap.size,1,none⟩=some (.int .i64 o.a)/\w11.cell? ⟨w8.heap.size,2,none⟩=some (.int .i64 o.b)/\w11.cell? ⟨w8.heap.size,3,none⟩=some (.int .u64 o.word)):=hidP (by
      have LL:w8.heap.size < w10.heap.size:=by omega
      exact ⟨(hb11.cell (p:=⟨w8.heap.size,0,none⟩) LL).trans HOP1.out.1,(hb11.cell (p:=⟨w8.heap.size,1,none⟩) LL).trans HOP1.out.2.1,(hb11.cell (p:=⟨w8.heap.size,2,none⟩) LL).trans HOP1.out.2.2.1,(hb11.cell (p:=⟨w8.heap.size,3,none⟩) LL).trans HOP1.out.2.2.2⟩)
     have L11:=hb11.size
     clear tA hb11' hb11
     go_wp2_with fail
     refine hK.out _ _ HS11.out (fun hHeld2=>?_)
     clear hK K
     refine tk 13 ?_
     refine wpAnyH_done (by kernel_rfl) ?_ _
     clear hHeld hHeld2 HS11 HSA
     obtain ⟨B1,C1,eB1⟩:∃ N c,stepR A ⟨1,AD,0,0⟩=(N,c):=⟨_,_,rfl⟩
     have tB:=specStep_any s A w1.heap.size ⟨1,AD,0,0⟩ w11 HV.out.mok HV.out.small (opok0 _ _ _ (by omega) (by omega) (by omega)) HD11.out.row
     have HVB:Hid (VM B1):=hidP (by have h:=stepR_vm HV.out ⟨1,AD,0,0⟩ (opok0 _ _ _ (by omega) (by omega) (by omega)); rw [eB1] at h; exact h)
     have HEB:Hid (stepR A ⟨1,AD,0,0⟩=(B1,C1)):=eB1
     rw [eB1] at tB
     dsimp only at tB
     clear eB1
     have k0:=HD11.out.c0
     have k1:=HD11.out.c1
     have k2:=HD11.out.c2
     have k3:=HD11.out.c3
     go_wp2_with fail
     refine tB.mono ?_
     rintro e w12 ⟨s2,rfl,hr12',hb12'⟩
     have HR12:Hid (MRow w12 w11.heap.size (s2.mv B1) B1):=hr12'
     have HB12:Hid (Below w11.heap.size w11 w12):=hb12'
     clear tB hr12' hb12' k0 k1 k2 k3
     go_upto_region 12 with fail
     obtain ⟨w13,hw13⟩:∃ w13,w13=w12.alloc (.cells #[.slice s2.a1 B1.mem.length s2.c1,.slice s2.a2 B1.pend.length s2.c2,.slice s2.a3 B1.tlb.length s2.c3,.slice s2.a4 B1.wc.length s2.c4] 38):=⟨_,rfl⟩
     have hb13:Below w12.heap.size w12 w13:=by rw [hw13]; exact bal
     have hB13:Below w11.heap.size w11 w13:=HB12.out.trans (hb13.mono HB12.out.size)
     have HD13:Hid (DMS _ w13 _ _ _ _ _ _):=hidP (HD11.out.below hB13)
     have HRB13:Hid (MRow w13 w11.heap.size (s2.mv B1) B1):=hidP (HR12.out.below hb13)
     have m0:w13.cell? ⟨w12.heap.size,0,none⟩=some (.slice s2.a1 B1.mem.length s2.c1):=by rw [hw13]; simp [go_sem]
     have m1:w13.cell? ⟨w12.heap.size,1,none⟩=some (.slice s2.a2 B1.pend.length s2.c2):=by rw [hw13]; simp [go_sem]
     have m2:w13.cell? ⟨w12.heap.size,2,none⟩=some (.slice s2.a3 B1.tlb.length s2.c3):=by rw [hw13]; simp [go_sem]
     have m3:w13.cell? ⟨w12.heap.size,3,none⟩=some (.slice s2.a4 B1.wc.length s2.c4):=by rw [hw13]; simp [go_sem]
     have L13:w12.heap.size < w13.heap.size:=by rw [hw13]; simp
     have HOP3:Hid (w13.cell? ⟨w8.heap.size,0,none⟩=some (.int .i64 o.kind)/\w13.cell? ⟨w8.heap.size,1,none⟩=some (.int .i64 o.a)/\w13.cell? ⟨w8.heap.size,2,none⟩=some (.int .i64 o.b)/\w13.cell? ⟨w8.heap.size,3,none⟩=some (.int .u64 o.word)):=hidP (by
      have LL:w8.heap.size < w11.heap.size:=by omega
      exact ⟨(hB13.cell (p:=⟨w8.heap.size,0,none⟩) LL).trans HOP2.out.1,(hB13.cell (p:=⟨w8.heap.size,1,none⟩) LL).trans HOP2.out.2.1,(hB13.cell (p:=⟨w8.heap.size,2,none⟩) LL).trans HOP2.out.2.2.1,(hB13.cell (p:=⟨w8.heap.size,3,none⟩) LL).trans HOP2.out.2.2.2⟩)
     have LB:=hB13.size
     rw [<- hw13]
     clear hw13 hb13 hB13 HD9 HD10 HD11 HOP HOP1 HOP2 HR12 HB12
     by_cases hC:C1=0
     ·have hCb:(C1 == 0)=true:=by simpa using hC
      have HRB2:Hid (R=if H=10 then (stepR (stepR (stepR B1 ⟨2,0,0,0⟩).1 ⟨3,0,4096,0⟩).1 ⟨2,0,0,0⟩).1 else (stepR B1 ⟨2,0,0,0⟩).1):=hidP (by rw [HRB.out]; unfold stB; rw [HEB.out]; dsimp only; rw [if_pos hC])
      clear hC
      obtain ⟨M2,cM2,eM2⟩:∃ N c,stepR B1 ⟨2,0,0,0⟩=(N,c):=⟨_,_,rfl⟩
      have tM2:=specStep_any s2 B1 w11.heap.size ⟨2,0,0,0⟩ w13 HVB.out.mok HVB.out.small (opok0 _ _ _ (by omega) (by omega) (by omega)) HRB13.out
      have HVM2:Hid (VM M2):=hidP (by have h:=stepR_vm HVB.out ⟨2,0,0,0⟩ (opok0 _ _ _ (by omega) (by omega) (by omega)); rw [eM2] at h; exact h)
      have HEM2:Hid (stepR B1 ⟨2,0,0,0⟩=(M2,cM2)):=eM2
      rw [eM2] at tM2
      dsimp only at tM2
      clear eM2
      go_wp2_with fail
      refine tM2.mono ?_
      rintro e w14 ⟨s3,rfl,hr,hb⟩
      have hdn:=HD13.out.swap hb (hr.rebase (by have:=HD13.out.bel.size; omega)) (fun k hk=>.inr (hr.own k hk).1)
      have hd:=HD13.out.below hb
      have k0:=hd.c0
      have k1:=hd.c1
      have k2:=hd.c2
      have k3:=hd.c3
      have g0:=hd.fz 0 (by omega)
      have g1:=hd.fz 1 (by omega)
      have g2:=hd.fz 2 (by omega)
      have g3:=hd.fz 3 (by omega)
      obtain ⟨w15,hw15⟩:∃ wS,wS=((((w14.setCell ⟨w2.heap.size,0,none⟩ (.slice s3.a1 M2.mem.length s3.c1)).setCell ⟨w2.heap.size,1,none⟩ (.slice s3.a2 M2.pend.length s3.c2)).setCell ⟨w2.heap.size,2,none⟩ (.slice s3.a3 M2.tlb.length s3.c3)).setCell ⟨w2.heap.size,3,none⟩ (.slice s3.a4 M2.wc.length s3.c4)):=⟨_,rfl⟩
      rw [<- hw15] at hdn
      have HD15:Hid (DMS _ w15 _ _ _ _ _ _):=hdn
      have LS:w2.heap.size < w15.heap.size:=hdn.lt
      have HWS:Hid (w15=_):=hw15
      clear hw15 hdn hd hr hb tM2 m0 m1 m2 m3
      go_upto_region 14 with fail
      rw [<- HWS.out]
      clear k0 k1 k2 k3 g0 g1 g2 g3 HWS
      clear HD13
      by_cases h10:H=10
      ·have h10b:(H == 10)=true:=by simpa using h10
       have HRB3:Hid (R=(stepR (stepR M2 ⟨3,0,4096,0⟩).1 ⟨2,0,0,0⟩).1):=hidP (by rw [HRB2.out,if_pos h10,HEM2.out])
       clear h10
       obtain ⟨M3,cM3,eM3⟩:∃ N c,stepR M2 ⟨3,0,4096,0⟩=(N,c):=⟨_,_,rfl⟩
       have tM3:=specStep_any s3 M2 w1.heap.size ⟨3,0,4096,0⟩ w15 HVM2.out.mok HVM2.out.small (opok0 _ _ _ (by omega) (by omega) (by omega)) HD15.out.row
       have HVM3:Hid (VM M3):=hidP (by have h:=stepR_vm HVM2.out ⟨3,0,4096,0⟩ (opok0 _ _ _ (by omega) (by omega) (by omega)); rw [eM3] at h; exact h)
       have HEM3:Hid (stepR M2 ⟨3,0,4096,0⟩=(M3,cM3)):=eM3
       rw [eM3] at tM3
       dsimp only at tM3
       clear eM3
       have k0:=HD15.out.c0
       have k1:=HD15.out.c1
       have k2:=HD15.out.c2
       have k3:=HD15.out.c3
       go_wp2_with fail
       refine tM3.mono ?_
       rintro e w16 ⟨s4,rfl,hr,hb⟩
       have hdn:=HD15.out.swap hb (hr.rebase (by have:=HD15.out.bel.size; omega)) (fun k hk=>.inr (hr.own k hk).1)
       have hd:=HD15.out.below hb
       clear k0 k1 k2 k3
       have k0:=hd.c0
       have k1:=hd.c1
       have k2:=hd.c2
       have k3:=hd.c3
       have g0:=hd.fz 0 (by omega)
       have g1:=hd.fz 1 (by omega)
       have g2:=hd.fz 2 (by omega)
       have g3:=hd.fz 3 (by omega)
       obtain ⟨w17,hwS⟩:∃ wS,wS=((((w16.setCell ⟨w2.heap.size,0,none⟩ (.slice s4.a1 M3.mem.length s4.c1)).setCell ⟨w2.heap.size,1,none⟩ (.slice s4.a2 M3.pend.length s4.c2)).setCell ⟨w2.heap.size,2,none⟩ (.slice s4.a3 M3.tlb.length s4.c3)).setCell ⟨w2.heap.size,3,none⟩ (.slice s4.a4 M3.wc.length s4.c4)):=⟨_,rfl⟩
       rw [<- hwS] at hdn
       have HD17:Hid (DMS _ w17 _ _ _ _ _ _):=hdn
       have LS:w2.heap.size < w17.heap.size:=hdn.lt
       have HWS:Hid (w17=_):=hwS
       clear hwS hdn hd hr hb tM3
       go_upto_region 16 with fail
       rw [<- HWS.out]
       clear k0 k1 k2 k3 g0 g1 g2 g3 HWS
       obtain ⟨M4,cM4,eM4⟩:∃ N c,stepR M3 ⟨2,0,0,0⟩=(N,c):=⟨_,_,rfl⟩
       have tM4:=specStep_any s4 M3 w1.heap.size ⟨2,0,0,0⟩ w17 HVM3.out.mok HVM3.out.small (opok0 _ _ _ (by omega) (by omega) (by omega)) HD17.out.row
       have HVM4:Hid (VM M4):=hidP (by have h:=stepR_vm HVM3.out ⟨2,0,0,0⟩ (opok0 _ _ _ (by omega) (by omega) (by omega)); rw [eM4] at h; exact h)
       have HEM4:Hid (stepR M3 ⟨2,0,0,0⟩=(M4,cM4)):=eM4
       rw [eM4] at tM4
       dsimp only at tM4
       clear eM4
       have k0:=HD17.out.c0
       have k1:=HD17.out.c1
       have k2:=HD17.out.c2
       have k3:=HD17.out.c3
       go_wp2_with fail
       refine tM4.mono ?_
       rintro e w18 ⟨s5,rfl,hr,hb⟩
       have hdn:=HD17.out.swap hb (hr.rebase (by have:=HD17.out.bel.size; omega)) (fun k hk=>.inr (hr.own k hk).1)
       have hd:=HD17.out.below hb
       clear k0 k1 k2 k3
       have k0:=hd.c0
       have k1:=hd.c1
       have k2:=hd.c2
       have k3:=hd.c3
       have g0:=hd.fz 0 (by omega)
       have g1:=hd.fz 1 (by omega)
       have g2:=hd.fz 2 (by omega)
       have g3:=hd.fz 3 (by omega)
       obtain ⟨w19,hwS⟩:∃ wS,wS=((((w18.setCell ⟨w2.heap.size,0,none⟩ (.slice s5.a1 M4.mem.length s5.c1)).setCell ⟨w2.heap.size,1,none⟩ (.slice s5.a2 M4.pend.length s5.c2)).setCell ⟨w2.heap.size,2,none⟩ (.slice s5.a3 M4.tlb.length s5.c3)).setCell ⟨w2.heap.size,3,none⟩ (.slice s5.a4 M4.wc.length s5.c4)):=⟨_,rfl⟩
       rw [<- hwS] at hdn
       have HD19:Hid (DMS _ w19 _ _ _ _ _ _):=hdn
       have LS:w2.heap.size < w19.heap.size:=hdn.lt
       have HWS:Hid (w19=_):=hwS
       clear hwS hdn hd hr hb tM4
       go_upto_region 17 with fail
       rw [<- HWS.out]
       clear k0 k1 k2 k3 g0 g1 g2 g3 HWS
       have HRB4:Hid (R=M4):=hidP (by rw [HRB3.out,HEM3.out]; dsimp only; rw [HEM4.out])
       have HSB:Hid (∀ wX,Touch (fun k=>k=w.heap.size\/k=w.heap.size+1) w19 wX->wX.cell? ⟨w2.heap.size,0,none⟩=some (.slice s5.a1 M4.mem.length s5.c1)/\wX.cell? ⟨w2.heap.size,1,none⟩=some (.slice s5.a2 M4.pend.length s5.c2)/\wX.cell? ⟨w2.heap.size,2,none⟩=some (.slice s5.a3 M4.tlb.length s5.c3)/\wX.cell? ⟨w2.heap.size,3,none⟩=some (.slice s5.a4 M4.wc.length s5.c4)):=hidP fun wX hX=>by
        have c:=HD19.out
        exact ⟨(touch_cel hX c.lt (by omega)).trans c.c0,(touch_cel hX c.lt (by omega)).trans c.c1,(touch_cel hX c.lt (by omega)).trans c.c2,(touch_cel hX c.lt (by omega)).trans c.c3⟩
       have tE:=HEN.out w19.drew
       go_wp2_with fail
       refine wp_region_held_drew (S:=fun wX=>wX.cell? ⟨w2.heap.size,0,none⟩=some (.slice s5.a1 M4.mem.length s5.c1)/\wX.cell? ⟨w2.heap.size,1,none⟩=some (.slice s5.a2 M4.pend.length s5.c2)/\wX.cell? ⟨w2.heap.size,2,none⟩=some (.slice s5.a3 M4.tlb.length s5.c3)/\wX.cell? ⟨w2.heap.size,3,none⟩=some (.slice s5.a4 M4.wc.length s5.c4)) (by kernel_rfl) (HSB.out _ (Touch.of_below (Below.refl _ _).drew)) (fun hHeld=>?_)
       refine tk 0 ?_
       refine tk 1 ?_
       refine tk 2 ?_
       refine tk 3 ?_
       refine wpAnyH_ready (rs:=[4]) (by kernel_rfl) (by simp) ?_
       refine AllReadyH.cons rfl (fun K hK=>?_) AllReadyH.nil
       go_simp
       refine tE.mono ?_
       rintro e wN ⟨rfl,hbN'⟩
       have hbN:Below w19.heap.size w19 wN:=(Below.refl _ _).drew.trans hbN'
       have HDN:Hid (DMS _ wN _ _ _ _ _ _):=hidP (HD19.out.below hbN)
       have HSN:Hid (wN.cell? ⟨w2.heap.size,0,none⟩=some (.slice s5.a1 M4.mem.length s5.c1)/\wN.cell? ⟨w2.heap.size,1,none⟩=some (.slice s5.a2 M4.pend.length s5.c2)/\wN.cell? ⟨w2.heap.size,2,none⟩=some (.slice s5.a3 M4.tlb.length s5.c3)/\wN.cell? ⟨w2.heap.size,3,none⟩=some (.slice s5.a4 M4.wc.length s5.c4)):=hidP (HSB.out wN (Touch.of_below hbN))
       have HSP2:Hid (∀ wX,Touch (fun k=>k=w.heap.size\/k=w.heap.size+1) wN wX->wX.cell? ⟨w2.heap.size,0,none⟩=some (.slice s5.a1 M4.mem.length s5.c1)/\wX.cell? ⟨w2.heap.size,1,none⟩=some (.slice s5.a2 M4.pend.length s5.c2)/\wX.cell? ⟨w2.heap.size,2,none⟩=some (.slice s5.a3 M4.tlb.length s5.c3)/\wX.cell? ⟨w2.heap.size,3,none⟩=some (.slice s5.a4 M4.wc.length s5.c4)):=hidP (fun wX hX=>HSB.out wX ((Touch.of_below hbN).trans hX))
       clear tE hbN' hbN
       go_wp2_with fail
       refine hK.out _ _ HSN.out (fun hHeld2=>?_)
       clear hK K
       refine tk 5 ?_
       have HT:Hid (∀ wX,Touch (fun k=>k=w.heap.size\/k=w.heap.size+1) wN wX->MRow wX w.heap.size (s5.mv M4) M4/\Below w.heap.size w wX):=hidP fun wX hX=>by
        have hb:Below wb.heap.size wb wN:=HKB.out HDN.out
        have c:=HDN.out
        refine ⟨(c.row.touch hX (fun k hk=>by have:=(c.row.own k hk).1; omega)).rebase (base:=w1.heap.size) (by omega),?_⟩
        exact Touch.below (HBB.out.trans (hb.mono (by omega))) hX (by have:=hb.size; omega) (fun k hk=>by omega)
       obtain ⟨⟨r0,r1,r2,r3⟩,⟨q0,q1,q2,q3⟩,f0,f1,f2,f3,f4,f5,f6,f7⟩:=HQ.out wN (HKB.out HDN.out)
       have HR0:Hid (C4 wN w.heap.size _ _ _ _):=hidP ⟨r0,r1,r2,r3⟩
       have HR1:Hid (C4 wN (w.heap.size+1) _ _ _ _):=hidP ⟨q0,q1,q2,q3⟩
       have LE:w.heap.size+1 < wN.heap.size:=by have:=(HKB.out HDN.out).size; omega
       obtain ⟨_,_,_,_,tA,tF,cA,cB⟩:=two_put (v0:=.slice s5.a1 M4.mem.length s5.c1) (v1:=.slice s5.a2 M4.pend.length s5.c2) (v2:=.slice s5.a3 M4.tlb.length s5.c3) (v3:=.slice s5.a4 M4.wc.length s5.c4) (u0:=.int .i64 1) (u1:=.int .i64 AD) (u2:=.int .i64 0) (u3:=.int .u64 EV) HR0.out HR1.out LE
       have HTA:Hid (Touch _ _ _):=tA
       have HTF:Hid (Touch _ _ _):=tF
       have HCA:Hid (C4 _ _ _ _ _ _):=cA
       have HCC:Hid (C4 _ _ _ _ _ _):=cB
       clear tA tF cA cB
       refine wpAnyH_ready (rs:=[6]) (by kernel_rfl) (by simp) ?_
       refine AllReadyH.cons rfl (fun K hK=>?_) AllReadyH.nil
       go_simp
       refine hK.out _ _ (HSP2.out _ HTA.out) (fun hHeld3=>?_)
       clear hK K
       refine wpAnyH_ready (rs:=[7]) (by kernel_rfl) (by simp) ?_
       refine AllReadyH.cons rfl (fun K hK=>?_) AllReadyH.nil
       go_simp
       refine hK.out _ _ (HSP2.out _ HTF.out) (fun hHeld4=>?_)
       clear hK K
       refine wpAnyH_done (by kernel_rfl) ?_ _
       clear hHeld hHeld2 hHeld3 hHeld4
       obtain ⟨wF,hwF⟩:∃ wF,wF=((((((((wN.setCell ⟨w.heap.size,0,none⟩ (.slice s5.a1 M4.mem.length s5.c1)).setCell ⟨w.heap.size,1,none⟩ (.slice s5.a2 M4.pend.length s5.c2)).setCell ⟨w.heap.size,2,none⟩ (.slice s5.a3 M4.tlb.length s5.c3)).setCell ⟨w.heap.size,3,none⟩ (.slice s5.a4 M4.wc.length s5.c4)).setCell ⟨w.heap.size+1,0,none⟩ (.int .i64 1)).setCell ⟨w.heap.size+1,1,none⟩ (.int .i64 AD)).setCell ⟨w.heap.size+1,2,none⟩ (.int .i64 0)).setCell ⟨w.heap.size+1,3,none⟩ (.int .u64 EV)):=⟨_,rfl⟩
       have tF:=HTF.out
       have cA:=HCA.out
       have cB:=HCC.out
       rw [<- hwF] at tF cA cB ⊢
       obtain ⟨hm,hb⟩:=HT.out wF tF
       obtain ⟨a0,a1,a2,a3⟩:=cA
       obtain ⟨b0,b1,b2,b3⟩:=cB
       clear hwF tF HTA HTF HCA HCC
       try go_wp2_with fail
       rw [HRB4.out]
       exact bodyPost_ret (v:=.tuple #[.agg #[.slice s5.a1 M4.mem.length s5.c1,.slice s5.a2 M4.pend.length s5.c2,.slice s5.a3 M4.tlb.length s5.c3,.slice s5.a4 M4.wc.length s5.c4],.agg #[.int .i64 (⟨1,AD,0,EV⟩:OpE).kind,.int .i64 (⟨1,AD,0,EV⟩:OpE).a,.int .i64 (⟨1,AD,0,EV⟩:OpE).b,.int .u64 (⟨1,AD,0,EV⟩:OpE).word]]) (by simp [results,Try.results28,go_sem,a0,a1,a2,a3,b0,b1,b2,b3]) rfl ⟨s5,⟨1,AD,0,EV⟩,⟨by dsimp only; omega,by dsimp only; omega,by dsimp only; omega,by dsimp only; omega⟩,rfl,hm,hb⟩
      ·have h10b:(H == 10)=false:=by simpa using h10
       have HRB3:Hid (R=M2):=hidP (by rw [HRB2.out,if_neg h10,HEM2.out])
       clear h10
       have HSB:Hid (∀ wX,Touch (fun k=>k=w.heap.size\/k=w.heap.size+1) w15 wX->wX.cell? ⟨w2.heap.size,0,none⟩=some (.slice s3.a1 M2.mem.length s3.c1)/\wX.cell? ⟨w2.heap.size,1,none⟩=some (.slice s3.a2 M2.pend.length s3.c2)/\wX.cell? ⟨w2.heap.size,2,none⟩=some (.slice s3.a3 M2.tlb.length s3.c3)/\wX.cell? ⟨w2.heap.size,3,none⟩=some (.slice s3.a4 M2.wc.length s3.c4)):=hidP fun wX hX=>by
        have c:=HD15.out
        exact ⟨(touch_cel hX c.lt (by omega)).trans c.c0,(touch_cel hX c.lt (by omega)).trans c.c1,(touch_cel hX c.lt (by omega)).trans c.c2,(touch_cel hX c.lt (by omega)).trans c.c3⟩
       have tE:=HEN.out w15.drew
       go_wp2_with fail
       refine wp_region_held_drew (S:=fun wX=>wX.cell? ⟨w2.heap.size,0,none⟩=some (.slice s3.a1 M2.mem.length s3.c1)/\wX.cell? ⟨w2.heap.size,1,none⟩=some (.slice s3.a2 M2.pend.length s3.c2)/\wX.cell? ⟨w2.heap.size,2,none⟩=some (.slice s3.a3 M2.tlb.length s3.c3)/\wX.cell? ⟨w2.heap.size,3,none⟩=some (.slice s3.a4 M2.wc.length s3.c4)) (by kernel_rfl) (HSB.out _ (Touch.of_below (Below.refl _ _).drew)) (fun hHeld=>?_)
       refine tk 0 ?_
       refine tk 1 ?_
       refine tk 2 ?_
       refine tk 3 ?_
       refine wpAnyH_ready (rs:=[4]) (by kernel_rfl) (by simp) ?_
       refine AllReadyH.cons rfl (fun K hK=>?_) AllReadyH.nil
       go_simp
       refine tE.mono ?_
       rintro e wN ⟨rfl,hbN'⟩
       have hbN:Below w15.heap.size w15 wN:=(Below.refl _ _).drew.trans hbN'
       have HDN:Hid (DMS _ wN _ _ _ _ _ _):=hidP (HD15.out.below hbN)
       have HSN:Hid (wN.cell? ⟨w2.heap.size,0,none⟩=some (.slice s3.a1 M2.mem.length s3.c1)/\wN.cell? ⟨w2.heap.size,1,none⟩=some (.slice s3.a2 M2.pend.length s3.c2)/\wN.cell? ⟨w2.heap.size,2,none⟩=some (.slice s3.a3 M2.tlb.length s3.c3)/\wN.cell? ⟨w2.heap.size,3,none⟩=some (.slice s3.a4 M2.wc.length s3.c4)):=hidP (HSB.out wN (Touch.of_below hbN))
       have HSP2:Hid (∀ wX,Touch (fun k=>k=w.heap.size\/k=w.heap.size+1) wN wX->wX.cell? ⟨w2.heap.size,0,none⟩=some (.slice s3.a1 M2.mem.length s3.c1)/\wX.cell? ⟨w2.heap.size,1,none⟩=some (.slice s3.a2 M2.pend.length s3.c2)/\wX.cell? ⟨w2.heap.size,2,none⟩=some (.slice s3.a3 M2.tlb.length s3.c3)/\wX.cell? ⟨w2.heap.size,3,none⟩=some (.slice s3.a4 M2.wc.length s3.c4)):=hidP (fun wX hX=>HSB.out wX ((Touch.of_below hbN).trans hX))
       clear tE hbN' hbN
       go_wp2_with fail
       refine hK.out _ _ HSN.out (fun hHeld2=>?_)
       clear hK K
       refine tk 5 ?_
       have HT:Hid (∀ wX,Touch (fun k=>k=w.heap.size\/k=w.heap.size+1) wN wX->MRow wX w.heap.size (s3.mv M2) M2/\Below w.heap.size w wX):=hidP fun wX hX=>by
        have hb:Below wb.heap.size wb wN:=HKB.out HDN.out
        have c:=HDN.out
        refine ⟨(c.row.touch hX (fun k hk=>by have:=(c.row.own k hk).1; omega)).rebase (base:=w1.heap.size) (by omega),?_⟩
        exact Touch.below (HBB.out.trans (hb.mono (by omega))) hX (by have:=hb.size; omega) (fun k hk=>by omega)
       obtain ⟨⟨r0,r1,r2,r3⟩,⟨q0,q1,q2,q3⟩,f0,f1,f2,f3,f4,f5,f6,f7⟩:=HQ.out wN (HKB.out HDN.out)
       have HR0:Hid (C4 wN w.heap.size _ _ _ _):=hidP ⟨r0,r1,r2,r3⟩
       have HR1:Hid (C4 wN (w.heap.size+1) _ _ _ _):=hidP ⟨q0,q1,q2,q3⟩
       have LE:w.heap.size+1 < wN.heap.size:=by have:=(HKB.out HDN.out).size; omega
       obtain ⟨_,_,_,_,tA,tF,cA,cB⟩:=two_put (v0:=.slice s3.a1 M2.mem.length s3.c1) (v1:=.slice s3.a2 M2.pend.length s3.c2) (v2:=.slice s3.a3 M2.tlb.length s3.c3) (v3:=.slice s3.a4 M2.wc.length s3.c4) (u0:=.int .i64 1) (u1:=.int .i64 AD) (u2:=.int .i64 0) (u3:=.int .u64 EV) HR0.out HR1.out LE
       have HTA:Hid (Touch _ _ _):=tA
       have HTF:Hid (Touch _ _ _):=tF
       have HCA:Hid (C4 _ _ _ _ _ _):=cA
       have HCC:Hid (C4 _ _ _ _ _ _):=cB
       clear tA tF cA cB
       refine wpAnyH_ready (rs:=[6]) (by kernel_rfl) (by simp) ?_
       refine AllReadyH.cons rfl (fun K hK=>?_) AllReadyH.nil
       go_simp
       refine hK.out _ _ (HSP2.out _ HTA.out) (fun hHeld3=>?_)
       clear hK K
       refine wpAnyH_ready (rs:=[7]) (by kernel_rfl) (by simp) ?_
       refine AllReadyH.cons rfl (fun K hK=>?_) AllReadyH.nil
       go_simp
       refine hK.out _ _ (HSP2.out _ HTF.out) (fun hHeld4=>?_)
       clear hK K
       refine wpAnyH_done (by kernel_rfl) ?_ _
       clear hHeld hHeld2 hHeld3 hHeld4
       obtain ⟨wF,hwF⟩:∃ wF,wF=((((((((wN.setCell ⟨w.heap.size,0,none⟩ (.slice s3.a1 M2.mem.length s3.c1)).setCell ⟨w.heap.size,1,none⟩ (.slice s3.a2 M2.pend.length s3.c2)).setCell ⟨w.heap.size,2,none⟩ (.slice s3.a3 M2.tlb.length s3.c3)).setCell ⟨w.heap.size,3,none⟩ (.slice s3.a4 M2.wc.length s3.c4)).setCell ⟨w.heap.size+1,0,none⟩ (.int .i64 1)).setCell ⟨w.heap.size+1,1,none⟩ (.int .i64 AD)).setCell ⟨w.heap.size+1,2,none⟩ (.int .i64 0)).setCell ⟨w.heap.size+1,3,none⟩ (.int .u64 EV)):=⟨_,rfl⟩
       have tF:=HTF.out
       have cA:=HCA.out
       have cB:=HCC.out
       rw [<- hwF] at tF cA cB ⊢
       obtain ⟨hm,hb⟩:=HT.out wF tF
       obtain ⟨a0,a1,a2,a3⟩:=cA
       obtain ⟨b0,b1,b2,b3⟩:=cB
       clear hwF tF HTA HTF HCA HCC
       try go_wp2_with fail
       rw [HRB3.out]
       exact bodyPost_ret (v:=.tuple #[.agg #[.slice s3.a1 M2.mem.length s3.c1,.slice s3.a2 M2.pend.length s3.c2,.slice s3.a3 M2.tlb.length s3.c3,.slice s3.a4 M2.wc.length s3.c4],.agg #[.int .i64 (⟨1,AD,0,EV⟩:OpE).kind,.int .i64 (⟨1,AD,0,EV⟩:OpE).a,.int .i64 (⟨1,AD,0,EV⟩:OpE).b,.int .u64 (⟨1,AD,0,EV⟩:OpE).word]]) (by simp [results,Try.results28,go_sem,a0,a1,a2,a3,b0,b1,b2,b3]) rfl ⟨s3,⟨1,AD,0,EV⟩,⟨by dsimp only; omega,by dsimp only; omega,by dsimp only; omega,by dsimp only; omega⟩,rfl,hm,hb⟩
     ·have hCb:(C1 == 0)=false:=by simpa using hC
      have HRR:Hid (R=A):=hidP (by rw [HRB.out]; unfold stB; rw [HEB.out]; dsimp only; rw [if_neg hC])
      clear hC m0 m1 m2 m3
      have HOP:=HOP3
      have LO:w8.heap.size < w13.heap.size:=by omega
      have HT:Hid (∀ wX,Touch (fun k=>k=w.heap.size\/k=w.heap.size+1) w13 wX->(wX.cell? ⟨w2.heap.size,0,none⟩=some (.slice s.a1 A.mem.length s.c1)/\wX.cell? ⟨w2.heap.size,1,none⟩=some (.slice s.a2 A.pend.length s.c2)/\wX.cell? ⟨w2.heap.size,2,none⟩=some (.slice s.a3 A.tlb.length s.c3)/\wX.cell? ⟨w2.heap.size,3,none⟩=some (.slice s.a4 A.wc.length s.c4)/\wX.cell? ⟨w8.heap.size,0,none⟩=some (.int .i64 o.kind)/\wX.cell? ⟨w8.heap.size,1,none⟩=some (.int .i64 o.a)/\wX.cell? ⟨w8.heap.size,2,none⟩=some (.int .i64 o.b)/\wX.cell? ⟨w8.heap.size,3,none⟩=some (.int .u64 o.word))/\MRow wX w.heap.size (s.mv A) A/\Below w.heap.size w wX):=hidP fun wX hX=>by
       have hb:Below wb.heap.size wb w13:=HKB.out HD13.out
       have c:=HD13.out
       refine ⟨⟨(touch_cel hX c.lt (by omega)).trans c.c0,(touch_cel hX c.lt (by omega)).trans c.c1,(touch_cel hX c.lt (by omega)).trans c.c2,(touch_cel hX c.lt (by omega)).trans c.c3,(touch_cel hX LO (by omega)).trans HOP.out.1,(touch_cel hX LO (by omega)).trans HOP.out.2.1,(touch_cel hX LO (by omega)).trans HOP.out.2.2.1,(touch_cel hX LO (by omega)).trans HOP.out.2.2.2⟩,?_,?_⟩
       ·exact (c.row.touch hX (fun k hk=>by have:=(c.row.own k hk).1; omega)).rebase (base:=w1.heap.size) (by omega)
       ·exact Touch.below (HBB.out.trans (hb.mono (by omega))) hX (by have:=hb.size; omega) (fun k hk=>by omega)
      obtain ⟨⟨r0,r1,r2,r3⟩,⟨q0,q1,q2,q3⟩,f0,f1,f2,f3,f4,f5,f6,f7⟩:=HQ.out w13 (HKB.out HD13.out)
      have HR0:Hid (C4 w13 w.heap.size _ _ _ _):=hidP ⟨r0,r1,r2,r3⟩
      have HR1:Hid (C4 w13 (w.heap.size+1) _ _ _ _):=hidP ⟨q0,q1,q2,q3⟩
      have LE:w.heap.size+1 < w13.heap.size:=by have:=(HKB.out HD13.out).size; omega
      go_wp2_with fail
      refine wp_region_held_drew (S:=fun wX=>wX.cell? ⟨w2.heap.size,0,none⟩=some (.slice s.a1 A.mem.length s.c1)/\wX.cell? ⟨w2.heap.size,1,none⟩=some (.slice s.a2 A.pend.length s.c2)/\wX.cell? ⟨w2.heap.size,2,none⟩=some (.slice s.a3 A.tlb.length s.c3)/\wX.cell? ⟨w2.heap.size,3,none⟩=some (.slice s.a4 A.wc.length s.c4)/\wX.cell? ⟨w8.heap.size,0,none⟩=some (.int .i64 o.kind)/\wX.cell? ⟨w8.heap.size,1,none⟩=some (.int .i64 o.a)/\wX.cell? ⟨w8.heap.size,2,none⟩=some (.int .i64 o.b)/\wX.cell? ⟨w8.heap.size,3,none⟩=some (.int .u64 o.word)) (by kernel_rfl) (HT.out _ (Touch.of_below (Below.refl _ _).drew)).1 (fun hHeld=>?_)
      refine tk 0 ?_
      refine tk 1 ?_
      refine wpAnyH_ready (rs:=[2]) (by kernel_rfl) (by simp) ?_
      refine AllReadyH.cons rfl (fun K hK=>?_) AllReadyH.nil
      obtain ⟨tA,tF,cA,cB,_⟩:=two_put (v0:=.slice s.a1 A.mem.length s.c1) (v1:=.slice s.a2 A.pend.length s.c2) (v2:=.slice s.a3 A.tlb.length s.c3) (v3:=.slice s.a4 A.wc.length s.c4) (u0:=.int .i64 o.kind) (u1:=.int .i64 o.a) (u2:=.int .i64 o.b) (u3:=.int .u64 o.word) HR0.out HR1.out LE
      have HTA:Hid (Touch _ _ _):=tA
      have HTF:Hid (Touch _ _ _):=tF
      have HCA:Hid (C4 _ _ _ _ _ _):=cA
      have HCC:Hid (C4 _ _ _ _ _ _):=cB
      clear tA tF cA cB
      go_simp
      refine hK.out _ _ (HT.out _ HTA.out).1 (fun hHeld2=>?_)
      clear hK K
      refine wpAnyH_ready (rs:=[3]) (by kernel_rfl) (by simp) ?_
      refine AllReadyH.cons rfl (fun K hK=>?_) AllReadyH.nil
      go_simp
      refine hK.out _ _ (HT.out _ HTF.out).1 (fun hHeld3=>?_)
      clear hK K
      refine wpAnyH_done (by kernel_rfl) ?_ _
      clear hHeld hHeld2 hHeld3
      obtain ⟨wF,hwF⟩:∃ wF,wF=((((((((w13.setCell ⟨w.heap.size,0,none⟩ (.slice s.a1 A.mem.length s.c1)).setCell ⟨w.heap.size,1,none⟩ (.slice s.a2 A.pend.length s.c2)).setCell ⟨w.heap.size,2,none⟩ (.slice s.a3 A.tlb.length s.c3)).setCell ⟨w.heap.size,3,none⟩ (.slice s.a4 A.wc.length s.c4)).setCell ⟨w.heap.size+1,0,none⟩ (.int .i64 o.kind)).setCell ⟨w.heap.size+1,1,none⟩ (.int .i64 o.a)).setCell ⟨w.heap.size+1,2,none⟩ (.int .i64 o.b)).setCell ⟨w.heap.size+1,3,none⟩ (.int .u64 o.word)).drew:=⟨_,rfl⟩
      have tF:=HTF.out
      have cA:=HCA.out
      have cB:=HCC.out
      rw [<- hwF] at tF cA cB ⊢
      obtain ⟨_,hm,hb⟩:=HT.out wF tF
      obtain ⟨a0,a1,a2,a3⟩:=cA
      obtain ⟨b0,b1,b2,b3⟩:=cB
      clear hwF tF HTA HTF HCA HCC
      go_wp2_with fail
      rw [HRR.out]
      exact bodyPost_ret (v:=.tuple #[.agg #[.slice s.a1 A.mem.length s.c1,.slice s.a2 A.pend.length s.c2,.slice s.a3 A.tlb.length s.c3,.slice s.a4 A.wc.length s.c4],.agg #[.int .i64 o.kind,.int .i64 o.a,.int .i64 o.b,.int .u64 o.word]]) (by simp [results,Try.results28,go_sem,a0,a1,a2,a3,b0,b1,b2,b3]) rfl ⟨s,o,HOO.out,rfl,hm,hb⟩
end Go.Proofs.Ytnmhkgmmpkjjeaa
