import Derived.Test.YtnmhkgmmpkjjeaaGreatL41
import Derived.Deep.RegionLaw
namespace Go.Proofs.YtnmhkgmmpkjjeaaGreat
open Go.ChangeShapes Go.WideShapes Go.ChangeAt Go.RowKit
set_option linter.unusedVariables false
set_option linter.unusedSimpArgs false
set_option maxRecDepth 100000
attribute [local go_sem ↓] Go.wp_at_zero Go.wp_at_succ
structure XU (W:World) (gu b0:Nat) (s:YS) (g1 c1 g2 c2:Nat) (a3:Option Addr) (c3:Nat) (P:List B9):Prop where
 lo:b0<=gu
 lt:gu<W.heap.size
 q0:W.cell? ⟨gu,0,none⟩=some (.slice (some ⟨g1,0,none⟩) s.m.length c1)
 q1:W.cell? ⟨gu,1,none⟩=some (.slice (some ⟨g2,0,none⟩) s.l.length c2)
 q2:W.cell? ⟨gu,2,none⟩=some (.slice a3 P.length c3)
 q3:W.cell? ⟨gu,3,none⟩=some (.slice none 0 0)
 q4:W.cell? ⟨gu,4,none⟩=some (.slice none 0 0)
 fz:∀i,W.frozen? ⟨gu,i,none⟩=false
 r1:A6 Aa W b0 (.slice (some ⟨g1,0,none⟩) s.m.length c1) s.m
 r2:A6 Aa W b0 (.slice (some ⟨g2,0,none⟩) s.l.length c2) s.l
 r3:A6 CA W b0 (.slice a3 P.length c3) P
 pk:P.length=s.k
 ml:s.m.length=s.l.length
 n12:g1≠g2
 nu1:gu≠g1
 nu2:gu≠g2
 n3:∀k,Ie a3=some k->k≠gu/\k≠g1/\k≠g2
def Oe (gu g1 g2:Nat) (a3:Option Addr) (k:Nat):Prop:=k=gu\/k=g1\/k=g2\/Ie a3=some k
theorem XU.below {W W':World} {gu b0:Nat} {s:YS} {g1 c1 g2 c2:Nat} {a3:Option Addr} {c3:Nat} {P:List B9} (h:XU W gu b0 s g1 c1 g2 c2 a3 c3 P) (hb:Below W.heap.size W W'):XU W' gu b0 s g1 c1 g2 c2 a3 c3 P :=
 ⟨h.lo,Nat.lt_of_lt_of_le h.lt hb.size,(hb.cell (p:=⟨gu,0,none⟩) h.lt).trans h.q0,(hb.cell (p:=⟨gu,1,none⟩) h.lt).trans h.q1,(hb.cell (p:=⟨gu,2,none⟩) h.lt).trans h.q2,(hb.cell (p:=⟨gu,3,none⟩) h.lt).trans h.q3,(hb.cell (p:=⟨gu,4,none⟩) h.lt).trans h.q4,fun i=>(hb.frozen (p:=⟨gu,i,none⟩) h.lt).trans (h.fz i),h.r1.below hb,h.r2.below hb,h.r3.below hb,h.pk,h.ml,h.n12,h.nu1,h.nu2,h.n3⟩
theorem XU.g1lt {W:World} {gu b0:Nat} {s:YS} {g1 c1 g2 c2:Nat} {a3:Option Addr} {c3:Nat} {P:List B9} (h:XU W gu b0 s g1 c1 g2 c2 a3 c3 P):(b0<=g1/\g1<W.heap.size)/\(b0<=g2/\g2<W.heap.size)/\∀k,Ie a3=some k->b0<=k/\k<W.heap.size:=⟨h.r1.own g1 rfl,h.r2.own g2 rfl,fun k hk=>h.r3.ownA k hk⟩
theorem XU.wrote {W wn:World} {gu b0:Nat} {s:YS} {g1 c1 g2 c2:Nat} {a3:Option Addr} {c3:Nat} {P:List B9} {A g3 cap3:Nat} {wd:Int} (h:XU W gu b0 s g1 c1 g2 c2 a3 c3 P) (hA:A<s.l.length) (hg:W.grownBy wn (Ie a3)) (hnew:A6 CA wn b0 (.slice (some ⟨g3,0,none⟩) (P++[(⟨A,wd⟩:B9)]).length cap3) (P++[(⟨A,wd⟩:B9)])) (hat:Ie a3=some g3\/W.heap.size<=g3) : XU ((wn.setCell ⟨gu,2,none⟩ (.slice (some ⟨g3,0,none⟩) (P++[(⟨A,wd⟩:B9)]).length cap3)).setCell ⟨g2,A,none⟩ (.int .u64 wd)) gu b0 ⟨s.m,s.l.set A wd,s.k+1⟩ g1 c1 g2 c2 (some ⟨g3,0,none⟩) cap3 (P++[(⟨A,wd⟩:B9)])/\Aj (Oe gu g1 g2 a3) W ((wn.setCell ⟨gu,2,none⟩ (.slice (some ⟨g3,0,none⟩) (P++[(⟨A,wd⟩:B9)]).length cap3)).setCell ⟨g2,A,none⟩ (.int .u64 wd)):=by
 obtain⟨⟨_,l1⟩,⟨_,l2⟩,l3⟩:=h.g1lt;have hlt:=h.lt;have hnu:=h.nu2;have hne:∀k,Ie a3=some k->k≠gu/\k≠g1/\k≠g2:=h.n3
 have h3:g3≠gu/\g3≠g1/\g3≠g2:=by
  rcases hat with e|e
  ·exact hne g3 e
  ·omega
 have hbu:wn.heap[gu]?=W.heap[gu]?:=hg.block gu hlt (fun e=>(hne gu e.symm).1 rfl);have cu:∀i,i≠2->((wn.setCell ⟨gu,2,none⟩ (.slice (some ⟨g3,0,none⟩) (P++[(⟨A,wd⟩:B9)]).length cap3)).setCell ⟨g2,A,none⟩ (.int .u64 wd)).cell? ⟨gu,i,none⟩=W.cell? ⟨gu,i,none⟩:=fun i hi=>by
  rw[World.cell?_setCell_other _ _ _ _ (fun e=>by simp only[Addr.mk.injEq] at e;omega),World.cell?_setCell_other _ _ _ _ (fun e=>by simp only[Addr.mk.injEq] at e;omega)];exact World.cell?_of_block hbu
 have kp:∀{α:Type} {E:Dc α} {x n c:Nat} {xs:List α} (w:World) (g i:Nat) (u:Value),A6 E w b0 (.slice (some ⟨x,0,none⟩) n c) xs->x≠g->A6 E (w.setCell ⟨g,i,none⟩ u) b0 (.slice (some ⟨x,0,none⟩) n c) xs:=fun w g i u hr hk=>A6.kept hr (Bp (World.grownBy.refl _ _) i u) (fun k hk2 e=>hk (by injection hk2 with e1;injection e with e2;exact e1.trans e2))
 have r1n:=h.r1.kept hg (fun k hk e=>by
  have:k=g1:=by simpa [Value.ownBlock] using hk.symm
  exact(hne k e.symm).2.1 this)
 have r2n:=h.r2.kept hg (fun k hk e=>by
  have:k=g2:=by simpa [Value.ownBlock] using hk.symm
  exact(hne k e.symm).2.2 this)
 refine⟨⟨h.lo,?_,(cu 0 (by omega)).trans h.q0,?_,?_,(cu 3 (by omega)).trans h.q3,(cu 4 (by omega)).trans h.q4,fun i=>?_,?_,?_,?_,?_,?_,h.n12,h.nu1,h.nu2,?_⟩,?_⟩
 ·simp;exact Nat.lt_of_lt_of_le hlt hg.size
 ·rw[List.length_set];exact(cu 1 (by omega)).trans h.q1
 ·rw[World.cell?_setCell_other _ _ _ _ (fun e=>by simp only[Addr.mk.injEq] at e;omega)];exact World.cell?_setCell_same _ _ _ ((World.cell?_of_block hbu).trans h.q2)
 ·rw[World.frozen?_setCell,World.frozen?_setCell];exact(World.frozen?_of_block (a:=⟨gu,i,none⟩) hbu).trans (h.fz i)
 ·exact kp _ g2 A _ (kp wn gu 2 _ r1n h.nu1.symm) h.n12
 ·have r2m:=kp wn gu 2 (.slice (some ⟨g3,0,none⟩) (P++[(⟨A,wd⟩:B9)]).length cap3) r2n h.nu2.symm;show A6 Aa _ b0 (.slice (some ⟨g2,0,none⟩) (s.l.set A wd).length c2) (s.l.set A wd);rw[List.length_set];exact r2m.setW hA
 ·exact kp _ g2 A _ (kp wn gu 2 _ hnew h3.1) h3.2.2
 ·rw[List.length_append,h.pk];rfl
 ·show s.m.length=(s.l.set A wd).length;rw[List.length_set];exact h.ml
 ·intro k hk;have:k=g3:=by simpa [Ie,Value.ownBlock] using hk.symm
  rw[this];exact h3
 ·refine⟨hg.os,hg.tape,hg.output,by simpa using hg.size,fun k hk hn=>?_⟩;unfold Oe at hn;rw[Below.heap_setCell _ _ _ _ (fun e=>hn (.inr (.inr (.inl e)))),Below.heap_setCell _ _ _ _ (fun e=>hn (.inl e))];exact hg.block k hk (fun e=>hn (.inr (.inr (.inr e.symm))))
set_option maxHeartbeats 4000000 in
theorem NG (gu b0:Nat) (s:YS) (g1 c1 g2 c2:Nat) (a3:Option Addr) (c3:Nat) (P:List B9) (K0 B0 wd:Int) (A:Nat) (w:World) (hA:A<s.l.length) (hml:s.l.length<=8192) (hp:P.length<10000) (h:XU w gu b0 s g1 c1 g2 c2 a3 c3 P) : Calls Tryz.prog 294 #[.agg #[.int .i64 K0,.int .i64 A,.int .i64 B0,.int .u64 wd],.pointer (some ⟨gu,0,none⟩)] w fun e w'=>e=.returned (.tuple #[])/\∃g3 cap3,XU w' gu b0 ⟨s.m,s.l.set A wd,s.k+1⟩ g1 c1 g2 c2 (some ⟨g3,0,none⟩) cap3 (P++[(⟨A,wd⟩:B9)])/\Aj (Oe gu g1 g2 a3) w w'/\(Ie a3=some g3\/w.heap.size<=g3):=by
 obtain⟨iE,hiE,hz0,hz1,hz2⟩:=info_parts Li;obtain⟨wb,hwb⟩:∃wb,wb=w.alloc (.cells #[.int .i64 K0,.int .i64 A,.int .i64 B0,.int .u64 wd] 324):=⟨_,rfl⟩
 have hbb:Below w.heap.size w wb:=by rw[hwb];exact Ao
 have hzb:wb.heap.size=w.heap.size+1:=by rw[hwb];simp
 have hub:=h.below hbb;obtain⟨⟨_,l1⟩,⟨lo2,g2l⟩,hl3⟩:=h.g1lt;have b0l:b0<=w.heap.size:=by have:=h.lo;have:=h.lt;omega
 have bx0:wb.cell? ⟨w.heap.size,1,none⟩=some (.int .i64 A)/\wb.cell? ⟨w.heap.size,3,none⟩=some (.int .u64 wd):=by rw[hwb];constructor<;>simp[go_sem]
 obtain⟨wx,hwx⟩:∃wx,wx=wb.drew.alloc (.cells #[.int .i64 A,.int .u64 wd] 188):=⟨_,rfl⟩
 have bxx:Below wb.heap.size wb wx:=by rw[hwx];exact(Below.refl _ _).drew.alloc (by simp) _
 have hux:=hub.below bxx;have hzx:wx.heap.size=wb.heap.size+1:=by rw[hwx];simp
 have HKB:Hid (∀wX,Below wb.heap.size wb wX->wX.cell? ⟨w.heap.size,1,none⟩=some (.int .i64 A)/\wX.cell? ⟨w.heap.size,3,none⟩=some (.int .u64 wd)):=fun wX hX=>⟨(hX.cell (by simp;omega)).trans bx0.1,(hX.cell (by simp;omega)).trans bx0.2⟩
 have HKG:Hid (∀wX,wx.grownBy wX (Ie a3)->wX.cell? ⟨w.heap.size,1,none⟩=some (.int .i64 A)/\wX.cell? ⟨w.heap.size,3,none⟩=some (.int .u64 wd)):=fun wX hX=>by
  have hk:=hX.block w.heap.size (by omega) (fun e=>by have:=(hl3 w.heap.size e.symm).2;omega);exact⟨(World.cell?_of_block hk).trans (HKB.out wx bxx).1,(World.cell?_of_block hk).trans (HKB.out wx bxx).2⟩
 have HKS:Hid (∀wX,wx.grownBy wX (Ie a3)->∀v,(wX.setCell ⟨gu,2,none⟩ v).cell? ⟨w.heap.size,1,none⟩=some (.int .i64 A)/\(wX.setCell ⟨gu,2,none⟩ v).cell? ⟨w.heap.size,3,none⟩=some (.int .u64 wd)):=fun wX hX v=>by
  have hk:(wX.setCell ⟨gu,2,none⟩ v).heap[w.heap.size]?=wX.heap[w.heap.size]?:=Below.heap_setCell _ _ _ _ (by have:=h.lt;show ¬w.heap.size=gu;omega);exact⟨(World.cell?_of_block hk).trans (HKG.out wX hX).1,(World.cell?_of_block hk).trans (HKG.out wX hX).2⟩
 have HOWN:Hid (wx.ownsRow b0 188 2 (.slice a3 P.length c3) P.length (AE CA P)):=hux.r3;have HNEWS:Hid (∀j v,([.int .i64 A,.int .u64 wd]:List Value)[j]?=some v->wx.cell? ((⟨wb.heap.size,0,none⟩:Addr).add j)=some v):=by
  rw[hwx];exact World.news_of_block (heap_alloc_new wb.drew (.cells #[.int .i64 A,.int .u64 wd] 188))
 have HQ2:Hid (wx.cell? ⟨gu,2,none⟩=some (.slice a3 P.length c3)):=hux.q2;have HF2:Hid (wx.frozen? ⟨gu,2,none⟩=false):=hux.fz 2;have HG3:Hid (Ie a3≠some gu):=fun e=>(h.n3 gu e).1 rfl
 have q2b:=hub.q2;have hlt:=h.lt;have HFIN:Hid (∀g3 cap3 (wn:World),wn.ownsRow b0 188 2 (.slice (some ⟨g3,0,none⟩) (P.length+1) cap3) (P.length+1) (AE CA P++[.int .i64 A,.int .u64 wd])->wx.grownBy wn (Ie a3)->(Ie a3=some g3\/g3=wb.heap.size+1)->∃g3' cap3',XU ((wn.setCell ⟨gu,2,none⟩ (.slice (some ⟨g3,0,none⟩) (P.length+1) cap3)).setCell ⟨g2,A,none⟩ (.int .u64 wd)) gu b0 ⟨s.m,s.l.set A wd,s.k+1⟩ g1 c1 g2 c2 (some ⟨g3',0,none⟩) cap3' (P++[(⟨A,wd⟩:B9)])/\Aj (Oe gu g1 g2 a3) w ((wn.setCell ⟨gu,2,none⟩ (.slice (some ⟨g3,0,none⟩) (P.length+1) cap3)).setCell ⟨g2,A,none⟩ (.int .u64 wd))/\(Ie a3=some g3'\/w.heap.size<=g3')):=fun g3 cap3 wn hown hgrow hat=>by
  have hl:(P++[(⟨A,wd⟩:B9)]).length=P.length+1:=by simp
  have hnew:A6 CA wn b0 (.slice (some ⟨g3,0,none⟩) (P++[(⟨A,wd⟩:B9)]).length cap3) (P++[(⟨A,wd⟩:B9)]):=by
   rw[hl];exact A6.snocL (m:=P.length+1) rfl hown
  have hW:=XU.wrote hux hA hgrow hnew (hat.imp id (fun h'=>by omega));rw[hl] at hW;exact⟨g3,cap3,hW.1,(Aj.of_below (hbb.trans (bxx.mono (by omega)))).then hW.2 (fun k _ hk=>hk),hat.imp id (fun h'=>by omega)⟩
 have HQ1:Hid (∀wn:World,wx.grownBy wn (Ie a3)->wn.cell? ⟨gu,1,none⟩=some (.slice (some ⟨g2,0,none⟩) s.l.length c2)):=fun wn hg=>by
  rw[World.cell?_of_block (a:=⟨gu,1,none⟩) (hg.block gu (by omega) (fun e=>(h.n3 gu e.symm).1 rfl))];exact hux.q1
 have HC2:Hid (∀wn:World,wx.grownBy wn (Ie a3)->wn.cell? ⟨g2,A,none⟩=some (.int .u64 (s.l.getD A 0))/\wn.frozen? ⟨g2,A,none⟩=false):=fun wn hg=>by
  have hk:=hg.block g2 (by omega) (fun e=>(h.n3 g2 e.symm).2.2 rfl);obtain⟨e1,e2,_,_⟩:=Jw hux.r2 hA;exact⟨(World.cell?_of_block hk).trans e1,(World.frozen?_of_block hk).trans e2⟩
 have hg2ne:¬g2=gu:=fun e=>h.nu2 e.symm
 have HWB:Hid (wb=_):=hwb;have HWX:Hid (wx=_):=hwx;have HZX:Hid (wx.heap.size=_):=hzx;have HZB:Hid (wb.heap.size=_):=hzb;have hgub:gu<wb.heap.size:=by omega
 have hb0b:b0<=wb.heap.size:=by omega
 have L1:(0:Int)<=(A:Int):=by omega
 have L2:(A:Int)<(s.l.length:Int):=by omega
 rw[hwx] at HKG HKS HOWN HNEWS HQ2 HF2 HFIN HQ1 HC2;clear h hub hux hbb bxx hwb hwx hzb hzx hl3 bx0;go_enter Tryz.func294,Tryz.ntmps294
 go_wp2_with fail
 rw[<- HWB.out];go_cut [2] (fun d wy=>d=.pointer (some ⟨w.heap.size,0,none⟩)/\∃g3 cap3 wn,wn.ownsRow b0 188 2 (.slice (some ⟨g3,0,none⟩) (P.length+1) cap3) (P.length+1) (AE CA P++[.int .i64 A,.int .u64 wd])/\(wb.drew.alloc (.cells #[.int .i64 A,.int .u64 wd] 188)).grownBy wn (Ie a3)/\((Ie a3)=some g3\/g3=wb.heap.size+1)/\wy=wn.setCell ⟨gu,2,none⟩ (.slice (some ⟨g3,0,none⟩) (P.length+1) cap3))
 case first =>
  refine wp_region_held_drew (S:=(fun wX=>wX.cell? ⟨w.heap.size,1,none⟩=some (.int .i64 A)/\wX.cell? ⟨w.heap.size,3,none⟩=some (.int .u64 wd))) (by kernel_rfl) (HKB.out _ ((Below.refl _ _).drew)) (fun hHeld=>?_);refine tk 0 ?_;refine tk 1 ?_;refine tk 2 ?_;refine tk 3 ?_;refine tk 5 ?_;refine tk 6 ?_;refine tk 7 ?_;refine tk 8 ?_;refine tk 9 ?_;refine wpAnyH_ready (rs:=[4,10]) (by kernel_rfl) (by simp) ?_;refine AllReadyH.cons rfl (fun K hK=>?_) (AllReadyH.cons rfl (fun K hK=>?_) AllReadyH.nil)
  ·go_simp;refine hK.out _ _ (HKB.out _ ((Below.refl _ _).drew)) (fun hHeld2=>?_);clear hK K;refine wpAnyH_ready (rs:=[10]) (by kernel_rfl) (by simp) ?_;refine AllReadyH.cons rfl (fun K hK=>?_) AllReadyH.nil;go_simp;refine hK.out _ _ (HKB.out _ ((Below.refl _ _).drew.alloc (by simp) _)) (fun hHeld3=>?_);clear hK K;refine wpAnyH_ready (rs:=[11]) (by kernel_rfl) (by simp) ?_;refine AllReadyH.cons rfl (fun K hK=>?_) AllReadyH.nil;refine step_append_lies _ (by rfl) (.tmp 8) (.tmp 14) 42 (by rfl) b0 188 iE _ 2 16 Tryz.underlying42 hiE hz0 hz1 hz2 rfl (by omega) _ _ _ (by rfl) HOWN.out ⟨wb.heap.size,0,none⟩ 1 1 [.int .i64 A,.int .u64 wd] (by rfl) rfl HNEWS.out (by intro v hv;simp at hv;rcases hv with rfl|rfl<;>rfl) (by omega) (by unfold maxLen;omega) (by omega) (by simp;omega) (wb.heap.size+1) (by simp) ?_;intro g3 cap3 wn hown hgrow hat hlt3;rw[IZ] at hgrow hat;refine hK.out _ _ (HKG.out wn hgrow) (fun hHeld4=>?_);clear hK K;have cq2:=(World.cell?_of_block (a:=⟨gu,2,none⟩) (hgrow.block gu (by simp;omega) (fun e=>HG3.out e.symm))).trans HQ2.out;have cf2:=(World.frozen?_of_block (a:=⟨gu,2,none⟩) (hgrow.block gu (by simp;omega) (fun e=>HG3.out e.symm))).trans HF2.out;refine tk 12 ?_;refine tk 13 ?_;refine wpAnyH_ready (rs:=[14]) (by kernel_rfl) (by simp) ?_;refine AllReadyH.cons rfl (fun K hK=>?_) AllReadyH.nil;go_simp;refine hK.out _ _ (HKS.out wn hgrow _) (fun hHeld5=>?_);clear hK K;refine wpAnyH_done (by kernel_rfl) ?_ _;(go_wp2_with fail);(go_meet);case rel=>exact⟨rfl,g3,cap3,wn,hown,hgrow,hat,rfl⟩
  ·go_simp;refine hK.out _ _ (HKB.out _ ((Below.refl _ _).drew.alloc (by simp) _)) (fun hHeld2=>?_);clear hK K;refine wpAnyH_ready (rs:=[4]) (by kernel_rfl) (by simp) ?_;refine AllReadyH.cons rfl (fun K hK=>?_) AllReadyH.nil;go_simp;refine hK.out _ _ (HKB.out _ ((Below.refl _ _).drew.alloc (by simp) _)) (fun hHeld3=>?_);clear hK K;refine wpAnyH_ready (rs:=[11]) (by kernel_rfl) (by simp) ?_;refine AllReadyH.cons rfl (fun K hK=>?_) AllReadyH.nil;refine step_append_lies _ (by rfl) (.tmp 8) (.tmp 14) 42 (by rfl) b0 188 iE _ 2 16 Tryz.underlying42 hiE hz0 hz1 hz2 rfl (by omega) _ _ _ (by rfl) HOWN.out ⟨wb.heap.size,0,none⟩ 1 1 [.int .i64 A,.int .u64 wd] (by rfl) rfl HNEWS.out (by intro v hv;simp at hv;rcases hv with rfl|rfl<;>rfl) (by omega) (by unfold maxLen;omega) (by omega) (by simp;omega) (wb.heap.size+1) (by simp) ?_;intro g3 cap3 wn hown hgrow hat hlt3;rw[IZ] at hgrow hat;refine hK.out _ _ (HKG.out wn hgrow) (fun hHeld4=>?_);clear hK K;have cq2:=(World.cell?_of_block (a:=⟨gu,2,none⟩) (hgrow.block gu (by simp;omega) (fun e=>HG3.out e.symm))).trans HQ2.out;have cf2:=(World.frozen?_of_block (a:=⟨gu,2,none⟩) (hgrow.block gu (by simp;omega) (fun e=>HG3.out e.symm))).trans HF2.out;refine tk 12 ?_;refine tk 13 ?_;refine wpAnyH_ready (rs:=[14]) (by kernel_rfl) (by simp) ?_;refine AllReadyH.cons rfl (fun K hK=>?_) AllReadyH.nil;go_simp;refine hK.out _ _ (HKS.out wn hgrow _) (fun hHeld5=>?_);clear hK K;refine wpAnyH_done (by kernel_rfl) ?_ _;(go_wp2_with fail);(go_meet);case rel=>exact⟨rfl,g3,cap3,wn,hown,hgrow,hat,rfl⟩
 case rest =>
  obtain⟨wy,rfl⟩:∃wy:World,wy=wc:=⟨_,rfl⟩
  obtain⟨rfl,g3,cap3,wn,hown,hgrow,hat,hwy⟩:=hcut;have hfin:=HFIN.out g3 cap3 wn hown hgrow hat;have cq1:=HQ1.out wn hgrow;obtain⟨cc2,cf2⟩:=HC2.out wn hgrow;have hnl:=hgrow.size;simp at hnl;rw[<- hwy] at hfin;have y1:wy.cell? ⟨gu,1,none⟩=some (.slice (some ⟨g2,0,none⟩) s.l.length c2):=by rw[hwy,World.cell?_setCell_other _ _ _ _ (by simp)];exact cq1
  have hk2:wy.heap[g2]?=wn.heap[g2]?:=by rw[hwy];exact Below.heap_setCell _ _ _ _ hg2ne
  have y2:=(World.cell?_of_block (a:=⟨g2,A,none⟩) hk2).trans cc2;have y3:=(World.frozen?_of_block (a:=⟨g2,A,none⟩) hk2).trans cf2;have yb:=HKS.out wn hgrow (.slice (some ⟨g3,0,none⟩) (P.length+1) cap3);rw[<- hwy] at yb;have HY:Hid (∀wX:World,(∀k,k≠g2->wX.heap[k]?=wy.heap[k]?)->wX.cell? ⟨gu,1,none⟩=some (.slice (some ⟨g2,0,none⟩) s.l.length c2)/\(wX.cell? ⟨w.heap.size,1,none⟩=some (.int .i64 A)/\wX.cell? ⟨w.heap.size,3,none⟩=some (.int .u64 wd))):=fun wX hX =>
   ⟨(World.cell?_of_block (hX gu (fun e=>hg2ne e.symm))).trans y1,(World.cell?_of_block (hX w.heap.size (by have:=HZB.out;omega))).trans yb.1,(World.cell?_of_block (hX w.heap.size (by have:=HZB.out;omega))).trans yb.2⟩
  have HFI:Hid _:=hfin;clear hown hgrow hat hfin cq1 cc2 cf2 hwy hk2 hnl;go_wp2_with fail
  refine wp_region_held_drew (S:=(fun wX=>wX.cell? ⟨gu,1,none⟩=some (.slice (some ⟨g2,0,none⟩) s.l.length c2)/\(wX.cell? ⟨w.heap.size,1,none⟩=some (.int .i64 A)/\wX.cell? ⟨w.heap.size,3,none⟩=some (.int .u64 wd)))) (by kernel_rfl) (HY.out wy.drew (fun k hk=>rfl)) (fun hHeld=>?_);refine tk 0 ?_;refine tk 1 ?_;refine tk 2 ?_;refine tk 3 ?_;refine tk 4 ?_;refine tk 5 ?_;refine tk 6 ?_;refine tk 7 ?_;refine tk 8 ?_;refine tk 9 ?_;refine wpAnyH_ready (rs:=[10]) (by kernel_rfl) (by simp) ?_;refine AllReadyH.cons rfl (fun K hK=>?_) AllReadyH.nil;go_simp;refine hK.out _ _ (HY.out _ (fun k hk=>Below.heap_setCell _ _ _ _ hk)) (fun hHeld5=>?_);clear hK K;refine wpAnyH_done (by kernel_rfl) ?_ _;go_wp2_with fail
  obtain⟨g4,cap4,hx4,ht4,hn4⟩:=HFI.out;refine bodyPost_end (v:=.tuple #[]) (by simp[results,Tryz.results294,go_sem]) rfl ⟨rfl,g4,cap4,hx4.below ⟨rfl,rfl,rfl,Nat.le_refl _,fun _ _=>rfl⟩,⟨ht4.os,ht4.tape,ht4.output,ht4.size,ht4.block⟩,hn4⟩
end Go.Proofs.YtnmhkgmmpkjjeaaGreat
