import Derived.Test.YtnmhkgmmpkjjeabGreatE36
namespace Go.Proofs.YtnmhkgmmpkjjeabGreat
open ChangeShapes WideShapes ChangeAt RowKit Proofs.Tryz
set_option linter.all false
set_option maxRecDepth 100000
set_option maxHeartbeats 4000000
attribute [local go_sem ↓] wp_at_zero wp_at_succ
theorem Jo(M:A9)(e:BJ):AE ⟨M.mem,M.pend++[e],M.tlb,M.wc⟩=(AE M).set e.addr.toNat e.word:=by
 unfold AE;rw[List.foldl_append];rfl
theorem UM.wrote{W W':World}{gu b0 B:Nat}{u:UV}{M:A9}{A g2:Nat}{wd:Int}(h:UM W gu b0 B true u M)(th:CB u)(hA:A<M.mem.length)(hg2:u.a2=some ⟨g2,0,none⟩)(hg:W.grownBy W' u.o3)(a':Option Addr)(c':Nat)(hc:A6 AA W' b0 (.slice a' (M.pend++[(⟨A,wd⟩:BJ)]).length c') (M.pend++[(⟨A,wd⟩:BJ)]))(ho:∀k,Al a'=some k->u.o3=some k\/W.heap.size<=k):Bk W ((W'.setCell ⟨gu,2,none⟩ (.slice a' (M.pend++[(⟨A,wd⟩:BJ)]).length c')).setCell ⟨g2,A,none⟩ (.int .u64 wd)) gu b0 B u ⟨u.a1,u.c1,u.a2,u.n2,u.c2,a',c',u.a4,u.c4,u.a5,u.c5⟩ ⟨M.mem,M.pend++[(⟨A,wd⟩:BJ)],M.tlb,M.wc⟩:=by
 have l1:∀k,u.o1=some k->k<W.heap.size:=fun k hk=>(h.w.ownA k hk).2
 have l2:=h.o2;have l4:∀k,u.o4=some k->k<W.heap.size:=fun k hk=>(h.t.ownA k hk).2
 have l5:∀k,u.o5=some k->k<W.heap.size:=fun k hk=>(h.c.ownA k hk).2
 have hlt:=h.lt;have o2g:u.o2=some g2:=by unfold UV.o2;rw[hg2];rfl
 have g2l:=l2 g2 o2g;have hsz:=hg.size;obtain⟨W1,hW1⟩:∃W1,W1=W'.setCell ⟨gu,2,none⟩ (.slice a' (M.pend++[(⟨A,wd⟩:BJ)]).length c'):=⟨_,rfl⟩
 obtain⟨W2,hW2⟩:∃W2,W2=W1.setCell ⟨g2,A,none⟩ (.int .u64 wd):=⟨_,rfl⟩
 rw[<- hW1,<- hW2];have hne:¬gu=g2:=fun e=>h.ap.g2 (by rw[e];exact o2g)
 have t1:A5 (fun k=>k=gu\/u.o3=some k) W W1:=by
  rw[hW1];exact⟨hg.os,hg.tape,hg.output,by simpa using hg.size,fun k hk hn=>(Below.heap_setCell _ _ _ _ (fun e=>hn (.inl e))).trans (hg.block k hk (fun e=>hn (.inr e.symm)))⟩
 have t2:A5 (fun k=>k=g2) W1 W2:=by
  rw[hW2];exact⟨rfl,rfl,rfl,by simp,fun k hk hn=>Below.heap_setCell _ _ _ _ hn⟩
 have hb2:W2.heap[gu]?=W1.heap[gu]?:=t2.block gu (Nat.lt_of_lt_of_le hlt t1.size) hne;have hblk:W'.heap[gu]?=W.heap[gu]?:=hg.block gu hlt (fun e=>h.ap.g3 e.symm);have cells:∀i,i≠2->W2.cell? ⟨gu,i,none⟩=W.cell? ⟨gu,i,none⟩:=fun i hi=>by
  rw[World.cell?_of_block (a:=⟨gu,i,none⟩) hb2,hW1,World.cell?_setCell_other _ _ _ _ (by intro e;injection e with _ e;exact hi e.symm)];exact World.cell?_of_block hblk
 have cnew:W2.cell? ⟨gu,2,none⟩=some (.slice a' (M.pend++[(⟨A,wd⟩:BJ)]).length c'):=by
  rw[World.cell?_of_block (a:=⟨gu,2,none⟩) hb2,hW1];exact World.cell?_setCell_same _ _ _ ((World.cell?_of_block (a:=⟨gu,2,none⟩) hblk).trans h.q2)
 have frz:∀i,W2.frozen? ⟨gu,i,none⟩=W.frozen? ⟨gu,i,none⟩:=fun i=>by
  rw[World.frozen?_of_block (a:=⟨gu,i,none⟩) hb2,hW1,World.frozen?_setCell];exact World.frozen?_of_block (a:=⟨gu,i,none⟩) hblk
 have hTT:A5 (fun k=>k=gu\/u.o3=some k\/k=g2) W W2 :=
  ⟨t2.os.trans t1.os,t2.tape.trans t1.tape,t2.output.trans t1.output,Nat.le_trans t1.size t2.size,fun k hk hn=>(t2.block k (Nat.lt_of_lt_of_le hk t1.size) (fun e=>hn (.inr (.inr e)))).trans (t1.block k hk (fun e=>hn (e.elim .inl (fun e=>.inr (.inl e)))))⟩
 have hng:Al a'≠some gu:=fun e=>by
  rcases ho gu e with h'|h'
  ·exact h.ap.g3 h'
  ·omega
 have hn2:Al a'≠some g2:=fun e=>by
  rcases ho g2 e with h'|h'
  ·exact th.a23 g2 o2g h'
  ·omega
 have nb:∀(o:Option Nat),(∀k,o=some k->k<W.heap.size)->(∀k,u.o3=some k->o≠some k)->∀k,Al a'=some k->o≠some k:=fun o h1 h2 k hk e=>by
  rcases ho k hk with h'|h'
  ·exact h2 k h' e
  ·have:=h1 k e;omega
 have hlate:AE ⟨M.mem,M.pend++[(⟨A,wd⟩:BJ)],M.tlb,M.wc⟩=(AE M).set A wd:=Jo M ⟨A,wd⟩;have hlrow:A6 AO W2 b0 (.slice u.a2 u.n2 u.c2) ((AE M).set A wd):=by
  have r1:=(h.l rfl).2.touchA t1 (fun k hk hx=>hx.elim (fun e=>h.ap.g2 (e ▸ hk)) (fun e=>th.a23 k hk e));rw[hg2] at r1 ⊢;rw[hW2];exact r1.setWord A (by rw[Ac];exact hA) wd
 refine⟨⟨Nat.lt_of_lt_of_le hlt hTT.size,(cells 0 (by omega)).trans h.q0,(cells 1 (by omega)).trans h.q1,cnew,(cells 3 (by omega)).trans h.q3,(cells 4 (by omega)).trans h.q4,(frz 2).trans h.f2,(frz 3).trans h.f3,(frz 4).trans h.f4,?_,fun _=>⟨(h.l rfl).1,?_⟩,?_,?_,?_,?_,fun k hk=>Nat.lt_of_lt_of_le (l2 k hk) hTT.size⟩,?_,fun k hk=>?_,?_⟩
 ·exact h.w.touchA hTT (fun k hk hx=>hx.elim (fun e=>h.ap.g1 (e ▸ hk)) (fun hx=>hx.elim (fun e=>th.a13 k hk e) (fun e=>th.a12 k hk (by rw[e];exact o2g))))
 ·rw[hlate];exact hlrow
 ·have r1:A6 AA W1 b0 (.slice a' (M.pend++[(⟨A,wd⟩:BJ)]).length c') (M.pend++[(⟨A,wd⟩:BJ)]):=by
   rw[hW1];exact hc.touchA (S:=fun k=>k=gu) ⟨rfl,rfl,rfl,by simp,fun k hk hn=>Below.heap_setCell _ _ _ _ hn⟩ (fun k hk e=>hng (by rw[<- e];exact hk))
  exact r1.touchA t2 (fun k hk e=>hn2 (by rw[<- e];exact hk))
 ·exact h.t.touchA hTT (fun k hk hx=>hx.elim (fun e=>h.ap.g4 (e ▸ hk)) (fun hx=>hx.elim (fun e=>h.ap.t3 k hk e) (fun e=>h.ap.t2 k hk (by rw[e];exact o2g))))
 ·exact h.c.touchA hTT (fun k hk hx=>hx.elim (fun e=>h.ap.g5 (e ▸ hk)) (fun hx=>hx.elim (fun e=>h.ap.w3 k hk e) (fun e=>h.ap.w2 k hk (by rw[e];exact o2g))))
 ·exact⟨h.ap.g1,h.ap.g2,hng,h.ap.g4,h.ap.g5,h.ap.t1,h.ap.t2,fun k hk e=>nb u.o4 l4 (fun j hj e'=>h.ap.t3 j e' hj) k e hk,h.ap.t5,h.ap.w1,h.ap.w2,fun k hk e=>nb u.o5 l5 (fun j hj e'=>h.ap.w3 j e' hj) k e hk⟩
 ·exact⟨hTT.os,hTT.tape,hTT.output,hTT.size,fun k hk hn=>hTT.block k hk (fun hx=>hn (hx.elim .inl (fun hx=>hx.elim (fun e=>.inr (.inr (.inr (.inl e)))) (fun e=>.inr (.inr (.inl (by rw[e];exact o2g)))))))⟩
 ·rcases hk with e|e|e|e|e|e
  ·exact .inl (.inl e)
  ·exact .inl (.inr (.inl e))
  ·exact .inl (.inr (.inr (.inl e)))
  ·rcases ho k e with h'|h'
   ·exact .inl (.inr (.inr (.inr (.inl h'))))
   ·exact .inr h'
  ·exact .inl (.inr (.inr (.inr (.inr (.inl e)))))
  ·exact .inl (.inr (.inr (.inr (.inr (.inr e)))))
 ·exact⟨fun k h1 h3=>nb u.o1 l1 (fun j hj e'=>th.a13 j e' hj) k h3 h1,th.a12,fun k h2' h3=>nb u.o2 l2 (fun j hj e'=>th.a23 j e' hj) k h3 h2'⟩
set_option maxRecDepth 100000 in
theorem IW(gu b0 B:Nat)(u:UV)(M:A9)(K0 B0 wd:Int)(A:Nat)(w:World)(hA:A<M.mem.length)(hml:M.mem.length<=8192)(hp:M.pend.length<10000)(th:CB u)(h:UM w gu b0 B true u M):Calls prog 182 #[.agg #[.int .i64 K0,.int .i64 A,.int .i64 B0,.int .u64 wd],.pointer (some ⟨gu,0,none⟩)] w fun e w'=>e=.returned (.tuple #[])/\∃u',Bk w w' gu b0 B u u' ⟨M.mem,M.pend++[(⟨A,wd⟩:BJ)],M.tlb,M.wc⟩:=by
 obtain⟨iE,hiE,hz0,hz1,hz2⟩:=info_parts Da;obtain⟨wb,hwb⟩:∃wb,wb=w.alloc (.cells #[.int .i64 K0,.int .i64 A,.int .i64 B0,.int .u64 wd] 200):=⟨_,rfl⟩
 have hbb:Below w.heap.size w wb:=by rw[hwb];exact(Below.refl _ _).alloc (Nat.le_refl _) _
 have hzb:wb.heap.size=w.heap.size+1:=by rw[hwb];simp
 have hub:=h.below hbb;have hm0:0<M.mem.length:=by omega
 obtain⟨g2,ha2,hn2,hc2,hl2,hbg2⟩:=h.lat hm0;have g2l:=hc2.lt;have b0l:b0<=w.heap.size:=by omega
 have bx0:wb.cell? ⟨w.heap.size,1,none⟩=some (.int .i64 A)/\wb.cell? ⟨w.heap.size,3,none⟩=some (.int .u64 wd):=by rw[hwb];constructor<;>simp[go_sem]
 obtain⟨wx,hwx⟩:∃wx,wx=wb.drew.alloc (.cells #[.int .i64 A,.int .u64 wd] 110):=⟨_,rfl⟩
 have bxx:Below wb.heap.size wb wx:=by rw[hwx];exact(Below.refl _ _).drew.alloc (by simp) _
 have hux:=hub.below bxx;have hzx:wx.heap.size=wb.heap.size+1:=by rw[hwx];simp
 have hl3:∀k,u.o3=some k->k<w.heap.size:=fun k hk=>(h.p.ownA k hk).2
 have HKB:Hid (∀wX,Below wb.heap.size wb wX->wX.cell? ⟨w.heap.size,1,none⟩=some (.int .i64 A)/\wX.cell? ⟨w.heap.size,3,none⟩=some (.int .u64 wd)):=fun wX hX=>⟨(hX.cell (by simp;omega)).trans bx0.1,(hX.cell (by simp;omega)).trans bx0.2⟩
 have HKG:Hid (∀wX,wx.grownBy wX u.o3->wX.cell? ⟨w.heap.size,1,none⟩=some (.int .i64 A)/\wX.cell? ⟨w.heap.size,3,none⟩=some (.int .u64 wd)):=fun wX hX=>by
  have hk:=hX.block w.heap.size (by omega) (fun e=>by have:=hl3 w.heap.size e.symm;omega);exact⟨(World.cell?_of_block hk).trans (HKB.out wx bxx).1,(World.cell?_of_block hk).trans (HKB.out wx bxx).2⟩
 have HKS:Hid (∀wX,wx.grownBy wX u.o3->∀v,(wX.setCell ⟨gu,2,none⟩ v).cell? ⟨w.heap.size,1,none⟩=some (.int .i64 A)/\(wX.setCell ⟨gu,2,none⟩ v).cell? ⟨w.heap.size,3,none⟩=some (.int .u64 wd)):=fun wX hX v=>by
  have hk:(wX.setCell ⟨gu,2,none⟩ v).heap[w.heap.size]?=wX.heap[w.heap.size]?:=Below.heap_setCell _ _ _ _ (by have:=h.lt;show ¬w.heap.size=gu;omega);exact⟨(World.cell?_of_block hk).trans (HKG.out wX hX).1,(World.cell?_of_block hk).trans (HKG.out wX hX).2⟩
 have HOWN:Hid (wx.ownsRow b0 110 2 (.slice u.a3 M.pend.length u.c3) M.pend.length (AF AA M.pend)):=hux.p;have HNEWS:Hid (∀j v,([.int .i64 A,.int .u64 wd]:List Value)[j]?=some v->wx.cell? ((⟨wb.heap.size,0,none⟩:Addr).add j)=some v):=by
  rw[hwx];exact World.news_of_block (heap_alloc_new wb.drew (.cells #[.int .i64 A,.int .u64 wd] 110))
 have HQ2:Hid (wx.cell? ⟨gu,2,none⟩=some (.slice u.a3 M.pend.length u.c3)):=hux.q2;have HF2:Hid (wx.frozen? ⟨gu,2,none⟩=false):=hux.f2;have HG3:Hid (u.o3≠some gu):=h.ap.g3;have q2b:=hub.q2;have hlt:=h.lt;have HFIN:Hid (∀g1 cap1 (wn:World),wn.ownsRow b0 110 2 (.slice (some ⟨g1,0,none⟩) (M.pend.length+1) cap1) (M.pend.length+1) (AF AA M.pend++[.int .i64 A,.int .u64 wd])->wx.grownBy wn u.o3->(u.o3=some g1\/g1=wb.heap.size+1)->Bk w ((wn.setCell ⟨gu,2,none⟩ (.slice (some ⟨g1,0,none⟩) (M.pend.length+1) cap1)).setCell ⟨g2,A,none⟩ (.int .u64 wd)) gu b0 B u ⟨u.a1,u.c1,u.a2,u.n2,u.c2,some ⟨g1,0,none⟩,cap1,u.a4,u.c4,u.a5,u.c5⟩ ⟨M.mem,M.pend++[(⟨A,wd⟩:BJ)],M.tlb,M.wc⟩):=fun g1 cap1 wn hown hgrow hat=>by
  have hl:(M.pend++[(⟨A,wd⟩:BJ)]).length=M.pend.length+1:=by simp
  have hnew:A6 AA wn b0 (.slice (some ⟨g1,0,none⟩) (M.pend++[(⟨A,wd⟩:BJ)]).length cap1) (M.pend++[(⟨A,wd⟩:BJ)]):=by
   rw[hl];exact A6.snocL (m:=M.pend.length+1) rfl hown
  have hW:=UM.wrote hux th hA ha2 hgrow (some ⟨g1,0,none⟩) cap1 hnew (fun k hk=>by
   have:g1=k:=by simpa [Al,Value.ownBlock] using hk
   subst this
   rcases hat with h'|h'
   ·exact .inl h'
   ·exact .inr (by omega))
  rw[hl] at hW;exact(Bk.refl h th (hbb.trans (bxx.mono (by omega)))).trans hW
 have n2e:u.n2=M.mem.length:=(h.l rfl).1;have HQ1:Hid (∀wn:World,wx.grownBy wn u.o3->wn.cell? ⟨gu,1,none⟩=some (.slice (some ⟨g2,0,none⟩) M.mem.length u.c2)):=fun wn hg=>by
  rw[World.cell?_of_block (a:=⟨gu,1,none⟩) (hg.block gu (by omega) (fun e=>h.ap.g3 e.symm)),hux.q1,ha2,n2e]
 have HC2:Hid (∀wn:World,wx.grownBy wn u.o3->wn.cell? ⟨g2,A,none⟩=some (.int .u64 ((AE M).getD A 0))/\wn.frozen? ⟨g2,A,none⟩=false):=fun wn hg=>by
  have o2g:u.o2=some g2:=by unfold UV.o2;rw[ha2];rfl
  have hk:=hg.block g2 (by omega) (fun e=>th.a23 g2 o2g e.symm);have hcx:=hc2.below (hbb.trans (bxx.mono (by omega))) g2l;have hfz:wx.frozen? ⟨g2,A,none⟩=false:=by
   have hr:=(hux.l rfl).2;rw[ha2] at hr;rcases hr.2 with⟨e,_⟩|⟨g',cap,cur,e,hb,hg',hn,hm,hs,ht⟩
   ·cases e
   ·simp only[Value.slice.injEq,Option.some.injEq,Addr.mk.injEq] at e;obtain⟨⟨rfl,_⟩,_,rfl⟩:=e;have hr':wx.rowIs g2 AO.T cur.size (fun i=>cur.getD i (.bool false)):=⟨cur,hg',rfl,fun i hi=>by simp[hi]⟩;exact hr'.frozen A
  exact⟨(World.cell?_of_block hk).trans (hcx.cell (by rw[Ac];exact hA)),(World.frozen?_of_block hk).trans hfz⟩
 have hg2ne:¬g2=gu:=fun e=>h.ap.g2 (by rw[<- e];unfold UV.o2;rw[ha2];rfl)
 have HWB:Hid (wb=_):=hwb;have HWX:Hid (wx=_):=hwx;have HZX:Hid (wx.heap.size=_):=hzx;have HZB:Hid (wb.heap.size=_):=hzb;have hgub:gu<wb.heap.size:=by omega
 have hb0b:b0<=wb.heap.size:=by omega
 have L1:(0:Int)<=(A:Int):=by omega
 have L2:(A:Int)<(M.mem.length:Int):=by omega
 rw[hwx] at HKG HKS HOWN HNEWS HQ2 HF2 HFIN HQ1 HC2;clear h hub hux hbb bxx hwb hwx hzb hzx hc2 hl2 hn2 ha2 n2e th hl3 bx0;go_enter func182,ntmps182
 go_wp2_with fail
 rw[<- HWB.out];go_cut [2] (fun d wy=>d=.pointer (some ⟨w.heap.size,0,none⟩)/\∃g1 cap1 wn,wn.ownsRow b0 110 2 (.slice (some ⟨g1,0,none⟩) (M.pend.length+1) cap1) (M.pend.length+1) (AF AA M.pend++[.int .i64 A,.int .u64 wd])/\(wb.drew.alloc (.cells #[.int .i64 A,.int .u64 wd] 110)).grownBy wn u.o3/\(u.o3=some g1\/g1=wb.heap.size+1)/\wy=wn.setCell ⟨gu,2,none⟩ (.slice (some ⟨g1,0,none⟩) (M.pend.length+1) cap1))
 case first =>
  refine wp_region_held_drew (S:=(fun wX=>wX.cell? ⟨w.heap.size,1,none⟩=some (.int .i64 A)/\wX.cell? ⟨w.heap.size,3,none⟩=some (.int .u64 wd))) (by kernel_rfl) (HKB.out _ ((Below.refl _ _).drew)) (fun hHeld=>?_);refine tk 0 ?_;refine tk 1 ?_;refine tk 2 ?_;refine tk 3 ?_;refine tk 5 ?_;refine tk 6 ?_;refine tk 7 ?_;refine tk 8 ?_;refine tk 9 ?_;refine wpAnyH_ready (rs:=[4,10]) (by kernel_rfl) (by simp) ?_;refine AllReadyH.cons rfl (fun K hK=>?_) (AllReadyH.cons rfl (fun K hK=>?_) AllReadyH.nil)
  ·go_simp;refine hK.out _ _ (HKB.out _ ((Below.refl _ _).drew)) (fun hHeld2=>?_);clear hK K;refine wpAnyH_ready (rs:=[10]) (by kernel_rfl) (by simp) ?_;refine AllReadyH.cons rfl (fun K hK=>?_) AllReadyH.nil;go_simp;refine hK.out _ _ (HKB.out _ ((Below.refl _ _).drew.alloc (by simp) _)) (fun hHeld3=>?_);clear hK K;refine wpAnyH_ready (rs:=[11]) (by kernel_rfl) (by simp) ?_;refine AllReadyH.cons rfl (fun K hK=>?_) AllReadyH.nil;refine step_append_lies _ (by rfl) (.tmp 8) (.tmp 14) 32 (by rfl) b0 110 iE _ 2 16 underlying32 hiE hz0 hz1 hz2 rfl (by omega) _ _ _ (by rfl) HOWN.out ⟨wb.heap.size,0,none⟩ 1 1 [.int .i64 A,.int .u64 wd] (by rfl) rfl HNEWS.out (by intro v hv;simp at hv;rcases hv with rfl|rfl<;>rfl) (by omega) (by unfold maxLen;omega) (by omega) (by simp;omega) (wb.heap.size+1) (by simp) ?_;intro g1 cap1 wn hown hgrow hat hlt3;rw[AQ] at hgrow hat;refine hK.out _ _ (HKG.out wn hgrow) (fun hHeld4=>?_);clear hK K;have cq2:=(World.cell?_of_block (a:=⟨gu,2,none⟩) (hgrow.block gu (by simp;omega) (fun e=>HG3.out e.symm))).trans HQ2.out;have cf2:=(World.frozen?_of_block (a:=⟨gu,2,none⟩) (hgrow.block gu (by simp;omega) (fun e=>HG3.out e.symm))).trans HF2.out;refine tk 12 ?_;refine tk 13 ?_;refine wpAnyH_ready (rs:=[14]) (by kernel_rfl) (by simp) ?_;refine AllReadyH.cons rfl (fun K hK=>?_) AllReadyH.nil;go_simp;refine hK.out _ _ (HKS.out wn hgrow _) (fun hHeld5=>?_);clear hK K;refine wpAnyH_done (by kernel_rfl) ?_ _;(go_wp2_with fail);(go_meet);case rel=>exact⟨rfl,g1,cap1,wn,hown,hgrow,hat,rfl⟩
  ·go_simp;refine hK.out _ _ (HKB.out _ ((Below.refl _ _).drew.alloc (by simp) _)) (fun hHeld2=>?_);clear hK K;refine wpAnyH_ready (rs:=[4]) (by kernel_rfl) (by simp) ?_;refine AllReadyH.cons rfl (fun K hK=>?_) AllReadyH.nil;go_simp;refine hK.out _ _ (HKB.out _ ((Below.refl _ _).drew.alloc (by simp) _)) (fun hHeld3=>?_);clear hK K;refine wpAnyH_ready (rs:=[11]) (by kernel_rfl) (by simp) ?_;refine AllReadyH.cons rfl (fun K hK=>?_) AllReadyH.nil;refine step_append_lies _ (by rfl) (.tmp 8) (.tmp 14) 32 (by rfl) b0 110 iE _ 2 16 underlying32 hiE hz0 hz1 hz2 rfl (by omega) _ _ _ (by rfl) HOWN.out ⟨wb.heap.size,0,none⟩ 1 1 [.int .i64 A,.int .u64 wd] (by rfl) rfl HNEWS.out (by intro v hv;simp at hv;rcases hv with rfl|rfl<;>rfl) (by omega) (by unfold maxLen;omega) (by omega) (by simp;omega) (wb.heap.size+1) (by simp) ?_;intro g1 cap1 wn hown hgrow hat hlt3;rw[AQ] at hgrow hat;refine hK.out _ _ (HKG.out wn hgrow) (fun hHeld4=>?_);clear hK K;have cq2:=(World.cell?_of_block (a:=⟨gu,2,none⟩) (hgrow.block gu (by simp;omega) (fun e=>HG3.out e.symm))).trans HQ2.out;have cf2:=(World.frozen?_of_block (a:=⟨gu,2,none⟩) (hgrow.block gu (by simp;omega) (fun e=>HG3.out e.symm))).trans HF2.out;refine tk 12 ?_;refine tk 13 ?_;refine wpAnyH_ready (rs:=[14]) (by kernel_rfl) (by simp) ?_;refine AllReadyH.cons rfl (fun K hK=>?_) AllReadyH.nil;go_simp;refine hK.out _ _ (HKS.out wn hgrow _) (fun hHeld5=>?_);clear hK K;refine wpAnyH_done (by kernel_rfl) ?_ _;(go_wp2_with fail);(go_meet);case rel=>exact⟨rfl,g1,cap1,wn,hown,hgrow,hat,rfl⟩
 case rest =>
  obtain⟨wy,rfl⟩:∃wy:World,wy=wc:=⟨_,rfl⟩
  obtain⟨rfl,g1,cap1,wn,hown,hgrow,hat,hwy⟩:=hcut;have hfin:=HFIN.out g1 cap1 wn hown hgrow hat;have cq1:=HQ1.out wn hgrow;obtain⟨cc2,cf2⟩:=HC2.out wn hgrow;have hnl:=hgrow.size;simp at hnl;rw[<- hwy] at hfin;have y1:wy.cell? ⟨gu,1,none⟩=some (.slice (some ⟨g2,0,none⟩) M.mem.length u.c2):=by rw[hwy,World.cell?_setCell_other _ _ _ _ (by simp)];exact cq1
  have hk2:wy.heap[g2]?=wn.heap[g2]?:=by rw[hwy];exact Below.heap_setCell _ _ _ _ hg2ne
  have y2:=(World.cell?_of_block (a:=⟨g2,A,none⟩) hk2).trans cc2;have y3:=(World.frozen?_of_block (a:=⟨g2,A,none⟩) hk2).trans cf2;have yb:=HKS.out wn hgrow (.slice (some ⟨g1,0,none⟩) (M.pend.length+1) cap1);rw[<- hwy] at yb;have HY:Hid (∀wX:World,(∀k,k≠g2->wX.heap[k]?=wy.heap[k]?)->wX.cell? ⟨gu,1,none⟩=some (.slice (some ⟨g2,0,none⟩) M.mem.length u.c2)/\(wX.cell? ⟨w.heap.size,1,none⟩=some (.int .i64 A)/\wX.cell? ⟨w.heap.size,3,none⟩=some (.int .u64 wd))):=fun wX hX =>
   ⟨(World.cell?_of_block (hX gu (fun e=>hg2ne e.symm))).trans y1,(World.cell?_of_block (hX w.heap.size (by have:=HZB.out;omega))).trans yb.1,(World.cell?_of_block (hX w.heap.size (by have:=HZB.out;omega))).trans yb.2⟩
  have HFI:Hid _:=hfin;clear hown hgrow hat hfin cq1 cc2 cf2 hwy hk2 hnl;go_wp2_with fail
  refine wp_region_held_drew (S:=(fun wX=>wX.cell? ⟨gu,1,none⟩=some (.slice (some ⟨g2,0,none⟩) M.mem.length u.c2)/\(wX.cell? ⟨w.heap.size,1,none⟩=some (.int .i64 A)/\wX.cell? ⟨w.heap.size,3,none⟩=some (.int .u64 wd)))) (by kernel_rfl) (HY.out wy.drew (fun k hk=>rfl)) (fun hHeld=>?_);refine tk 0 ?_;refine tk 1 ?_;refine tk 2 ?_;refine tk 3 ?_;refine tk 4 ?_;refine tk 5 ?_;refine tk 6 ?_;refine tk 7 ?_;refine tk 8 ?_;refine tk 9 ?_;refine wpAnyH_ready (rs:=[10]) (by kernel_rfl) (by simp) ?_;refine AllReadyH.cons rfl (fun K hK=>?_) AllReadyH.nil;go_simp;refine hK.out _ _ (HY.out _ (fun k hk=>Below.heap_setCell _ _ _ _ hk)) (fun hHeld5=>?_);clear hK K;refine wpAnyH_done (by kernel_rfl) ?_ _;go_wp2_with fail
  refine bodyPost_end (v:=.tuple #[]) (by simp[results,results182,go_sem]) rfl ⟨rfl,⟨u.a1,u.c1,u.a2,u.n2,u.c2,some ⟨g1,0,none⟩,cap1,u.a4,u.c4,u.a5,u.c5⟩,?_⟩;exact⟨⟨HFI.out.um.lt,HFI.out.um.q0,HFI.out.um.q1,HFI.out.um.q2,HFI.out.um.q3,HFI.out.um.q4,HFI.out.um.f2,HFI.out.um.f3,HFI.out.um.f4,HFI.out.um.w,HFI.out.um.l,HFI.out.um.p,HFI.out.um.t,HFI.out.um.c,HFI.out.um.ap,HFI.out.um.o2⟩,⟨HFI.out.tch.os,HFI.out.tch.tape,HFI.out.tch.output,HFI.out.tch.size,HFI.out.tch.block⟩,HFI.out.old,HFI.out.th⟩
end Go.Proofs.YtnmhkgmmpkjjeabGreat
