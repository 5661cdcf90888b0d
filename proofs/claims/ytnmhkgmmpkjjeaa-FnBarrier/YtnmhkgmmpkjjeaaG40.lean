import Derived.Test.YtnmhkgmmpkjjeaaG32
import Derived.Test.YtnmhkgmmpkjjeaaG31
import Derived.Deep.DeepCutAuto
import Derived.Test.YtnmhkgmmpkjjeaaG39
import Derived.Test.YtnmhkgmmpkjjeaaG15
namespace Go.Proofs.Ytnmhkgmmpkjjeaa
open Go.ChangeShapes Go.WideShapes Go.ChangeAt Go.RowKit
set_option linter.unusedVariables false
attribute [local go_sem ↓] Go.wp_at_zero Go.wp_at_succ
theorem lateL_nil (zs:List Int) (a:List TlbE) (b:List WcE):lateL ⟨zs,[],a,b⟩=zs:=rfl
theorem UM.barrier {W W':World} {gu b0 B:Nat} {u:UV} {M:Mach} (h:UM W gu b0 B true u M) (th:UThree u) (hT:Touch (fun k=>k=gu\/u.o1=some k) W W')
  (c0:W'.cell? ⟨gu,0,none⟩=W.cell? ⟨gu,0,none⟩) (c1:W'.cell? ⟨gu,1,none⟩=W.cell? ⟨gu,1,none⟩) (c2:W'.cell? ⟨gu,2,none⟩=some (.slice none 0 0)) (c3:W'.cell? ⟨gu,3,none⟩=W.cell? ⟨gu,3,none⟩) (c4:W'.cell? ⟨gu,4,none⟩=W.cell? ⟨gu,4,none⟩)
  (fz:∀ i,W'.frozen? ⟨gu,i,none⟩=W.frozen? ⟨gu,i,none⟩) (hw:ERow eWord W' b0 (.slice u.a1 M.mem.length u.c1) (lateL M)) :
  UWide W W' gu b0 B u ⟨u.a1,u.c1,u.a2,u.n2,u.c2,none,0,u.a4,u.c4,u.a5,u.c5⟩ ⟨lateL M,[],M.tlb,M.wc⟩:=by
 have hll:=lateL_length M
 have hl:=h.l rfl
 refine ⟨⟨Nat.lt_of_lt_of_le h.lt hT.size,?_,c1.trans h.q1,c2,c3.trans h.q3,c4.trans h.q4,(fz 2).trans h.f2,(fz 3).trans h.f3,(fz 4).trans h.f4,?_,fun _=>⟨hl.1.trans hll.symm,?_⟩,⟨by simp [ecells],.inl ⟨rfl,rfl⟩⟩,?_,?_,?_,fun k hk=>Nat.lt_of_lt_of_le (h.o2 k hk) hT.size⟩,?_,fun k hk=>?_,?_⟩
 ·show W'.cell? ⟨gu,0,none⟩=some (.slice u.a1 (lateL M).length u.c1)
  rw [hll]
  exact c0.trans h.q0
 ·show ERow eWord W' b0 (.slice u.a1 (lateL M).length u.c1) (lateL M)
  rw [hll]
  exact hw
 ·rw [lateL_nil]
  exact hl.2.touchA hT (fun k hk hx=>hx.elim (fun e=>h.ap.g2 (e ▸ hk)) (fun e=>th.a12 k e hk))
 ·exact h.t.touchA hT (fun k hk hx=>hx.elim (fun e=>h.ap.g4 (e ▸ hk)) (fun e=>h.ap.t1 k hk e))
 ·exact h.c.touchA hT (fun k hk hx=>hx.elim (fun e=>h.ap.g5 (e ▸ hk)) (fun e=>h.ap.w1 k hk e))
 ·exact ⟨h.ap.g1,h.ap.g2,fun e=>(by cases e),h.ap.g4,h.ap.g5,h.ap.t1,h.ap.t2,fun k _ e=>(by cases e),h.ap.t5,h.ap.w1,h.ap.w2,fun k _ e=>(by cases e)⟩
 ·exact ⟨hT.os,hT.tape,hT.output,hT.size,fun k hk hn=>hT.block k hk (fun hx=>hn (hx.elim .inl (fun e=>.inr (.inl e))))⟩
 ·rcases hk with e | e | e | e | e | e
  ·exact .inl (.inl e)
  ·exact .inl (.inr (.inl e))
  ·exact .inl (.inr (.inr (.inl e)))
  ·cases e
  ·exact .inl (.inr (.inr (.inr (.inr (.inl e)))))
  ·exact .inl (.inr (.inr (.inr (.inr (.inr e)))))
 ·exact ⟨fun k _ e=>(by cases e),th.a12,fun k _ e=>(by cases e)⟩
def cw (zs:List Int):List Value:=zs.map (fun x=>.int .u64 x)
theorem cw_one (zs:List Int):∀ v ∈ cw zs,v.oneCell'=true:=by
 intro v hv
 unfold cw at hv
 rw [List.mem_map] at hv
 obtain ⟨x,_,rfl⟩:=hv
 rfl
theorem cw_at (zs:List Int) (j:Nat) (hj:j < zs.length):(cw zs)[j]?=some (.int .u64 (zs.getD j 0)):=by
 unfold cw
 rw [List.getElem?_map,List.getElem?_eq_getElem hj,List.getD_eq_getElem?_getD,List.getElem?_eq_getElem hj]
 rfl
set_option maxRecDepth 100000 in
set_option maxHeartbeats 4000000 in
theorem barApply_any (gu b0 B:Nat) (u:UV) (M:Mach) (K0 A0 B0 W0:Int) (w:World) (hok:WOk M) (th:UThree u) (h:UM w gu b0 B true u M) :
  Calls Try.prog 229 #[.agg #[.int .i64 K0,.int .i64 A0,.int .i64 B0,.int .u64 W0],.pointer (some ⟨gu,0,none⟩)] w fun e w'=>e=.returned (.tuple #[])/\∃ u',UWide w w' gu b0 B u u' ⟨lateL M,[],M.tlb.filter (fun e=>!e.doom),M.wc.filter (fun e=>!e.doom)⟩:=by
 have hmm:=nfr_mul M.mem.length hok.n0
 have hml:=nfr_le M.mem.length
 have hm0:0 < M.mem.length:=by omega
 have hll:=lateL_length M
 obtain ⟨wb,hwb⟩:∃ wb,wb=w.alloc (.cells #[.int .i64 K0,.int .i64 A0,.int .i64 B0,.int .u64 W0] 230):=⟨_,rfl⟩
 have hbb:Below w.heap.size w wb:=by rw [hwb]; exact (Below.refl _ _).alloc (Nat.le_refl _) _
 have hub:=h.below hbb
 obtain ⟨g1,ha1,hc1,hl1,hbg1⟩:=eWord_c hub.w hm0
 obtain ⟨g2,ha2,hn2,hc2,hl2,hbg2⟩:=hub.lat hm0
 have o1g:u.o1=some g1:=by unfold UV.o1; rw [ha1]; rfl
 have o2g:u.o2=some g2:=by unfold UV.o2; rw [ha2]; rfl
 have hg1u:¬ gu=g1:=fun e=>hub.ap.g1 (by rw [e]; exact o1g)
 have h12:¬ g1=g2:=fun e=>th.a12 g1 o1g (by rw [e]; exact o2g)
 have hrow1:ERow eWord wb b0 (.slice (some ⟨g1,0,none⟩) M.mem.length u.c1) M.mem:=by rw [<- ha1]; exact hub.w
 obtain ⟨hB1,hlc1,hmx1,f1,hr1,hf1⟩:=hrow1.full
 have hr1d:wb.drew.rowIs g1 eWord.T (u.c1 * 1) f1:=hr1.drew
 have hcw:(cw (lateL M)).length=M.mem.length:=by unfold cw; rw [List.length_map,hll]
 obtain ⟨w1,hw1⟩:∃ w1,w1=wb.drew.setCells g1 0 (cw (lateL M)):=⟨_,rfl⟩
 have hcopy:∀ ty,(Builtin.copy_ #[23,23] ty #[.slice (some ⟨g1,0,none⟩) M.mem.length u.c1,.slice (some ⟨g2,0,none⟩) M.mem.length u.c2]).run Try.prog wb.drew=.ok (goInt M.mem.length) w1:=fun ty=>by
  have hk:=run_copy_cells (P:=Try.prog) wb.drew 23 23 ty 61 g1 0 M.mem.length u.c1 ⟨g2,0,none⟩ M.mem.length u.c2 (cw (lateL M)) Try.underlying23 (by kernel_rfl) (by rw [hcw]; simp)
   (fun j v hv=>by
    have hj:j < (lateL M).length:=by
     have:=(List.getElem?_eq_some_iff.1 hv).1
     rw [hcw] at this; omega
    rw [cw_at _ j hj] at hv
    rw [addr_add]
    rw [<- hv]
    exact hc2.cells j hj)
   (fun j hj=>by
    rw [hcw] at hj
    rw [hr1d.cell (i:=0+j) (by omega)]; rfl) (fun j hj=>hr1d.frozen _) (cw_one _)
  rw [hcw] at hk
  rw [hw1]
  exact hk
 have hg1r:wb.grownBy w1 (some g1):=by
  rw [hw1]
  have h:=grown_setCells g1 (cw (lateL M)) 0 wb.drew
  exact ⟨h.os,h.tape,h.output,h.size,h.block⟩
 have hrow2:ERow eWord w1 b0 (.slice u.a1 M.mem.length u.c1) (lateL M):=by
  rw [ha1]
  have hrs:=rowIs_setCells (cw (lateL M)) 0 wb.drew f1 hr1d
  rw [<- hw1] at hrs
  refine ERow.of_row (N:=u.c1 * 1) hll hB1 hrs rfl hlc1 hmx1 (fun i hi j hj=>?_)
  have hj0:j=0:=by have:j < 1:=hj; omega
  subst hj0
  have e1:i * eWord.sz+0=i:=by show i * 1+0=i; omega
  rw [e1,if_pos (by rw [hcw]; omega),List.getD_eq_getElem?_getD,show i - 0=i by omega,cw_at _ i (by omega)]
  rfl
 have hbk:w1.heap[gu]?=wb.heap[gu]?:=hg1r.block gu hub.lt (fun e=>hg1u (by simpa using e))
 obtain ⟨w2,hw2⟩:∃ w2,w2=w1.setCell ⟨gu,2,none⟩ (.slice none 0 0):=⟨_,rfl⟩
 have cell1:∀ i,w1.cell? ⟨gu,i,none⟩=wb.cell? ⟨gu,i,none⟩:=fun i=>World.cell?_of_block hbk
 have cell2:∀ i,i ≠ 2->w2.cell? ⟨gu,i,none⟩=wb.cell? ⟨gu,i,none⟩:=fun i hi=>by
  rw [hw2,World.cell?_setCell_other _ _ _ _ (by intro e; injection e with _ e; exact hi e.symm)]
  exact cell1 i
 have hWB:UWide wb w2 gu b0 B u ⟨u.a1,u.c1,u.a2,u.n2,u.c2,none,0,u.a4,u.c4,u.a5,u.c5⟩ ⟨lateL M,[],M.tlb,M.wc⟩:=by
  refine hub.barrier th ?_ (cell2 0 (by omega)) (cell2 1 (by omega)) ?_ (cell2 3 (by omega)) (cell2 4 (by omega)) ?_ ?_
  ·rw [hw2]
   exact ⟨hg1r.os,hg1r.tape,hg1r.output,by simpa using hg1r.size,fun k hk hn=>(Below.heap_setCell _ _ _ _ (fun e=>hn (.inl e))).trans (hg1r.block k hk (fun e=>hn (.inr (by rw [o1g]; exact e.symm))))⟩
  ·rw [hw2]
   exact World.cell?_setCell_same _ _ _ ((cell1 2).trans hub.q2)
  ·intro i
   rw [hw2,World.frozen?_setCell]
   exact World.frozen?_of_block (a:=⟨gu,i,none⟩) hbk
  ·rw [hw2]
   exact hrow2.touchA (S:=fun k=>k=gu) ⟨rfl,rfl,rfl,by simp,fun k hk hn=>Below.heap_setCell _ _ _ _ hn⟩ (fun k hk e=>hub.ap.g1 (by rw [<- e]; exact hk))
 have hdT:=delFT_any u.a4 u.c4 B M.tlb w2 hok.t hWB.um.t
 have q3:w1.cell? ⟨gu,3,none⟩=some (.slice u.a4 M.tlb.length u.c4):=(cell1 3).trans hub.q3
 have q2:w1.cell? ⟨gu,2,none⟩=some (.slice u.a3 M.pend.length u.c3):=(cell1 2).trans hub.q2
 have f2:w1.frozen? ⟨gu,2,none⟩=false:=(World.frozen?_of_block (a:=⟨gu,2,none⟩) hbk).trans hub.f2
 have HSB:Hid (wb.drew.cell? ⟨gu,0,none⟩=some (.slice (some ⟨g1,0,none⟩) M.mem.length u.c1)/\wb.drew.cell? ⟨gu,1,none⟩=some (.slice (some ⟨g2,0,none⟩) M.mem.length u.c2)):=⟨by rw [<- ha1]; exact hub.q0,by rw [<- ha2,<- show u.n2=M.mem.length from (hub.l rfl).1]; exact hub.q1⟩
 have HS1:Hid (w1.cell? ⟨gu,0,none⟩=some (.slice (some ⟨g1,0,none⟩) M.mem.length u.c1)/\w1.cell? ⟨gu,1,none⟩=some (.slice (some ⟨g2,0,none⟩) M.mem.length u.c2)):=⟨(cell1 0).trans HSB.out.1,(cell1 1).trans HSB.out.2⟩
 have HWB:Hid (wb=_):=hwb
 have HW1:Hid (w1=_):=hw1
 have HW2:Hid (w2=_):=hw2
 have HUW:Hid _:=hWB
 have HW0:Hid (UWide w wb gu b0 B u u M):=UWide.refl h th hbb
 have hwcl:=hok.c
 rw [hw2] at hdT
 have hgul:gu < w1.heap.size:=Nat.lt_of_lt_of_le hub.lt hg1r.size
 clear h hub hbb hwb hw1 hw2 hc1 hc2 hr1 hf1 hr1d hrow1 hrow2 hg1r hbk cell1 cell2 hWB ha1 ha2 hn2 th o1g o2g hcw hll
 go_enter Try.func229,Try.ntmps229
 go_wp2_with fail
 rw [<- HWB.out]
 refine wp_region_held_drew (S:=(fun wX=>wX.cell? ⟨gu,0,none⟩=some (.slice (some ⟨g1,0,none⟩) M.mem.length u.c1)/\wX.cell? ⟨gu,1,none⟩=some (.slice (some ⟨g2,0,none⟩) M.mem.length u.c2))) (by kernel_rfl) HSB.out (fun hHeld=>?_)
 refine tk 0 ?_
 refine tk 1 ?_
 refine tk 2 ?_
 refine tk 3 ?_
 refine tk 4 ?_
 refine tk 5 ?_
 refine tk 6 ?_
 refine tk 7 ?_
 refine tk 8 ?_
 refine tk 9 ?_
 refine wpAnyH_ready (rs:=[10]) (by kernel_rfl) (by simp) ?_
 refine AllReadyH.cons rfl (fun K hK=>?_) AllReadyH.nil
 go_simp
 refine hK.out _ _ HS1.out (fun hHeld5=>?_)
 clear hK K
 refine wpAnyH_done (by kernel_rfl) ?_ _
 clear hHeld hHeld5 hcopy
 go_wp2_with fail
 refine hdT.mono ?_
 rintro e w3 ⟨rfl,hr3,hg3⟩
 rw [<- HW2.out] at hg3
 have hu2:=HUW.out.um
 have hk3:=hg3.block gu hu2.lt (fun e=>hu2.ap.g4 e.symm)
 have s3:w3.cell? ⟨gu,3,none⟩=some (.slice u.a4 M.tlb.length u.c4):=(World.cell?_of_block (a:=⟨gu,3,none⟩) hk3).trans hu2.q3
 have z3:w3.frozen? ⟨gu,3,none⟩=false:=(World.frozen?_of_block (a:=⟨gu,3,none⟩) hk3).trans hu2.f3
 have s4:w3.cell? ⟨gu,4,none⟩=some (.slice u.a5 M.wc.length u.c5):=(World.cell?_of_block (a:=⟨gu,4,none⟩) hk3).trans hu2.q4
 have st3:=hu2.newTlb hg3 u.a4 u.c4 _ hr3 (fun k hk=>.inl hk)
 obtain ⟨w4,hw4⟩:∃ w4,w4=w3.setCell ⟨gu,3,none⟩ (.slice u.a4 (M.tlb.filter (fun e=>!e.doom)).length u.c4):=⟨_,rfl⟩
 rw [<- hw4] at st3
 have hdW:=delFW_any u.a5 u.c5 B M.wc w4 hwcl st3.um.c
 rw [hw4] at hdW
 have HST3:Hid _:=st3
 have HW4:Hid (w4=_):=hw4
 clear hdT hr3 hg3 hu2 hk3 st3 hw4
 go_wp2_with fail
 refine hdW.mono ?_
 rintro e w5 ⟨rfl,hr5,hg5⟩
 rw [<- HW4.out] at hg5
 have hu4:=HST3.out.um
 have hk5:=hg5.block gu hu4.lt (fun e=>hu4.ap.g5 e.symm)
 have s5:w5.cell? ⟨gu,4,none⟩=some (.slice u.a5 M.wc.length u.c5):=(World.cell?_of_block (a:=⟨gu,4,none⟩) hk5).trans hu4.q4
 have z5:w5.frozen? ⟨gu,4,none⟩=false:=(World.frozen?_of_block (a:=⟨gu,4,none⟩) hk5).trans hu4.f4
 have st5:=hu4.newWc hg5 u.a5 u.c5 _ hr5 (fun k hk=>.inl hk)
 have HALL:Hid _:=((HW0.out.trans HUW.out).trans (HST3.out.wide HUW.out.th))
 have hfin:=HALL.out.trans (st5.wide HALL.out.th)
 have HFIN:Hid _:=hfin
 clear hdW hr5 hg5 hu4 hk5 st5 hfin
 go_wp2_with fail
 exact bodyPost_end (v:=.tuple #[]) (by simp [results,Try.results229,go_sem]) rfl ⟨rfl,_,HFIN.out⟩
end Go.Proofs.Ytnmhkgmmpkjjeaa
namespace Go.Proofs.Ytnmhkgmmpkjjeaa
open Go.ChangeShapes Go.WideShapes Go.ChangeAt Go.RowKit
set_option linter.unusedVariables false
theorem MOk.ins {M:Mach} (h:MOk M):(∀ e ∈ M.pend,okWrite e)/\(∀ e ∈ M.tlb,okTlb e)/\∀ e ∈ M.wc,okWc e :=
 ⟨fun e he=>by obtain ⟨i,hi,rfl⟩:=in_eAt eWrite he; exact h.pend i hi,fun e he=>by obtain ⟨i,hi,rfl⟩:=in_eAt eTlb he; exact h.tlb i hi,fun e he=>by obtain ⟨i,hi,rfl⟩:=in_eAt eWc he; exact h.wc i hi⟩
theorem MOk.mk' {M:Mach} (hs:M.Small) (hw:∀ i,0<=M.mem.getD i 0/\M.mem.getD i 0 < 2 ^ 64) (hp:∀ e ∈ M.pend,okWrite e) (ht:∀ e ∈ M.tlb,okTlb e) (hc:∀ e ∈ M.wc,okWc e):MOk M:=by
 have h1:=hs.w
 have h2:=hs.p
 have h3:=hs.t
 have h4:=hs.c
 exact ⟨by omega,by omega,by omega,by omega,hw,fun i hi=>hp _ (eAt_in eWrite hi),fun i hi=>ht _ (eAt_in eTlb hi),fun i hi=>hc _ (eAt_in eWc hi)⟩
theorem fillT_mem (xs:List TlbE) (hx:∀ e ∈ xs,okTlb e):∀ k,xs.length+k<=1000000->∀ e ∈ fillT xs k,okTlb e
 | 0,_,e,he=>hx e he
 | k+1,hk,e,he=>by
  unfold fillT at he
  rcases List.mem_append.1 he with he | he
  ·exact fillT_mem xs hx k (by omega) e he
  ·rw [List.mem_singleton.1 he]
   have:=fillT_len xs k
   exact ⟨wf_i64 (by dsimp only; omega) (by dsimp only; omega),wf_i64 (by dsimp only; omega) (by dsimp only; omega),wf_i64 (by dsimp only; omega) (by dsimp only; omega),wf_i64 (by dsimp only; omega) (by dsimp only; omega)⟩
theorem fillW_mem (xs:List WcE) (hx:∀ e ∈ xs,okWc e):∀ k,∀ e ∈ fillW xs k,okWc e
 | 0,e,he=>hx e he
 | k+1,e,he=>by
  unfold fillW at he
  rcases List.mem_append.1 he with he | he
  ·exact fillW_mem xs hx k e he
  ·rw [List.mem_singleton.1 he]
   exact ⟨wf_i64 (by dsimp only; omega) (by dsimp only; omega),wf_i64 (by dsimp only; omega) (by dsimp only; omega),wf_i64 (by dsimp only; omega) (by dsimp only; omega)⟩
theorem spoilM_ok {M:Mach} (a b:Int) (h:MOk M) (hw:M.mem.length<=100000) (hp:M.pend.length<=10000) (ht:M.tlb.length<=256) (hc:M.wc.length<=256) (hb0:0<=b) (hb1:b < 200):MOk (spoilM M a b)/\(spoilM M a b).Small/\(spoilM M a b).mem=M.mem:=by
 obtain ⟨i1,i2,i3⟩:=h.ins
 have sn:∀ {α:Type} {P:α->Prop} {xs:List α} {y:α},(∀ e ∈ xs,P e)->P y->∀ e ∈ xs ++ [y],P e:=fun h1 h2 e he=>by
  rcases List.mem_append.1 he with he | he
  ·exact h1 e he
  ·rw [List.mem_singleton.1 he]; exact h2
 have w2:∀ {x:Int},-1000000<=x->x<=1000000->(Lit.int .i64 x).wf=true:=fun h1 h2=>wf_i64 (by omega) (by omega)
 have key:(spoilM M a b).mem=M.mem/\((spoilM M a b).pend.length<=100000/\(spoilM M a b).tlb.length<=100000/\(spoilM M a b).wc.length<=100000)/\(∀ e ∈ (spoilM M a b).pend,okWrite e)/\(∀ e ∈ (spoilM M a b).tlb,okTlb e)/\∀ e ∈ (spoilM M a b).wc,okWc e:=by
  unfold spoilM
  split
  ·exact ⟨rfl,by simp; omega,sn i1 ⟨w2 (by dsimp only; omega) (by dsimp only; omega),wf_u64 (by dsimp only; omega) (by dsimp only; omega)⟩,i2,i3⟩
  ·split
   ·exact ⟨rfl,by simp; omega,i1,sn i2 ⟨w2 (by dsimp only; omega) (by dsimp only; omega),w2 (by dsimp only; omega) (by dsimp only; omega),w2 (by dsimp only; omega) (by dsimp only; omega),w2 (by dsimp only; omega) (by dsimp only; omega)⟩,i3⟩
   ·split
    ·exact ⟨rfl,by simp; omega,i1,sn i2 ⟨w2 (by dsimp only; omega) (by dsimp only; omega),w2 (by dsimp only; omega) (by dsimp only; omega),w2 (by dsimp only; omega) (by dsimp only; omega),w2 (by dsimp only; omega) (by dsimp only; omega)⟩,i3⟩
    ·split
     ·exact ⟨rfl,by simp; omega,i1,i2,sn i3 ⟨w2 (by dsimp only; omega) (by dsimp only; omega),w2 (by dsimp only; omega) (by dsimp only; omega),w2 (by dsimp only; omega) (by dsimp only; omega)⟩⟩
     ·split
      ·exact ⟨rfl,by simp; omega,i1,i2,sn i3 ⟨w2 (by dsimp only; omega) (by dsimp only; omega),w2 (by dsimp only; omega) (by dsimp only; omega),w2 (by dsimp only; omega) (by dsimp only; omega)⟩⟩
      ·split
       ·have hk:(256+b % 2 - (M.tlb.length:Int)).toNat<=300:=by omega
        generalize (256+b % 2 - (M.tlb.length:Int)).toNat=k at hk
        exact ⟨rfl,⟨by show M.pend.length<=100000; omega,by show (fillT M.tlb k).length<=100000; rw [fillT_len]; omega,by show M.wc.length<=100000; omega⟩,i1,fillT_mem _ i2 k (by omega),i3⟩
       ·split
        ·have hk:(256+b % 2 - (M.wc.length:Int)).toNat<=300:=by omega
         generalize (256+b % 2 - (M.wc.length:Int)).toNat=k at hk
         exact ⟨rfl,⟨by show M.pend.length<=100000; omega,by show M.tlb.length<=100000; omega,by show (fillW M.wc k).length<=100000; rw [fillW_len]; omega⟩,i1,i2,fillW_mem _ i3 k⟩
        ·split
         ·exact ⟨rfl,by omega,i1,i2,i3⟩
         ·rename_i hz
          have hi:(b % (M.tlb.length:Int)).toNat < M.tlb.length:=by
           have h1:=Int.emod_lt_of_pos b (show (0:Int) < (M.tlb.length:Int) by omega)
           have h2:=Int.emod_nonneg b (show (M.tlb.length:Int) ≠ 0 by omega)
           omega
          obtain ⟨o1,o2,o3,o4⟩:=i2 _ (eAt_in eTlb hi)
          exact ⟨rfl,by simp; omega,i1,sn i2 ⟨o1,w2 (by unfold spE; dsimp only; omega) (by unfold spE; dsimp only; omega),w2 (by unfold spE; dsimp only; omega) (by unfold spE; dsimp only; omega),o4⟩,i3⟩
 obtain ⟨k1,k2,k3,k4,k5⟩:=key
 have hs:(spoilM M a b).Small:=⟨by rw [k1]; omega,by omega,by omega,by omega⟩
 exact ⟨MOk.mk' hs (by rw [k1]; exact h.word) k3 k4 k5,hs,k1⟩
def stA (cs:List Int):Mach:=if tkV cs 0 12=11 then spoilM (drawMa cs 1).1 (tkV cs (drawMa cs 1).2 10) (tkV cs ((drawMa cs 1).2+1) 200) else (drawMa cs 1).1
def stAd (z:Nat) (M:Mach):Int:=addrD M.mem (eAt eTlb M.tlb (z % M.tlb.length)).page
def stB (how:Int) (ad:Int) (M:Mach):Mach :=
 if (stepR M ⟨1,ad,0,0⟩).2=0 then
  if how=10 then (stepR (stepR (stepR (stepR M ⟨1,ad,0,0⟩).1 ⟨2,0,0,0⟩).1 ⟨3,0,4096,0⟩).1 ⟨2,0,0,0⟩).1
  else (stepR (stepR M ⟨1,ad,0,0⟩).1 ⟨2,0,0,0⟩).1
 else M
def drawSt (cs:List Int):Mach :=
 if nfr (stA cs).mem.length=0 then stA cs
 else if 7<=tkV cs 0 12/\tkV cs 0 12<=10/\0 < (stA cs).tlb.length then stB (tkV cs 0 12) (stAd ((drawMa cs 1).2+5) (stA cs)) (stA cs)
 else stA cs
theorem okDraw (cs:List Int) (hc:Byt cs):MOk (drawMa cs 1).1/\(drawMa cs 1).1.mem.length<=1000/\(drawMa cs 1).1.pend.length<=10000/\(drawMa cs 1).1.tlb.length<=256/\(drawMa cs 1).1.wc.length<=256/\(drawMa cs 1).2<=501/\∀ e ∈ (drawMa cs 1).1.tlb,tlbOkB e=true:=by
 obtain ⟨h1,h2,h3,h4⟩:=drawMa_ok cs 1 hc (by omega)
 obtain ⟨g1,g2,g3⟩:=drawM_ok cs 1 hc (by omega)
 have hl:(drawMa cs 1).1.mem.length<=1000:=by rw [h2]; omega
 by_cases hn:nfr (drawMa cs 1).1.mem.length=0
 ·have e:=h3 hn
  have hs:(drawMa cs 1).1.Small:=⟨by omega,by rw [e]; simp,by rw [e]; simp,by rw [e]; simp⟩
  refine ⟨MOk.mk' hs (by rw [h2]; exact g1) ?_ ?_ ?_,hl,?_,?_,?_,h4,?_⟩ <;> (rw [e]; simp)
 ·have hv:=h1 hn
  exact ⟨hv.mok,hl,hv.p,hv.t,hv.c,h4,hv.tlb⟩
theorem stA_ok (cs:List Int) (hc:Byt cs):MOk (stA cs)/\(stA cs).Small/\(tkV cs 0 12 ≠ 11->nfr (stA cs).mem.length ≠ 0->VM (stA cs)):=by
 obtain ⟨h1,h2,h3,h4,h5,h6,_⟩:=okDraw cs hc
 unfold stA
 split
 ·rename_i e
  have hb:=tkV_bd cs ((drawMa cs 1).2+1) 200 (by omega) hc (by omega)
  obtain ⟨k1,k2,k3⟩:=spoilM_ok (tkV cs (drawMa cs 1).2 10) (tkV cs ((drawMa cs 1).2+1) 200) h1 (by omega) h3 h4 h5 hb.1 hb.2
  exact ⟨k1,k2,fun h'=>absurd e h'⟩
 ·exact ⟨h1,⟨by omega,by omega,by omega,by omega⟩,fun _ hn=>(drawMa_ok cs 1 hc (by omega)).1 hn⟩
theorem opok0 (k a b:Int) (hk:0<=k/\k<=4) (ha:0<=a/\a<=1000000) (hb:0<=b/\b<=1000000):OpOk ⟨k,a,b,0⟩:=⟨by dsimp only; omega,by dsimp only; omega,by dsimp only; omega,by dsimp only; omega⟩
theorem stepR_vm {M:Mach} (h:VM M) (o:OpE) (ho:OpOk o):VM (stepR M o).1:=by
 unfold stepR
 rw [if_pos h.valid]
 exact opM_vm h o ho
theorem stAd_bd {M:Mach} (h:VM M) (z:Nat) (ht:0 < M.tlb.length):(0<=(eAt eTlb M.tlb (z % M.tlb.length)).page/\(eAt eTlb M.tlb (z % M.tlb.length)).page < 4096)/\0<=stAd z M/\stAd z M < M.mem.length/\stAd z M<=1000000:=by
 have hi:z % M.tlb.length < M.tlb.length:=Nat.mod_lt _ ht
 have:=h.tlb _ (eAt_in eTlb hi)
 simp only [tlbOkB,pageOk,Bool.and_eq_true,Bool.or_eq_true,decide_eq_true_eq] at this
 have hp:0<=(eAt eTlb M.tlb (z % M.tlb.length)).page/\(eAt eTlb M.tlb (z % M.tlb.length)).page < 4096:=by omega
 have hb:=addrD_bd M.mem _ hp.1 hp.2 h.n0
 have l1:=nfr_mul M.mem.length h.n0
 have l2:=nfr_le M.mem.length
 refine ⟨hp,hb.1,hb.2,?_⟩
 have:stAd z M < M.mem.length:=hb.2
 omega
theorem drawSt_ok (cs:List Int) (hc:Byt cs):MOk (drawSt cs)/\(drawSt cs).Small:=by
 obtain ⟨h1,h2,h3⟩:=stA_ok cs hc
 unfold drawSt
 split
 ·exact ⟨h1,h2⟩
 ·rename_i hn
  split
  ·rename_i hh
   have hv:=h3 (by omega) hn
   have hb:=stAd_bd hv ((drawMa cs 1).2+5) hh.2.2
   have hv2:=stepR_vm hv ⟨1,stAd ((drawMa cs 1).2+5) (stA cs),0,0⟩ (opok0 _ _ _ (by omega) (by omega) (by omega))
   have hv3:=stepR_vm hv2 ⟨2,0,0,0⟩ (opok0 _ _ _ (by omega) (by omega) (by omega))
   have hv4:=stepR_vm (stepR_vm hv3 ⟨3,0,4096,0⟩ (opok0 _ _ _ (by omega) (by omega) (by omega))) ⟨2,0,0,0⟩ (opok0 _ _ _ (by omega) (by omega) (by omega))
   unfold stB
   split
   ·split
    ·exact ⟨hv4.mok,hv4.small⟩
    ·exact ⟨hv3.mok,hv3.small⟩
   ·exact ⟨h1,h2⟩
  ·exact ⟨h1,h2⟩
def dsbM (M:Mach):Mach:=⟨lateL M,[],M.tlb.filter (fun e=>!e.doom),M.wc.filter (fun e=>!e.doom)⟩
theorem dsb_step {M:Mach} (h:VM M):stepR M ⟨2,0,0,0⟩=(dsbM M,0):=by
 unfold stepR
 rw [if_pos h.valid]
 unfold opM
 have:opB M ⟨2,0,0,0⟩=true:=by unfold opB; simp
 rw [this]
 rfl
theorem dsb_vm {M:Mach} (h:VM M):VM (dsbM M):=by
 have:=stepR_vm h ⟨2,0,0,0⟩ (opok0 _ _ _ (by omega) (by omega) (by omega))
 rw [dsb_step h] at this
 exact this
theorem dsb_twice (M:Mach):dsbM (dsbM M)=dsbM M:=by
 unfold dsbM
 rw [lateL_nil]
 simp [List.filter_filter]
theorem dsb_doom (M:Mach):(∀ e ∈ (dsbM M).tlb,e.doom=false)/\∀ e ∈ (dsbM M).wc,e.doom=false :=
 ⟨fun e he=>by have:=(List.mem_filter.1 he).2; simpa using this,fun e he=>by have:=(List.mem_filter.1 he).2; simpa using this⟩
theorem step_code {M:Mach} (o:OpE) (hk:MOk M):((stepR M o).2=9->(stepR M o).1=zM)/\((stepR M o).2 ≠ 9->(stepR M o).2 ≠ 0->(stepR M o).1=M)/\((stepR M o).2=0->VM M/\stepR M o=opM M o):=by
 unfold stepR
 by_cases hv:validB M=true
 ·rw [if_pos hv]
  have hc:(opM M o).2 ≠ 9:=by
   unfold opM
   split
   ·dsimp only; omega
   ·split
    ·dsimp only
     unfold wrCode
     repeat' split
     all_goals omega
    ·split
     ·dsimp only; omega
     ·split
      ·dsimp only; omega
      ·dsimp only; split <;> omega
  refine ⟨fun h=>absurd h hc,fun _ h0=>?_,fun _=>⟨VM.of hk hv,rfl⟩⟩
  unfold opM at h0 ⊢
  split
  ·rfl
  ·rename_i hb
   rw [if_neg hb] at h0
   split
   ·rename_i h1
    rw [if_pos h1] at h0
    dsimp only at h0 ⊢
    rw [if_neg h0]
   ·rename_i h1
    rw [if_neg h1] at h0
    split
    ·rename_i h2
     rw [if_pos h2] at h0
     exact absurd rfl h0
    ·rename_i h2
     rw [if_neg h2] at h0
     split
     ·rename_i h3
      rw [if_pos h3] at h0
      exact absurd rfl h0
     ·rfl
 ·rw [if_neg hv]
  exact ⟨fun _=>rfl,fun h=>absurd rfl h,fun h=>by cases h⟩
theorem dsb_tlbi {M:Mach} {o:OpE} (h0:(opM M o).2=0) (h3:o.kind=3):(0<=o.a/\o.a < 4096/\1<=o.b/\o.a+o.b<=4096)/\(∀ e ∈ (dsbM (opM M o).1).tlb,meets e.page e.size o.a o.b=false)/\∀ e ∈ (dsbM (opM M o).1).wc,meets e.page (16 * cov e.level) o.a o.b=false:=by
 unfold opM at h0 ⊢
 by_cases hb:opB M o=false
 ·rw [if_pos hb] at h0
  cases h0
 ·rw [if_neg hb,if_neg (by omega),if_neg (by omega),if_pos h3]
  unfold opB at hb
  rw [if_neg (by omega),if_neg (by omega),if_pos h3] at hb
  have hb2:0<=o.a/\o.a < 4096/\1<=o.b/\o.a+o.b<=4096/\o.word=0:=by simpa using hb
  refine ⟨⟨hb2.1,hb2.2.1,hb2.2.2.1,hb2.2.2.2.1⟩,fun e he=>?_,fun e he=>?_⟩
  ·obtain ⟨h1,h2⟩:=List.mem_filter.1 he
   obtain ⟨x,hx,rfl⟩:=List.mem_map.1 h1
   simp only [doomT,Bool.not_or,Bool.and_eq_true] at h2
   simpa [doomT] using h2.2
  ·obtain ⟨h1,h2⟩:=List.mem_filter.1 he
   obtain ⟨x,hx,rfl⟩:=List.mem_map.1 h1
   simp only [doomW,Bool.not_or,Bool.and_eq_true] at h2
   simpa [doomW] using h2.2
end Go.Proofs.Ytnmhkgmmpkjjeaa
