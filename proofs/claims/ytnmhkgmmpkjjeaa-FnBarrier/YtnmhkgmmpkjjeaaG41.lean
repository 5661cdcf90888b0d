import Derived.Test.YtnmhkgmmpkjjeaaG34
namespace Go.Proofs.Ytnmhkgmmpkjjeaa
open Go.ChangeShapes Go.WideShapes Go.ChangeAt Go.RowKit
set_option linter.unusedVariables false
attribute [local go_sem ↓] Go.wp_at_zero Go.wp_at_succ
def codeTo (M:Mach) (a:Int) (k:Nat):Int:=if oldW M a % 2=0/\anyR (plcC M (plist (lateL M)) (a / 16) (a % 16)) k=true then 3 else 0
theorem codeTo_end {M:Mach} {o:OpE} (hw:¬ o.word % 2=0) (h:oldW M o.a % 2=1->oldW M o.a ≠ o.word->∀ j,j < (plist (lateL M)).length->¬ (pAt (plist (lateL M)) j).fr=o.a / 16):wrCode M o=codeTo M o.a (plist (lateL M)).length:=by
 unfold wrCode codeTo
 rw [if_neg hw]
 by_cases hx:oldW M o.a % 2=1
 ·rw [if_pos hx,if_neg (fun hh=>by omega:¬ (oldW M o.a % 2=0/\_))]
  by_cases he:oldW M o.a ≠ o.word
  ·have:plcHas (plist (lateL M)) (o.a / 16)=false:=anyR_false _ _ (fun j hj=>decide_eq_false (h hx he j hj))
   rw [this]; simp
  ·rw [if_neg (fun hh=>he hh.1)]
 ·rw [if_neg hx]
  have h0:oldW M o.a % 2=0:=by omega
  cases ha:anyR (plcC M (plist (lateL M)) (o.a / 16) (o.a % 16)) (plist (lateL M)).length
  ·simp
  ·simp [h0]
theorem codeTo_succ {M:Mach} {a:Int} (k:Nat) (h:oldW M a % 2=1\/plcC M (plist (lateL M)) (a / 16) (a % 16) k=false):codeTo M a (k+1)=codeTo M a k:=by
 unfold codeTo
 rw [anyR_succ]
 rcases h with h | h
 ·rw [if_neg (fun hh=>by omega),if_neg (fun hh=>by omega)]
 ·rw [h,Bool.or_false]
theorem codeTo_three {M:Mach} {a:Int} (k:Nat) (h0:¬ oldW M a % 2=1) (h:plcC M (plist (lateL M)) (a / 16) (a % 16) k=true):codeTo M a (k+1)=3:=by
 unfold codeTo
 rw [anyR_succ,h,Bool.or_true,if_pos ⟨by omega,rfl⟩]
theorem q16 (A:Nat) (h:A < 8192):wrap64 ((A:Int) / 16)=(A:Int) / 16/\wrap64 ((A:Int) % 16)=(A:Int) % 16/\0<=(A:Int) % 16/\(A:Int) % 16 < 16/\IntKind.i64.wrap ((A:Int) / 16)=(A:Int) / 16/\IntKind.i64.wrap ((A:Int) % 16)=(A:Int) % 16/\(A:Int).tmod 16=(A:Int) % 16:=by
 have ht:(A:Int).tmod 16=(A:Int) % 16:=Int.tmod_eq_emod_of_nonneg (Int.natCast_nonneg _)
 unfold wrap64; rw [IntKind.wrap_i64,IntKind.wrap_i64,ht]; omega
theorem q256 (ix cL Q:Int) (h0:0<=ix) (h1:ix < 16) (h2:1<=cL) (h3:cL<=256) (h4:0<=Q) (h5:Q<=20000):IntKind.i64.wrap (ix * cL)=ix * cL/\IntKind.i64.wrap (Q+ix * cL)=Q+ix * cL/\0<=Q+ix * cL/\Q+ix * cL < 100000:=by
 have a1:0<=ix * cL:=Int.mul_nonneg h0 (by omega)
 have a2:ix * cL<=15 * cL:=Int.mul_le_mul_of_nonneg_right (by omega) (by omega)
 rw [IntKind.wrap_i64,IntKind.wrap_i64]
 omega
set_option maxRecDepth 100000 in
set_option maxHeartbeats 8000000 in
theorem wrCodeS_any (s:SV) (M:Mach) (b:Nat) (o:OpE) (A:Nat) (Wd:Int) (w:World) (hs:M.Small) (hok:WOk M) (hv:validB M=true) (hoa:o.a=A) (how:o.word=Wd) (hA:A < M.mem.length) (hw0:0<=Wd) (hw1:Wd < 18446744073709551616) (h:MRow w b (s.mv M) M) :
  Calls Try.prog 83 #[.agg #[.slice s.a1 M.mem.length s.c1,.slice s.a2 M.pend.length s.c2,.slice s.a3 M.tlb.length s.c3,.slice s.a4 M.wc.length s.c4],.agg #[.int .i64 o.kind,.int .i64 A,.int .i64 o.b,.int .u64 Wd]] w fun e w'=>e=.returned (.int .i64 (wrCode M o))/\Below w.heap.size w w':=by
 have hmm:=nfr_mul M.mem.length hok.n0
 have hml:=nfr_le M.mem.length
 have hm0:0 < M.mem.length:=by omega
 have hA8:A < 8192:=by omega
 have hpd:∀ i,i < M.pend.length->0<=(eAt eWrite M.pend i).addr:=fun i hi=>(valid_pend hv i hi).1
 have hll:=lateL_length M
 obtain ⟨X,hX⟩:∃ X,X=oldW M o.a:=⟨_,rfl⟩
 have hxe:(lateL M).getD A 0=X:=by rw [hX,oldW,hoa]; rfl
 have hxr:=lateL_rng hok hpd A
 rw [hxe] at hxr
 have hx1:X < 18446744073709551616:=by have:=hxr.2; omega
 have hlz:=late_ok hok hpd
 have hle:=plist_length (lateL M)
 have HPK:Hid (∀ i,i < (plist (lateL M)).length->_):=plist_ok (lateL M) hlz
 obtain ⟨wb,hwb⟩:∃ wb,wb=(w.alloc (.cells #[.slice s.a1 M.mem.length s.c1,.slice s.a2 M.pend.length s.c2,.slice s.a3 M.tlb.length s.c3,.slice s.a4 M.wc.length s.c4] 38)).alloc (.cells #[.int .i64 o.kind,.int .i64 A,.int .i64 o.b,.int .u64 Wd] 65):=⟨_,rfl⟩
 have hbb:Below w.heap.size w wb:=by rw [hwb]; exact ((Below.refl _ _).alloc (Nat.le_refl _) _).alloc (by simp) _
 have hzb:wb.heap.size=w.heap.size+2:=by rw [hwb]; simp
 have HBOX:Hid (∀ wX,Below wb.heap.size wb wX->(wX.cell? ⟨w.heap.size,0,none⟩=some (.slice s.a1 M.mem.length s.c1)/\wX.cell? ⟨w.heap.size,1,none⟩=some (.slice s.a2 M.pend.length s.c2)/\wX.cell? ⟨w.heap.size,2,none⟩=some (.slice s.a3 M.tlb.length s.c3)/\wX.cell? ⟨w.heap.size,3,none⟩=some (.slice s.a4 M.wc.length s.c4))/\(wX.cell? ⟨w.heap.size+1,1,none⟩=some (.int .i64 A)/\wX.cell? ⟨w.heap.size+1,3,none⟩=some (.int .u64 Wd))):=fun wX hX=>by
  refine ⟨⟨?_,?_,?_,?_⟩,?_,?_⟩
  iterate 6 (exact (hX.cell (by simp; omega)).trans (by rw [hwb]; simp [go_sem]))
 have HLA:Hid (∀ wX,Below wb.heap.size wb wX->Calls Try.prog 85 #[.agg #[.slice s.a1 M.mem.length s.c1,.slice s.a2 M.pend.length s.c2,.slice s.a3 M.tlb.length s.c3,.slice s.a4 M.wc.length s.c4]] wX fun e w'=>∃ g c,e=.returned (.agg #[.slice (some ⟨g,0,none⟩) M.mem.length c])/\ERow eWord w' wX.heap.size (.slice (some ⟨g,0,none⟩) M.mem.length c) (lateL M)/\Below wX.heap.size wX w'):=fun wX hX=>latest_any s M b wX hs hm0 (fun i hi=>valid_pend hv i hi) (h.below (hbb.trans (hX.mono (by omega))))
 have HCA:Hid (∀ lv fs cL wX,Below wb.heap.size wb wX->0<=fs/\fs < 100000->0<=cL/\cL < 100000->Calls Try.prog 144 #[.agg #[.slice s.a1 M.mem.length s.c1,.slice s.a2 M.pend.length s.c2,.slice s.a3 M.tlb.length s.c3,.slice s.a4 M.wc.length s.c4],.int .i64 lv,.int .i64 fs,.int .i64 cL] wX fun e w'=>e=.returned (.bool (cachedB M lv fs cL))/\Below wX.heap.size wX w'):=fun lv fs cL wX hX h1 h2=>cachS_any s M b lv fs cL wX hs hv h1 h2 (h.below (hbb.trans (hX.mono (by omega))))
 have HPC:Hid (∀ k F L Q,pAt (plist (lateL M)) k=⟨F,L,Q⟩->plcC M (plist (lateL M)) (o.a / 16) (o.a % 16) k=(decide (F=(A:Int) / 16) && cachedB M L (Q+(A:Int) % 16 * cov L) (cov L))):=fun k F L Q he=>by unfold plcC; rw [he,hoa]
 have HTWO:Hid (∀ k F L Q,k < (plist (lateL M)).length->pAt (plist (lateL M)) k=⟨F,L,Q⟩->¬ Wd % 2=0->X % 2=1->X ≠ Wd->F=(A:Int) / 16->wrCode M o=2):=fun k F L Q hk he h1 h2 h3 h4=>wr_two k hk (by rw [how]; exact h1) (by rw [<- hX]; exact h2) (by rw [<- hX,how]; exact h3) (by rw [he,hoa]; exact h4)
 have HZ0:Hid (Wd % 2=0->wrCode M o=0):=fun h=>by unfold wrCode; rw [if_pos (by rw [how]; exact h)]
 have HEND:Hid (¬ Wd % 2=0->(X % 2=1->X ≠ Wd->∀ j,j < (plist (lateL M)).length->¬ (pAt (plist (lateL M)) j).fr=(A:Int) / 16)->wrCode M o=codeTo M o.a (plist (lateL M)).length):=fun h1 h2=>codeTo_end (by rw [how]; exact h1) (fun e1 e2 j hj=>by rw [hoa]; exact h2 (by rw [hX]; exact e1) (by rw [hX,<- how]; exact e2) j hj)
 have HCS:Hid (∀ k,(X % 2=1\/plcC M (plist (lateL M)) (o.a / 16) (o.a % 16) k=false)->codeTo M o.a (k+1)=codeTo M o.a k):=fun k hh=>codeTo_succ k (by rw [<- hX]; exact hh)
 have HC3:Hid (∀ k,¬ X % 2=1->plcC M (plist (lateL M)) (o.a / 16) (o.a % 16) k=true->codeTo M o.a (k+1)=3):=fun k h1 h2=>codeTo_three k (by rw [<- hX]; exact h1) h2
 have HC0:Hid (codeTo M o.a 0=0):=by
  show codeTo M o.a 0=0
  unfold codeTo
  rw [anyR_zero]
  simp
 have hbw:=bit0_any Wd hw0 hw1
 have hbx:=bit0_any X hxr.1 hx1
 have hlr:=hlz.rng
 obtain ⟨ps,hps⟩:∃ ps,ps=plist (lateL M):=⟨_,rfl⟩
 have HPL:Hid (∀ g c wX,CRow wX g (lateL M)->Calls Try.prog 10 #[.agg #[.slice (some ⟨g,0,none⟩) M.mem.length c]] wX fun e w'=>∃ a c',e=.returned (.tuple #[.slice a ps.length c',.bool (ptree (lateL M))])/\PRow w' wX.heap.size (.slice a ps.length c') ps/\Below wX.heap.size wX w'):=fun g c wX hc=>by
  have:=specPlaces_any g (lateL M) c (by omega) hlr wX hc
  unfold PlacesPost at this
  rw [hll,<- hps] at this
  exact this
 rw [<- hps] at hle HPK HPC HTWO HEND HCS HC3
 obtain ⟨cde,hcde⟩:∃ c,c=wrCode M o:=⟨_,rfl⟩
 rw [<- hcde] at HTWO HZ0 HEND ⊢
 obtain ⟨hq,hq2,hqa,hqb,hqc,hqd,hqe⟩:=q16 A hA8
 have L0:(0:Int)<=(A:Int):=Int.natCast_nonneg _
 have LA:(A:Int) < (M.mem.length:Int):=Int.ofNat_lt.2 hA
 have HWB:Hid (wb=_):=hwb
 have HBB:Hid (Below w.heap.size w wb):=hbb
 have HZ:Hid (wb.heap.size=_):=hzb
 have HXE:Hid ((lateL M).getD A 0=X):=hxe
 have HLL:Hid ((lateL M).length=_):=hll
 clear h hok hpd hX hxe hlz hps hcde hoa how hwb hbb hzb hv hlr hll hmm hml
 by_cases hwz:Wd % 2=0
 ·have d0:(Wd % 2 == 0)=true:=by simpa using hwz
  have HR:=HZ0.out hwz
  subst HR
  clear hwz
  go_enter Try.func83,Try.ntmps83
  go_wp2_with (go_at_call 74; refine (hbw _).mono ?_; rintro e w1 ⟨rfl,hw1⟩; obtain rfl:=hw1.symm)
  rw [<- HWB.out]
  go_ret
  exact ⟨rfl,HBB.out⟩
 ·have d0:(Wd % 2 == 0)=false:=by simpa using hwz
  have HWZ:Hid (¬ Wd % 2=0):=hwz
  clear hwz
  have hla:=HLA.out wb (Below.refl _ _)
  rw [HWB.out] at hla
  go_enter Try.func83,Try.ntmps83
  go_wp2_with (go_at_call 74; refine (hbw _).mono ?_; rintro e w1 ⟨rfl,hw1⟩; obtain rfl:=hw1.symm)
  refine hla.mono ?_
  rintro e w1 ⟨g2,c2,rfl,hr1,hb1'⟩
  rw [<- HWB.out] at hr1
  have hb1:Below wb.heap.size wb w1:=by rw [HWB.out]; exact hb1'
  obtain ⟨wx,hwx⟩:∃ wx,wx=w1.alloc (.cells #[.slice (some ⟨g2,0,none⟩) M.mem.length c2] 25):=⟨_,rfl⟩
  have hzx:wx.heap.size=w1.heap.size+1:=by rw [hwx]; simp
  have bx:Below wb.heap.size wb wx:=by rw [hwx]; exact hb1.alloc hb1.size _
  have hr1':ERow eWord w1 wb.heap.size (.slice (some ⟨g2,0,none⟩) (lateL M).length c2) (lateL M):=by rw [HLL.out]; exact hr1
  obtain ⟨g2',e2,hc2,_⟩:=eWord_c hr1' (by have:=HLL.out; omega)
  simp only [Option.some.injEq,Addr.mk.injEq,and_true] at e2
  obtain rfl:=e2.symm
  have hcx:CRow wx g2' (lateL M):=by rw [hwx]; exact hc2.below ((Below.refl _ _).alloc (Nat.le_refl _) _) hc2.lt
  have hpl:=HPL.out g2' c2 wx hcx
  have cX:wx.cell? ⟨w1.heap.size,0,none⟩=some (.slice (some ⟨g2',0,none⟩) M.mem.length c2):=by rw [hwx]; simp [go_sem]
  rw [hwx] at hpl
  obtain ⟨XB,hXB⟩:∃ XB,XB=w1.heap.size:=⟨_,rfl⟩
  have HCX:Hid (CRow wx g2' (lateL M)):=hcx
  have HCELL:Hid (wx.cell? ⟨w1.heap.size,0,none⟩=_):=cX
  have HWX:Hid (wx=_):=hwx
  have HBX:Hid (Below wb.heap.size wb wx):=bx
  have HZX:Hid (wx.heap.size=_):=hzx
  clear hla hb1' hr1 hr1' hc2 hcx cX hwx bx hzx hb1 e2 hXB
  go_wp2_with fail
  refine hpl.mono ?_
  rintro e w2 ⟨a3,c3,rfl,hr2,hb2'⟩
  have hb2:Below wx.heap.size wx w2:=by rw [HWX.out]; exact hb2'
  have b2:Below wb.heap.size wb w2:=HBX.out.trans (hb2.mono HBX.out.size)
  obtain ⟨gp,hp1,hp2⟩:=plc_cells hr2
  have HP1:Hid _:=hp1
  have HP2:Hid _:=hp2
  have HB2:Hid (Below wb.heap.size wb w2):=b2
  have HBW2:Hid (Below wx.heap.size wx w2):=hb2
  clear hpl hb2' hr2 hp1 hp2 hb2 b2
  go_wp2_with fail
  go_loopw [8,9,10,11,12] (fun cv i v10 v11 v12 wr=>∃ k:Nat,k<=ps.length/\cv=.int .i64 (codeTo M o.a k)/\i=.int .i64 k/\Hid (X % 2=1->X ≠ Wd->∀ j,j < k->¬ (pAt ps j).fr=(A:Int) / 16)/\Below w2.heap.size w2 wr) (fun _ i _ _ _ _=>ps.length - (intOf i).toNat)
  case atStart=>exact ⟨0,Nat.zero_le _,by rw [HC0.out],rfl,fun _ _ j hj=>absurd hj (by omega),Below.refl _ _⟩
  case round =>
   obtain ⟨k,hk,rfl,rfl,hall,hb⟩:=hrel
   have bW:Below wb.heap.size wb wr:=HB2.out.trans (hb.mono HB2.out.size)
   have bX:Below wx.heap.size wx wr:=HBW2.out.trans (hb.mono HBW2.out.size)
   by_cases hlt:k < ps.length
   ·obtain ⟨E,hE⟩:∃ E,pAt ps k=E:=⟨_,rfl⟩
    obtain ⟨F,L,Q⟩:=E
    obtain ⟨hae,hgl⟩:=HP1.out (by omega)
    have hpk:=HPK.out k hlt
    rw [hE] at hpk
    have hplc:=HPC.out k F L Q hE
    have HKK:Hid (∀ wX,Below wr.heap.size wr wX->(wX.cell? ⟨w.heap.size+1,1,none⟩=some (.int .i64 A)/\wX.cell? ⟨w.heap.size+1,3,none⟩=some (.int .u64 Wd))/\(wX.cell? ⟨gp,k * 3,none⟩=some (.int .i64 F)/\wX.cell? ⟨gp,k * 3+1,none⟩=some (.int .i64 L)/\wX.cell? ⟨gp,k * 3+2,none⟩=some (.int .i64 Q))):=fun wX hX=>⟨(HBOX.out wX (bW.trans (hX.mono bW.size))).2,HP2.out k F L Q hlt hE wX (hb.trans (hX.mono hb.size))⟩
    have HKX:Hid (∀ wX,Below wr.heap.size wr wX->(wX.cell? ⟨w.heap.size+1,1,none⟩=some (.int .i64 A)/\wX.cell? ⟨w.heap.size+1,3,none⟩=some (.int .u64 Wd))/\(wX.cell? ⟨gp,k * 3,none⟩=some (.int .i64 F)/\wX.cell? ⟨gp,k * 3+1,none⟩=some (.int .i64 L)/\wX.cell? ⟨gp,k * 3+2,none⟩=some (.int .i64 Q))/\(wX.cell? ⟨w.heap.size,0,none⟩=some (.slice s.a1 M.mem.length s.c1)/\wX.cell? ⟨w.heap.size,1,none⟩=some (.slice s.a2 M.pend.length s.c2)/\wX.cell? ⟨w.heap.size,2,none⟩=some (.slice s.a3 M.tlb.length s.c3)/\wX.cell? ⟨w.heap.size,3,none⟩=some (.slice s.a4 M.wc.length s.c4))):=fun wX hX=>⟨(HKK.out wX hX).1,(HKK.out wX hX).2,(HBOX.out wX (bW.trans (hX.mono bW.size))).1⟩
    have hcl:=covers_any L
    obtain ⟨cL,hcL⟩:∃ cL,cL=cov L:=⟨_,rfl⟩
    have hcb:1<=cL/\cL<=256:=by rw [hcL]; rcases hpk.1 with e | e | e <;> (rw [show L=_ from e]; decide)
    rw [<- hcL] at hcl hplc
    have hq0:0<=Q:=hpk.2.1
    have hq1:Q<=20000:=hpk.2.2
    obtain ⟨W1,W2,W3,W4⟩:=q256 ((A:Int) % 16) cL Q hqa hqb hcb.1 hcb.2 hq0 hq1
    have hca:=fun wX (hX:Below wr.heap.size wr wX)=>HCA.out L (Q+(A:Int) % 16 * cL) cL wX (bW.trans (hX.mono bW.size)) ⟨W3,W4⟩ ⟨Int.le_trans (by decide) hcb.1,Int.lt_of_le_of_lt hcb.2 (by decide)⟩
    have cxr:=(bX.cell (p:=⟨w1.heap.size,0,none⟩) (by have:=HZX.out; simp; omega)).trans HCELL.out
    have cAr:=((HCX.out.below bX HCX.out.lt).cell (i:=A) (by have:=HLL.out; omega))
    rw [HXE.out] at cAr
    obtain ⟨⟨o1,o3⟩,p0,p1,p2⟩:=HKK.out wr (Below.refl _ _)
    have HE:Hid (pAt ps k=_):=hE
    have HAE:Hid (a3=_):=hae
    have HPLC:Hid _:=hplc
    have HB:Hid (Below w2.heap.size w2 wr):=hb
    have M1:(0:Int)<=(k:Int):=by omega
    have M2:(k:Int) < (ps.length:Int):=by omega
    rw [hae]
    clear hE hb hpk hplc hcL bX hae
    by_cases hF:F=(A:Int) / 16
    ·have dF:(F == (A:Int) / 16)=true:=by simpa using hF
     have HD15:Below wr.heap.size wr wr.drew.drew.drew:=(Below.refl _ _).drew.drew.drew
     have HFF:Hid (F=(A:Int) / 16):=hF
     clear hF
     by_cases hX1:X % 2=1
     ·have dX1:(X % 2 == 1)=true:=by simpa using hX1
      have dX0:(X % 2 == 0)=false:=by simp; omega
      by_cases hXW:X=Wd
      ·have HCCC:Hid (codeTo M o.a (k+1)=codeTo M o.a k):=HCS.out k (.inl hX1)
       have HXW:Hid (X=Wd):=hXW
       have hWX:Wd=X:=hXW.symm
       subst hWX
       clear hX1 hca
       go_wp2_with fail
       refine wp_region_held_drew (S:=(fun wX=>(wX.cell? ⟨w.heap.size+1,1,none⟩=some (.int .i64 A)/\wX.cell? ⟨w.heap.size+1,3,none⟩=some (.int .u64 Wd))/\(wX.cell? ⟨gp,k * 3,none⟩=some (.int .i64 F)/\wX.cell? ⟨gp,k * 3+1,none⟩=some (.int .i64 L)/\wX.cell? ⟨gp,k * 3+2,none⟩=some (.int .i64 Q)))) (by kernel_rfl) (HKK.out _ ((Below.refl _ _).drew)) (fun hHeld=>?_)
       refine tk 0 ?_
       refine tk 1 ?_
       refine tk 2 ?_
       refine tk 3 ?_
       refine tk 4 ?_
       refine tk 5 ?_
       refine tk 6 ?_
       refine tk 7 ?_
       refine tk 8 ?_
       refine wpAnyH_done (by kernel_rfl) ?_ _
       go_wp2_with fail
       refine (hcl _).mono ?_
       rintro e w5 ⟨rfl,hw5⟩
       obtain rfl:=hw5.symm
       clear hHeld
       go_wp2_with fail
       refine wp_region_held_drew (S:=(fun wX=>(wX.cell? ⟨w.heap.size+1,1,none⟩=some (.int .i64 A)/\wX.cell? ⟨w.heap.size+1,3,none⟩=some (.int .u64 Wd))/\(wX.cell? ⟨gp,k * 3,none⟩=some (.int .i64 F)/\wX.cell? ⟨gp,k * 3+1,none⟩=some (.int .i64 L)/\wX.cell? ⟨gp,k * 3+2,none⟩=some (.int .i64 Q)))) (by kernel_rfl) (HKK.out _ ((Below.refl _ _).drew.drew)) (fun hHeld=>?_)
       refine tk 0 ?_
       refine tk 1 ?_
       refine tk 2 ?_
       refine tk 3 ?_
       refine tk 4 ?_
       refine tk 5 ?_
       refine tk 6 ?_
       refine tk 7 ?_
       refine tk 8 ?_
       refine tk 9 ?_
       refine tk 10 ?_
       refine tk 11 ?_
       refine wpAnyH_done (by kernel_rfl) ?_ _
       clear hHeld
       go_wp2_with fail
       refine (hbx _).mono ?_
       rintro e w6 ⟨rfl,hw6⟩
       obtain rfl:=hw6.symm
       clear hw6
       go_wp2_with fail
       refine wp_region_held_drew (S:=(fun wX=>(wX.cell? ⟨w.heap.size+1,1,none⟩=some (.int .i64 A)/\wX.cell? ⟨w.heap.size+1,3,none⟩=some (.int .u64 Wd))/\(wX.cell? ⟨gp,k * 3,none⟩=some (.int .i64 F)/\wX.cell? ⟨gp,k * 3+1,none⟩=some (.int .i64 L)/\wX.cell? ⟨gp,k * 3+2,none⟩=some (.int .i64 Q))/\(wX.cell? ⟨w.heap.size,0,none⟩=some (.slice s.a1 M.mem.length s.c1)/\wX.cell? ⟨w.heap.size,1,none⟩=some (.slice s.a2 M.pend.length s.c2)/\wX.cell? ⟨w.heap.size,2,none⟩=some (.slice s.a3 M.tlb.length s.c3)/\wX.cell? ⟨w.heap.size,3,none⟩=some (.slice s.a4 M.wc.length s.c4)))) (by kernel_rfl) (HKX.out _ HD15) (fun hHeld=>?_)
       refine tk 0 ?_
       refine wpAnyH_ready (rs:=[1]) (by kernel_rfl) (by simp) ?_
       refine AllReadyH.cons rfl (fun K hK=>?_) AllReadyH.nil
       go_simp
       go_at_call 74
       refine (hbx _).mono ?_
       rintro e w5 ⟨rfl,hw5⟩
       obtain rfl:=hw5.symm
       go_wp2_with fail
       refine hK.out _ _ (HKX.out _ HD15) (fun hHeld2=>?_)
       clear hK K
       refine tk 2 ?_
       refine tk 3 ?_
       refine sk 4 ?_
       refine sk 5 ?_
       refine sk 6 ?_
       refine sk 7 ?_
       refine sk 8 ?_
       refine sk 9 ?_
       refine sk 10 ?_
       refine sk 11 ?_
       refine sk 12 ?_
       refine tk 13 ?_
       refine wpAnyH_done (by kernel_rfl) ?_ _
       go_wp2_with fail
       go_roundw
       case rel =>
        refine ⟨k+1,by omega,by rw [HCCC.out],by go_num,fun h1 h2 j hj=>?_,HB.out.drew.drew.drew⟩
        exact absurd rfl h2
       case measure=>simp [intOf]; omega
      ·have dN:(X != Wd)=true:=by simpa using hXW
       have HR:=HTWO.out k F L Q hlt HE.out HWZ.out hX1 hXW HFF.out
       subst HR
       clear hX1 hXW hca
       go_wp2_with fail
       refine wp_region_held_drew (S:=(fun wX=>(wX.cell? ⟨w.heap.size+1,1,none⟩=some (.int .i64 A)/\wX.cell? ⟨w.heap.size+1,3,none⟩=some (.int .u64 Wd))/\(wX.cell? ⟨gp,k * 3,none⟩=some (.int .i64 F)/\wX.cell? ⟨gp,k * 3+1,none⟩=some (.int .i64 L)/\wX.cell? ⟨gp,k * 3+2,none⟩=some (.int .i64 Q)))) (by kernel_rfl) (HKK.out _ ((Below.refl _ _).drew)) (fun hHeld=>?_)
       refine tk 0 ?_
       refine tk 1 ?_
       refine tk 2 ?_
       refine tk 3 ?_
       refine tk 4 ?_
       refine tk 5 ?_
       refine tk 6 ?_
       refine tk 7 ?_
       refine tk 8 ?_
       refine wpAnyH_done (by kernel_rfl) ?_ _
       go_wp2_with fail
       refine (hcl _).mono ?_
       rintro e w5 ⟨rfl,hw5⟩
       obtain rfl:=hw5.symm
       clear hHeld
       go_wp2_with fail
       refine wp_region_held_drew (S:=(fun wX=>(wX.cell? ⟨w.heap.size+1,1,none⟩=some (.int .i64 A)/\wX.cell? ⟨w.heap.size+1,3,none⟩=some (.int .u64 Wd))/\(wX.cell? ⟨gp,k * 3,none⟩=some (.int .i64 F)/\wX.cell? ⟨gp,k * 3+1,none⟩=some (.int .i64 L)/\wX.cell? ⟨gp,k * 3+2,none⟩=some (.int .i64 Q)))) (by kernel_rfl) (HKK.out _ ((Below.refl _ _).drew.drew)) (fun hHeld=>?_)
       refine tk 0 ?_
       refine tk 1 ?_
       refine tk 2 ?_
       refine tk 3 ?_
       refine tk 4 ?_
       refine tk 5 ?_
       refine tk 6 ?_
       refine tk 7 ?_
       refine tk 8 ?_
       refine tk 9 ?_
       refine tk 10 ?_
       refine tk 11 ?_
       refine wpAnyH_done (by kernel_rfl) ?_ _
       clear hHeld
       go_wp2_with fail
       refine (hbx _).mono ?_
       rintro e w6 ⟨rfl,hw6⟩
       obtain rfl:=hw6.symm
       clear hw6
       go_wp2_with fail
       go_ret
       exact ⟨rfl,HBB.out.trans ((bW.trans ((Below.refl _ _).drew.drew.mono bW.size)).mono HBB.out.size)⟩
     ·have dX1:(X % 2 == 1)=false:=by simpa using hX1
      have dX0:(X % 2 == 0)=true:=by simp; omega
      cases hcb2:cachedB M L (Q+(A:Int) % 16 * cL) cL
      ·have HCCC:Hid (codeTo M o.a (k+1)=codeTo M o.a k):=HCS.out k (.inr (by rw [HPLC.out,hcb2,Bool.and_false]))
       have HX1:Hid (¬ X % 2=1):=hX1
       simp only [hcb2] at hca
       have HCB:Hid (∀ wX,Below wr.heap.size wr wX->Calls Try.prog 144 #[.agg #[.slice s.a1 M.mem.length s.c1,.slice s.a2 M.pend.length s.c2,.slice s.a3 M.tlb.length s.c3,.slice s.a4 M.wc.length s.c4],.int .i64 L,.int .i64 (Q+(A:Int) % 16 * cL),.int .i64 cL] wX fun e w'=>e=.returned (.bool false)/\Below wX.heap.size wX w'):=hca
       clear hX1 hcb2 hca
       go_wp2_with fail
       refine wp_region_held_drew (S:=(fun wX=>(wX.cell? ⟨w.heap.size+1,1,none⟩=some (.int .i64 A)/\wX.cell? ⟨w.heap.size+1,3,none⟩=some (.int .u64 Wd))/\(wX.cell? ⟨gp,k * 3,none⟩=some (.int .i64 F)/\wX.cell? ⟨gp,k * 3+1,none⟩=some (.int .i64 L)/\wX.cell? ⟨gp,k * 3+2,none⟩=some (.int .i64 Q)))) (by kernel_rfl) (HKK.out _ ((Below.refl _ _).drew)) (fun hHeld=>?_)
       refine tk 0 ?_
       refine tk 1 ?_
       refine tk 2 ?_
       refine tk 3 ?_
       refine tk 4 ?_
       refine tk 5 ?_
       refine tk 6 ?_
       refine tk 7 ?_
       refine tk 8 ?_
       refine wpAnyH_done (by kernel_rfl) ?_ _
       go_wp2_with fail
       refine (hcl _).mono ?_
       rintro e w5 ⟨rfl,hw5⟩
       obtain rfl:=hw5.symm
       clear hHeld
       go_wp2_with fail
       refine wp_region_held_drew (S:=(fun wX=>(wX.cell? ⟨w.heap.size+1,1,none⟩=some (.int .i64 A)/\wX.cell? ⟨w.heap.size+1,3,none⟩=some (.int .u64 Wd))/\(wX.cell? ⟨gp,k * 3,none⟩=some (.int .i64 F)/\wX.cell? ⟨gp,k * 3+1,none⟩=some (.int .i64 L)/\wX.cell? ⟨gp,k * 3+2,none⟩=some (.int .i64 Q)))) (by kernel_rfl) (HKK.out _ ((Below.refl _ _).drew.drew)) (fun hHeld=>?_)
       refine tk 0 ?_
       refine tk 1 ?_
       refine tk 2 ?_
       refine tk 3 ?_
       refine tk 4 ?_
       refine tk 5 ?_
       refine tk 6 ?_
       refine tk 7 ?_
       refine tk 8 ?_
       refine tk 9 ?_
       refine tk 10 ?_
       refine tk 11 ?_
       refine wpAnyH_done (by kernel_rfl) ?_ _
       clear hHeld
       go_wp2_with fail
       refine (hbx _).mono ?_
       rintro e w6 ⟨rfl,hw6⟩
       obtain rfl:=hw6.symm
       clear hw6
       go_wp2_with fail
       refine wp_region_held_drew (S:=(fun wX=>(wX.cell? ⟨w.heap.size+1,1,none⟩=some (.int .i64 A)/\wX.cell? ⟨w.heap.size+1,3,none⟩=some (.int .u64 Wd))/\(wX.cell? ⟨gp,k * 3,none⟩=some (.int .i64 F)/\wX.cell? ⟨gp,k * 3+1,none⟩=some (.int .i64 L)/\wX.cell? ⟨gp,k * 3+2,none⟩=some (.int .i64 Q))/\(wX.cell? ⟨w.heap.size,0,none⟩=some (.slice s.a1 M.mem.length s.c1)/\wX.cell? ⟨w.heap.size,1,none⟩=some (.slice s.a2 M.pend.length s.c2)/\wX.cell? ⟨w.heap.size,2,none⟩=some (.slice s.a3 M.tlb.length s.c3)/\wX.cell? ⟨w.heap.size,3,none⟩=some (.slice s.a4 M.wc.length s.c4)))) (by kernel_rfl) (HKX.out _ HD15) (fun hHeld=>?_)
       refine tk 0 ?_
       refine wpAnyH_ready (rs:=[1]) (by kernel_rfl) (by simp) ?_
       refine AllReadyH.cons rfl (fun K hK=>?_) AllReadyH.nil
       go_simp
       go_at_call 74
       refine (hbx _).mono ?_
       rintro e w5 ⟨rfl,hw5⟩
       obtain rfl:=hw5.symm
       go_wp2_with fail
       refine hK.out _ _ (HKX.out _ HD15) (fun hHeld2=>?_)
       clear hK K
       refine tk 2 ?_
       refine tk 3 ?_
       refine tk 4 ?_
       refine tk 5 ?_
       refine tk 6 ?_
       refine tk 7 ?_
       refine tk 8 ?_
       refine tk 9 ?_
       refine tk 10 ?_
       refine tk 11 ?_
       refine wpAnyH_ready (rs:=[12]) (by kernel_rfl) (by simp) ?_
       refine AllReadyH.cons rfl (fun K hK=>?_) AllReadyH.nil
       go_simp
       go_at_call 144
       refine (HCB.out _ HD15).mono ?_
       rintro e w6 ⟨rfl,hb6⟩
       go_wp2_with fail
       refine hK.out _ _ (HKX.out _ (HD15.trans (hb6.mono HD15.size))) (fun hHeld2=>?_)
       clear hK K
       refine tk 13 ?_
       refine wpAnyH_done (by kernel_rfl) ?_ _
       go_wp2_with fail
       go_roundw
       case rel =>
        refine ⟨k+1,by omega,by rw [HCCC.out],by go_num,fun h1 h2 j hj=>?_,HB.out.trans ((HD15.trans (hb6.mono HD15.size)).mono HB.out.size)⟩
        exact absurd h1 HX1.out
       case measure=>simp [intOf]; omega
      ·have HCCC:Hid (codeTo M o.a (k+1)=3):=HC3.out k hX1 (by rw [HPLC.out,hcb2,decide_eq_true HFF.out]; rfl)
       have HX1:Hid (¬ X % 2=1):=hX1
       simp only [hcb2] at hca
       have HCB:Hid (∀ wX,Below wr.heap.size wr wX->Calls Try.prog 144 #[.agg #[.slice s.a1 M.mem.length s.c1,.slice s.a2 M.pend.length s.c2,.slice s.a3 M.tlb.length s.c3,.slice s.a4 M.wc.length s.c4],.int .i64 L,.int .i64 (Q+(A:Int) % 16 * cL),.int .i64 cL] wX fun e w'=>e=.returned (.bool true)/\Below wX.heap.size wX w'):=hca
       clear hX1 hcb2 hca
       go_wp2_with fail
       refine wp_region_held_drew (S:=(fun wX=>(wX.cell? ⟨w.heap.size+1,1,none⟩=some (.int .i64 A)/\wX.cell? ⟨w.heap.size+1,3,none⟩=some (.int .u64 Wd))/\(wX.cell? ⟨gp,k * 3,none⟩=some (.int .i64 F)/\wX.cell? ⟨gp,k * 3+1,none⟩=some (.int .i64 L)/\wX.cell? ⟨gp,k * 3+2,none⟩=some (.int .i64 Q)))) (by kernel_rfl) (HKK.out _ ((Below.refl _ _).drew)) (fun hHeld=>?_)
       refine tk 0 ?_
       refine tk 1 ?_
       refine tk 2 ?_
       refine tk 3 ?_
       refine tk 4 ?_
       refine tk 5 ?_
       refine tk 6 ?_
       refine tk 7 ?_
       refine tk 8 ?_
       refine wpAnyH_done (by kernel_rfl) ?_ _
       go_wp2_with fail
       refine (hcl _).mono ?_
       rintro e w5 ⟨rfl,hw5⟩
       obtain rfl:=hw5.symm
       clear hHeld
       go_wp2_with fail
       refine wp_region_held_drew (S:=(fun wX=>(wX.cell? ⟨w.heap.size+1,1,none⟩=some (.int .i64 A)/\wX.cell? ⟨w.heap.size+1,3,none⟩=some (.int .u64 Wd))/\(wX.cell? ⟨gp,k * 3,none⟩=some (.int .i64 F)/\wX.cell? ⟨gp,k * 3+1,none⟩=some (.int .i64 L)/\wX.cell? ⟨gp,k * 3+2,none⟩=some (.int .i64 Q)))) (by kernel_rfl) (HKK.out _ ((Below.refl _ _).drew.drew)) (fun hHeld=>?_)
       refine tk 0 ?_
       refine tk 1 ?_
       refine tk 2 ?_
       refine tk 3 ?_
       refine tk 4 ?_
       refine tk 5 ?_
       refine tk 6 ?_
       refine tk 7 ?_
       refine tk 8 ?_
       refine tk 9 ?_
       refine tk 10 ?_
       refine tk 11 ?_
       refine wpAnyH_done (by kernel_rfl) ?_ _
       clear hHeld
       go_wp2_with fail
       refine (hbx _).mono ?_
       rintro e w6 ⟨rfl,hw6⟩
       obtain rfl:=hw6.symm
       clear hw6
       go_wp2_with fail
       refine wp_region_held_drew (S:=(fun wX=>(wX.cell? ⟨w.heap.size+1,1,none⟩=some (.int .i64 A)/\wX.cell? ⟨w.heap.size+1,3,none⟩=some (.int .u64 Wd))/\(wX.cell? ⟨gp,k * 3,none⟩=some (.int .i64 F)/\wX.cell? ⟨gp,k * 3+1,none⟩=some (.int .i64 L)/\wX.cell? ⟨gp,k * 3+2,none⟩=some (.int .i64 Q))/\(wX.cell? ⟨w.heap.size,0,none⟩=some (.slice s.a1 M.mem.length s.c1)/\wX.cell? ⟨w.heap.size,1,none⟩=some (.slice s.a2 M.pend.length s.c2)/\wX.cell? ⟨w.heap.size,2,none⟩=some (.slice s.a3 M.tlb.length s.c3)/\wX.cell? ⟨w.heap.size,3,none⟩=some (.slice s.a4 M.wc.length s.c4)))) (by kernel_rfl) (HKX.out _ HD15) (fun hHeld=>?_)
       refine tk 0 ?_
       refine wpAnyH_ready (rs:=[1]) (by kernel_rfl) (by simp) ?_
       refine AllReadyH.cons rfl (fun K hK=>?_) AllReadyH.nil
       go_simp
       go_at_call 74
       refine (hbx _).mono ?_
       rintro e w5 ⟨rfl,hw5⟩
       obtain rfl:=hw5.symm
       go_wp2_with fail
       refine hK.out _ _ (HKX.out _ HD15) (fun hHeld2=>?_)
       clear hK K
       refine tk 2 ?_
       refine tk 3 ?_
       refine tk 4 ?_
       refine tk 5 ?_
       refine tk 6 ?_
       refine tk 7 ?_
       refine tk 8 ?_
       refine tk 9 ?_
       refine tk 10 ?_
       refine tk 11 ?_
       refine wpAnyH_ready (rs:=[12]) (by kernel_rfl) (by simp) ?_
       refine AllReadyH.cons rfl (fun K hK=>?_) AllReadyH.nil
       go_simp
       go_at_call 144
       refine (HCB.out _ HD15).mono ?_
       rintro e w6 ⟨rfl,hb6⟩
       go_wp2_with fail
       refine hK.out _ _ (HKX.out _ (HD15.trans (hb6.mono HD15.size))) (fun hHeld2=>?_)
       clear hK K
       refine tk 13 ?_
       refine wpAnyH_done (by kernel_rfl) ?_ _
       go_wp2_with fail
       go_roundw
       case rel =>
        refine ⟨k+1,by omega,by rw [HCCC.out],by go_num,fun h1 h2 j hj=>?_,HB.out.trans ((HD15.trans (hb6.mono HD15.size)).mono HB.out.size)⟩
        exact absurd h1 HX1.out
       case measure=>simp [intOf]; omega
    ·have dF:(F == (A:Int) / 16)=false:=by simpa using hF
     have HCC:=HCS.out k (.inr (by rw [HPLC.out,decide_eq_false hF]; rfl))
     have HCCC:Hid (codeTo M o.a (k+1)=_):=HCC
     have HNF:Hid (¬ (pAt ps k).fr=(A:Int) / 16):=by rw [HE.out]; exact hF
     clear hF hca HCC
     go_wp2_with fail
     refine wp_region_held_drew (S:=(fun wX=>(wX.cell? ⟨w.heap.size+1,1,none⟩=some (.int .i64 A)/\wX.cell? ⟨w.heap.size+1,3,none⟩=some (.int .u64 Wd))/\(wX.cell? ⟨gp,k * 3,none⟩=some (.int .i64 F)/\wX.cell? ⟨gp,k * 3+1,none⟩=some (.int .i64 L)/\wX.cell? ⟨gp,k * 3+2,none⟩=some (.int .i64 Q)))) (by kernel_rfl) (HKK.out _ ((Below.refl _ _).drew)) (fun hHeld=>?_)
     refine tk 0 ?_
     refine tk 1 ?_
     refine tk 2 ?_
     refine tk 3 ?_
     refine tk 4 ?_
     refine tk 5 ?_
     refine tk 6 ?_
     refine tk 7 ?_
     refine tk 8 ?_
     refine wpAnyH_done (by kernel_rfl) ?_ _
     go_wp2_with fail
     go_roundw
     case rel =>
      refine ⟨k+1,by omega,by rw [HCCC.out],by go_num,fun h1 h2 j hj=>?_,HB.out.drew⟩
      by_cases e:j=k
      ·rw [e]; exact HNF.out
      ·exact hall.out h1 h2 j (by omega)
     case measure=>simp [intOf]; omega
   ·have HR:=HEND.out HWZ.out (fun h1 h2 j hj=>hall.out h1 h2 j (by omega))
    obtain rfl:k=ps.length:=by omega
    have HRR:Hid (cde=_):=HR
    have L9:¬ (ps.length:Int) < (ps.length:Int):=by omega
    clear HR
    go_wp2_with fail
    go_ret
    exact ⟨by rw [HRR.out]; rfl,HBB.out.trans (bW.mono HBB.out.size)⟩
end Go.Proofs.Ytnmhkgmmpkjjeaa
