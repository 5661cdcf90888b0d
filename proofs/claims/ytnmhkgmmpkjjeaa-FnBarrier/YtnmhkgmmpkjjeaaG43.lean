import Derived.Test.YtnmhkgmmpkjjeaaG42
import Derived.Test.YtnmhkgmmpkjjeaaG15
namespace Go.Proofs.Ytnmhkgmmpkjjeaa
open Go.ChangeShapes Go.WideShapes Go.ChangeAt Go.RowKit
set_option linter.unusedVariables false
attribute [local go_sem ↓] Go.wp_at_zero Go.wp_at_succ
theorem ERow.rebase2 {α:Type} {E:Elt α} {w:World} {base base':Nat} {v:Value} {xs:List α} (h:ERow E w base v xs) (hb:∀ k,v.ownBlock=some k->base'<=k):ERow E w base' v xs:=by
 refine ⟨h.1,?_⟩
 rcases h.2 with hh | ⟨g,cap,cur,e,hg,r⟩
 ·exact .inl hh
 ·exact .inr ⟨g,cap,cur,e,hb g (by rw [e]; rfl),r⟩
def mapT (a b:Int) (xs:List TlbE) (t:Nat):List TlbE:=(xs.take t).map (doomT a b)
def mapW (a b:Int) (xs:List WcE) (t:Nat):List WcE:=(xs.take t).map (doomW a b)
theorem mapT_succ (a b:Int) (xs:List TlbE) (t:Nat) (h:t < xs.length):mapT a b xs (t+1)=mapT a b xs t ++ [doomT a b (eAt eTlb xs t)]:=by unfold mapT; rw [take_snoc eTlb xs t h,List.map_append]; rfl
theorem mapW_succ (a b:Int) (xs:List WcE) (t:Nat) (h:t < xs.length):mapW a b xs (t+1)=mapW a b xs t ++ [doomW a b (eAt eWc xs t)]:=by unfold mapW; rw [take_snoc eWc xs t h,List.map_append]; rfl
theorem mapT_end (a b:Int) (xs:List TlbE):mapT a b xs xs.length=xs.map (doomT a b):=by unfold mapT; rw [List.take_length]
theorem mapW_end (a b:Int) (xs:List WcE):mapW a b xs xs.length=xs.map (doomW a b):=by unfold mapW; rw [List.take_length]
theorem mapT_le (a b:Int) (xs:List TlbE) (t:Nat):(mapT a b xs t).length<=t:=by unfold mapT; rw [List.length_map,List.length_take]; omega
theorem mapW_le (a b:Int) (xs:List WcE) (t:Nat):(mapW a b xs t).length<=t:=by unfold mapW; rw [List.length_map,List.length_take]; omega
theorem op3_rng {M:Mach} {A B W:Int} (h:opB M ⟨3,A,B,W⟩=true):(0<=A/\A < 100000)/\(0<=B/\B < 100000):=by
 unfold opB at h
 rw [if_neg (show ¬ (3:Int)=1 by decide),if_neg (show ¬ (3:Int)=2 by decide),if_pos rfl] at h
 have:=of_decide_eq_true h
 dsimp only at this
 omega
set_option maxRecDepth 100000 in
set_option maxHeartbeats 8000000 in
theorem stepS_tlbi (s:SV) (M:Mach) (b:Nat) (A Bb W:Int) (w:World) (hs:M.Small) (hv:validB M=true) (hop:opB M ⟨3,A,Bb,W⟩=true) (h:MRow w b (s.mv M) M) :
  Calls Try.prog 29 #[.agg #[.slice s.a1 M.mem.length s.c1,.slice s.a2 M.pend.length s.c2,.slice s.a3 M.tlb.length s.c3,.slice s.a4 M.wc.length s.c4],.agg #[.int .i64 3,.int .i64 A,.int .i64 Bb,.int .u64 W]] w fun e w'=>∃ s':SV,e=.returned (.tuple #[.agg #[.slice s'.a1 (⟨M.mem,M.pend,M.tlb.map (doomT A Bb),M.wc.map (doomW A Bb)⟩:Mach).mem.length s'.c1,.slice s'.a2 (⟨M.mem,M.pend,M.tlb.map (doomT A Bb),M.wc.map (doomW A Bb)⟩:Mach).pend.length s'.c2,.slice s'.a3 (⟨M.mem,M.pend,M.tlb.map (doomT A Bb),M.wc.map (doomW A Bb)⟩:Mach).tlb.length s'.c3,.slice s'.a4 (⟨M.mem,M.pend,M.tlb.map (doomT A Bb),M.wc.map (doomW A Bb)⟩:Mach).wc.length s'.c4],.int .i64 0])/\MRow w' w.heap.size (s'.mv (⟨M.mem,M.pend,M.tlb.map (doomT A Bb),M.wc.map (doomW A Bb)⟩:Mach)) (⟨M.mem,M.pend,M.tlb.map (doomT A Bb),M.wc.map (doomW A Bb)⟩:Mach)/\Below w.heap.size w w':=by
 obtain ⟨iT,hiT,hzT0,hzT1,hzT2⟩:=info_parts infoTlb
 obtain ⟨iC,hiC,hzC0,hzC1,hzC2⟩:=info_parts infoWc
 have y3s:=hs.t
 have y4s:=hs.c
 have HAB:Hid ((0<=A/\A < 100000)/\(0<=Bb/\Bb < 100000)):=op3_rng hop
 obtain ⟨wb,hwb⟩:∃ wb,wb=((w.alloc (.cells #[.slice s.a1 M.mem.length s.c1,.slice s.a2 M.pend.length s.c2,.slice s.a3 M.tlb.length s.c3,.slice s.a4 M.wc.length s.c4] 38)).alloc (.cells #[.int .i64 3,.int .i64 A,.int .i64 Bb,.int .u64 W] 65)).alloc (.cells #[.slice none 0 0,.slice none 0 0,.slice none 0 0,.slice none 0 0] 38):=⟨_,rfl⟩
 have hbb:Below w.heap.size w wb:=by rw [hwb]; exact (((Below.refl _ _).alloc (Nat.le_refl _) _).alloc (by simp) _).alloc (by simp; omega) _
 have hzb:wb.heap.size=w.heap.size+3:=by rw [hwb]; simp
 have HBOX:Hid (∀ wX,Below wb.heap.size wb wX->(wX.cell? ⟨w.heap.size,0,none⟩=some (.slice s.a1 M.mem.length s.c1)/\wX.cell? ⟨w.heap.size,1,none⟩=some (.slice s.a2 M.pend.length s.c2)/\wX.cell? ⟨w.heap.size,2,none⟩=some (.slice s.a3 M.tlb.length s.c3)/\wX.cell? ⟨w.heap.size,3,none⟩=some (.slice s.a4 M.wc.length s.c4))/\(wX.cell? ⟨w.heap.size+1,0,none⟩=some (.int .i64 3)/\wX.cell? ⟨w.heap.size+1,1,none⟩=some (.int .i64 A)/\wX.cell? ⟨w.heap.size+1,2,none⟩=some (.int .i64 Bb)/\wX.cell? ⟨w.heap.size+1,3,none⟩=some (.int .u64 W))/\(wX.cell? ⟨w.heap.size+2,0,none⟩=some (.slice none 0 0)/\wX.cell? ⟨w.heap.size+2,1,none⟩=some (.slice none 0 0)/\wX.cell? ⟨w.heap.size+2,2,none⟩=some (.slice none 0 0)/\wX.cell? ⟨w.heap.size+2,3,none⟩=some (.slice none 0 0))/\(wX.frozen? ⟨w.heap.size+2,0,none⟩=false/\wX.frozen? ⟨w.heap.size+2,1,none⟩=false/\wX.frozen? ⟨w.heap.size+2,2,none⟩=false/\wX.frozen? ⟨w.heap.size+2,3,none⟩=false)/\w.heap.size < wX.heap.size/\w.heap.size+1 < wX.heap.size/\w.heap.size+2 < wX.heap.size):=fun wX hX=>by
  have hsz:=hX.size
  refine ⟨⟨?_,?_,?_,?_⟩,⟨?_,?_,?_,?_⟩,⟨?_,?_,?_,?_⟩,⟨?_,?_,?_,?_⟩,by omega,by omega,by omega⟩
  iterate 12 (exact (hX.cell (by simp; omega)).trans (by rw [hwb]; simp [go_sem]))
  iterate 4 (exact (hX.frozen (by simp; omega)).trans (by rw [hwb]; simp [go_sem]))
 have hvm:=specValid_any s M b wb hs (h.below hbb)
 rw [hv,hwb] at hvm
 have HM:Hid (∀ wX,Below wb.heap.size wb wX->MRow wX b (s.mv M) M):=fun wX hX=>h.below (hbb.trans (hX.mono (by omega)))
 have HCP:Hid (∀ wX,Below wb.heap.size wb wX->_):=fun wX hX=>copyM_any s M b wX hs (HM.out wX hX)
 have HWF:Hid (∀ wX,Calls Try.prog 82 #[.agg #[.slice s.a1 M.mem.length s.c1,.slice s.a2 M.pend.length s.c2,.slice s.a3 M.tlb.length s.c3,.slice s.a4 M.wc.length s.c4],.agg #[.int .i64 3,.int .i64 A,.int .i64 Bb,.int .u64 W]] wX fun e w'=>e=.returned (.bool (opB M ⟨3,A,Bb,W⟩))/\Below wX.heap.size wX w'):=fun wX=>wellS_any s M 3 A Bb W wX hs
 have HWB:Hid (wb=_):=hwb
 have HBB:Hid (Below _ w wb):=hbb
 have HZ:Hid (wb.heap.size=w.heap.size+3):=hzb
 have HVV:Hid (validB M=true):=hv
 clear hwb hbb hzb h hv
 go_enter Try.func29,Try.ntmps29
 go_wp2_with fail
 refine hvm.mono ?_
 rintro e w1 ⟨rfl,hb1'⟩
 have hb1:Below wb.heap.size wb w1:=by rw [HWB.out]; exact hb1'
 have HB1:Hid (Below wb.heap.size wb w1):=hb1
 clear hb1' hvm
 obtain ⟨⟨q0,q1,q2,q3⟩,_,_,_,N0,N1,N2⟩:=HBOX.out w1 hb1
 clear hb1
 go_wp2_with fail
 refine (HCP.out w1 HB1.out).mono ?_
 rintro e w2 ⟨s1,rfl,hr2,hap2,hb2⟩
 obtain ⟨wO,hwO⟩:∃ wO,wO=w2.alloc (.cells #[.slice s1.a1 M.mem.length s1.c1,.slice s1.a2 M.pend.length s1.c2,.slice s1.a3 M.tlb.length s1.c3,.slice s1.a4 M.wc.length s1.c4] 38):=⟨_,rfl⟩
 have hzO:wO.heap.size=w2.heap.size+1:=by rw [hwO]; simp
 have b2:Below wb.heap.size wb w2:=HB1.out.trans (hb2.mono HB1.out.size)
 have bO:Below wb.heap.size wb wO:=by rw [hwO]; exact b2.alloc b2.size _
 have rO:MRow wO w1.heap.size (s1.mv M) M:=by rw [hwO]; exact hr2.below ((Below.refl _ _).alloc (Nat.le_refl _) _)
 have HOB:Hid (∀ wX,Below wO.heap.size wO wX->(wX.cell? ⟨w2.heap.size,0,none⟩=some (.slice s1.a1 M.mem.length s1.c1)/\wX.cell? ⟨w2.heap.size,1,none⟩=some (.slice s1.a2 M.pend.length s1.c2)/\wX.cell? ⟨w2.heap.size,2,none⟩=some (.slice s1.a3 M.tlb.length s1.c3)/\wX.cell? ⟨w2.heap.size,3,none⟩=some (.slice s1.a4 M.wc.length s1.c4))/\(wX.frozen? ⟨w2.heap.size,0,none⟩=false/\wX.frozen? ⟨w2.heap.size,1,none⟩=false/\wX.frozen? ⟨w2.heap.size,2,none⟩=false/\wX.frozen? ⟨w2.heap.size,3,none⟩=false)):=fun wX hX=>by
  refine ⟨⟨?_,?_,?_,?_⟩,?_,?_,?_,?_⟩
  iterate 4 (exact (hX.cell (by simp; omega)).trans (by rw [hwO]; simp [go_sem]))
  iterate 4 (exact (hX.frozen (by simp; omega)).trans (by rw [hwO]; simp [go_sem]))
 obtain ⟨⟨q0,q1,q2,q3⟩,⟨p0,p1,p2,p3⟩,_,_,N0,N1,N2⟩:=HBOX.out w2 b2
 have hwf:=HWF.out wO
 rw [hop,hwO] at hwf
 have HWO:Hid (wO=_):=hwO
 have HRO:Hid (MRow wO w1.heap.size (s1.mv M) M):=rO
 have HO2:Hid (∀ k,(s1.mv M).owns k->w1.heap.size<=k/\k < w2.heap.size):=hr2.own
 have HAP:Hid ((s1.mv M).apart):=hap2
 have HBO:Hid (Below wb.heap.size wb wO):=bO
 have HZO:Hid (wO.heap.size=w2.heap.size+1):=hzO
 have HS12:Hid (w1.heap.size<=w2.heap.size):=hb2.size
 have N3:w.heap.size+2 < w2.heap.size:=N2
 clear hr2 hb2 hwO b2 bO rO hzO hap2
 go_wp2_with fail
 refine hwf.mono ?_
 rintro e w3 ⟨rfl,hb3'⟩
 have hb3:Below wO.heap.size wO w3:=by rw [HWO.out]; exact hb3'
 have b3:Below wb.heap.size wb w3:=HBO.out.trans (hb3.mono HBO.out.size)
 have HB3:Hid (Below wb.heap.size wb w3):=b3
 have HBO3:Hid (Below wO.heap.size wO w3):=hb3
 obtain ⟨⟨q0,q1,q2,q3⟩,⟨p0,p1,p2,p3⟩,⟨r0,r1,r2,r3⟩,⟨z0,z1,z2,z3⟩,N0,N1,N2⟩:=HBOX.out w3 b3
 obtain ⟨⟨o0,o1,o2,o3⟩,y0,y1,y2,y3⟩:=HOB.out w3 hb3
 clear hwf hb3' hb3 b3
 clear q0 q1 q2 q3 r0 r1 r2 r3 z0 z1 z2 z3 o0 o1 o2 o3 y0 y1 y2 y3
 go_wp2_with fail
 obtain ⟨wE,hwE⟩:∃ wE,wE=(w3.alloc (.cells #[] 72)).alloc (.cells #[] 74):=⟨_,rfl⟩
 have hzE:wE.heap.size=w3.heap.size+2:=by rw [hwE]; simp
 have bE3:Below w3.heap.size w3 wE:=by rw [hwE]; exact ((Below.refl _ _).alloc (Nat.le_refl _) _).alloc (by simp) _
 have HBwE:Hid (Below wb.heap.size wb wE):=HB3.out.trans (bE3.mono HB3.out.size)
 have HOE:Hid (Below wO.heap.size wO wE):=HBO3.out.trans (bE3.mono HBO3.out.size)
 have rT0:ERow eTlb wE wb.heap.size (.slice (some ⟨w3.heap.size,0,none⟩) 0 0) []:=by
  rw [hwE]
  exact (ERow.empty eTlb w3 wb.heap.size HB3.out.size).below ((Below.refl _ _).alloc (Nat.le_refl _) _)
 have rW0:ERow eWc wE wb.heap.size (.slice (some ⟨w3.heap.size+1,0,none⟩) 0 0) []:=by
  rw [hwE]
  have h:=ERow.empty eWc (w3.alloc (.cells #[] 72)) wb.heap.size (by have:=HB3.out.size; simp; omega)
  rw [show (w3.alloc (.cells #[] 72)).heap.size=w3.heap.size+1 by simp] at h
  exact h
 have HT0:Hid (ERow eTlb wE wb.heap.size (.slice (some ⟨w3.heap.size,0,none⟩) 0 0) []):=rT0
 have HW0:Hid (ERow eWc wE wb.heap.size (.slice (some ⟨w3.heap.size+1,0,none⟩) 0 0) []):=rW0
 have HZwE:Hid (wb.heap.size<=w3.heap.size/\wE.heap.size=w3.heap.size+2):=⟨HB3.out.size,hzE⟩
 rw [<- hwE]
 have HWE:Hid (wE=_):=hwE
 clear hwE hzE bE3 rT0 rW0
 go_loopw [8,12] (fun vv iv wr=>∃ t gv cv:Nat,t<=M.tlb.length/\iv=.int .i64 t/\vv=.slice (some ⟨gv,0,none⟩) (mapT A Bb M.tlb t).length cv/\ERow eTlb wr wb.heap.size (.slice (some ⟨gv,0,none⟩) (mapT A Bb M.tlb t).length cv) (mapT A Bb M.tlb t)/\(gv=w3.heap.size\/wE.heap.size<=gv)/\Touch (fun k=>k=w3.heap.size) wE wr) (fun _ iv _=>M.tlb.length - (intOf iv).toNat)
 case atStart =>
  refine ⟨0,w3.heap.size,0,Nat.zero_le _,rfl,?_,?_,.inl rfl,Touch.none _⟩
  ·rfl
  ·exact HT0.out
 case round =>
  obtain ⟨t,gv,cv,ht,rfl,rfl,hrow,hgv,htc⟩:=hrel
  have hsz:=htc.size
  have bW:Below wb.heap.size wb wr:=Touch.below HBwE.out htc HBwE.out.size (fun k hk=>by have:=HZwE.out; omega)
  have hszb:=bW.size
  obtain ⟨⟨q0,q1,q2,q3⟩,⟨p0,p1,p2,p3⟩,_,_,N0,N1,N2⟩:=HBOX.out wr bW
  have hKL:(mapT A Bb M.tlb t).length<=t:=mapT_le A Bb M.tlb t
  by_cases hlt:t < M.tlb.length
  ·obtain ⟨E0,hE⟩:∃ E0,eAt eTlb M.tlb t=E0:=⟨_,rfl⟩
   obtain ⟨P,S,O,R,D⟩:=E0
   obtain ⟨g,hg1,hg2⟩:=tlbS_cells (show ERow eTlb wr b (.slice s.a3 M.tlb.length s.c3) M.tlb from (HM.out wr bW).t)
   obtain ⟨hae,hgl⟩:=hg1 (by omega)
   obtain ⟨k0,k1,k2,k3,k4⟩:=hg2 t P S O R D hlt hE wr rfl
   rw [hae] at q2
   have HE:Hid (eAt eTlb M.tlb t=_):=hE
   have L1:(0:Int)<=(t:Int):=by omega
   have L2:(t:Int) < (M.tlb.length:Int):=by omega
   have HTC:Hid (Touch (fun k=>k=w3.heap.size) wE wr):=htc
   have HGV:Hid (gv=w3.heap.size\/wE.heap.size<=gv):=hgv
   have HROW:Hid (ERow eTlb wr wb.heap.size (.slice (some ⟨gv,0,none⟩) (mapT A Bb M.tlb t).length cv) (mapT A Bb M.tlb t)):=hrow
   clear hE hg1 hg2 hae hrow htc hgv bW
   have htv:=valid_tlb HVV.out t hlt
   rw [show eAt eTlb M.tlb t=⟨P,S,O,R,D⟩ from HE.out] at htv
   have hts:(0<=P/\P < 100000)/\(0<=S/\S < 100000):=by
    simp only [tlbOkB,pageOk,Bool.and_eq_true,Bool.or_eq_true,decide_eq_true_eq] at htv
    omega
   have hmt:=meetS_any A Bb P S HAB.out.1 HAB.out.2 hts.1 hts.2
   rw [meets_comm] at hmt
   have hks:=mapT_succ A Bb M.tlb t hlt
   rw [show eAt eTlb M.tlb t=⟨P,S,O,R,D⟩ from HE.out,show doomT A Bb ⟨P,S,O,R,D⟩=⟨P,S,O,R,D || meets P S A Bb⟩ from rfl] at hks
   clear htv hts
   obtain ⟨wB,hwB⟩:∃ wB,wB=wr.alloc (.cells #[.int .i64 P,.int .i64 S,.int .i64 O,.int .i64 R,.bool D] 72):=⟨_,rfl⟩
   have hzB:wB.heap.size=wr.heap.size+1:=by rw [hwB]; simp
   have bTB:Below wr.heap.size wr wB:=by rw [hwB]; exact (Below.refl _ _).alloc (Nat.le_refl _) _
   have hbx:∀ wX,Below wB.heap.size wB wX->(wX.cell? ⟨wr.heap.size,0,none⟩=some (.int .i64 P)/\wX.cell? ⟨wr.heap.size,1,none⟩=some (.int .i64 S)/\wX.cell? ⟨wr.heap.size,2,none⟩=some (.int .i64 O)/\wX.cell? ⟨wr.heap.size,3,none⟩=some (.int .i64 R)/\wX.cell? ⟨wr.heap.size,4,none⟩=some (.bool D))/\wX.frozen? ⟨wr.heap.size,4,none⟩=false:=fun wX hX=>by
    refine ⟨⟨?_,?_,?_,?_,?_⟩,?_⟩
    iterate 5 (exact (hX.cell (by simp; omega)).trans (by rw [hwB]; simp [go_sem]))
    exact (hX.frozen (by simp; omega)).trans (by rw [hwB]; simp [go_sem])
   have HBX:Hid (∀ wX,Below wB.heap.size wB wX->(wX.cell? ⟨wr.heap.size,0,none⟩=some (.int .i64 P)/\wX.cell? ⟨wr.heap.size,1,none⟩=some (.int .i64 S)/\wX.cell? ⟨wr.heap.size,2,none⟩=some (.int .i64 O)/\wX.cell? ⟨wr.heap.size,3,none⟩=some (.int .i64 R)/\wX.cell? ⟨wr.heap.size,4,none⟩=some (.bool D))/\wX.frozen? ⟨wr.heap.size,4,none⟩=false):=hbx
   have HWB2:Hid (wB=_):=hwB
   have HTB:Hid (Below wr.heap.size wr wB):=bTB
   have HZB:Hid (wB.heap.size=wr.heap.size+1):=hzB
   clear hwB hzB bTB hbx
   cases hm:meets P S A Bb <;> rw [hm] at hmt hks
   ·have hkt:mapT A Bb M.tlb (t+1)=mapT A Bb M.tlb t ++ [⟨P,S,O,R,D⟩]:=by rw [hks]; simp
    have HKT:Hid (mapT A Bb M.tlb (t+1)=mapT A Bb M.tlb t ++ [⟨P,S,O,R,D⟩]):=hkt
    have HEC:Hid (eTlb.enc ⟨P,S,O,R,D⟩=[.int .i64 P,.int .i64 S,.int .i64 O,.int .i64 R,.bool D]):=(rfl:eTlb.enc ⟨P,S,O,R,D⟩=[.int .i64 P,.int .i64 S,.int .i64 O,.int .i64 R,.bool D])
    clear hm hks hkt
    go_wp2_with fail
    refine (hmt _).mono ?_
    rintro e w5 ⟨rfl,hw5⟩
    obtain rfl:=hw5.symm
    rw [<- HWB2.out]
    obtain ⟨⟨b0,b1,b2,b3,b4⟩,bf⟩:=HBX.out wB (Below.refl _ _)
    have hNB:wr.heap.size < wB.heap.size:=by have:=HZB.out; omega
    have HY:Hid (Touch (fun k=>k=w3.heap.size) wE wB):=HTC.out.trans (Touch.of_below HTB.out)
    have HRY:Hid (ERow eTlb wB wb.heap.size (.slice (some ⟨gv,0,none⟩) (mapT A Bb M.tlb t).length cv) (mapT A Bb M.tlb t)):=HROW.out.below HTB.out
    clear k0 k1 k2 k3 k4 q0 q1 q2 q3 p0 p1 p2 p3 hmt
    have HOWN:Hid (wB.ownsRow wb.heap.size 72 5 (.slice (some ⟨gv,0,none⟩) (mapT A Bb M.tlb t).length cv) (mapT A Bb M.tlb t).length (ecells eTlb (mapT A Bb M.tlb t))):=HRY.out
    have hyw:wb.heap.size<=wB.heap.size:=by have:=HY.out.size; have:=HBwE.out.size; omega
    go_wp2_with (at_builtin; refine wpList_append_lies _ rfl (.tmp 133) (.tmp 135) 35 rfl wb.heap.size 72 iT _ 5 40 Try.underlying35 hiT hzT0 hzT1 hzT2 rfl (by omega) _ _ _ rfl (World.ownsRow.alloc HOWN.out _) ⟨wB.heap.size,0,none⟩ 1 1 [.int .i64 P,.int .i64 S,.int .i64 O,.int .i64 R,.bool D] rfl rfl ?c1 ?c2 (by omega) ?c3 ?c4 ?c5 (wB.heap.size+1) ?c6 ?_)
    case c1=>exact World.news_of_block (heap_alloc_new wB (.cells #[.int .i64 P,.int .i64 S,.int .i64 O,.int .i64 R,.bool D] 72))
    case c2=>intro u hu; simp at hu; rcases hu with rfl | rfl | rfl | rfl | rfl <;> rfl
    case c3=>unfold maxLen; omega
    case c4=>omega
    case c5=>simp; omega
    case c6=>simp
    intro g1 cap1 wn hown hgrow hat hlt3
    rw [own_slice] at hgrow hat
    have hnew:ERow eTlb wn wb.heap.size (.slice (some ⟨g1,0,none⟩) ((mapT A Bb M.tlb t).length+1) cap1) ((mapT A Bb M.tlb t) ++ [⟨P,S,O,R,D⟩]):=ERow.snocL (m:=(mapT A Bb M.tlb t).length+1) rfl (by rw [HEC.out]; exact hown)
    have hog:oOf (some (⟨gv,0,none⟩:Addr))=some gv:=rfl
    have hys:=HY.out.size
    have hgn:g1=w3.heap.size\/wE.heap.size<=g1:=by
     rcases hat with h' | h'
     ·rw [hog] at h'
      obtain rfl:gv=g1:=by simpa using h'
      exact HGV.out
     ·exact .inr (by omega)
    have htn:Touch (fun k=>k=w3.heap.size) wE wn:=HY.out.then (S':=fun k=>gv=k) ⟨hgrow.os,hgrow.tape,hgrow.output,by have:=hgrow.size; simp at this; omega,fun k hk hn=>(hgrow.block k (by simp; omega) (fun e=>hn (by rw [hog] at e; simpa using e.symm))).trans (heap_alloc_old wB _ hk)⟩ (fun k hk e=>by rcases HGV.out with h' | h' <;> omega)
    have HNEW:Hid (ERow eTlb wn wb.heap.size (.slice (some ⟨g1,0,none⟩) ((mapT A Bb M.tlb t).length+1) cap1) ((mapT A Bb M.tlb t) ++ [⟨P,S,O,R,D⟩])):=hnew
    have HGN:Hid (g1=w3.heap.size\/wE.heap.size<=g1):=hgn
    have HTN:Hid (Touch (fun k=>k=w3.heap.size) wE wn):=htn
    clear hown hgrow hat hnew hgn htn hys b0
    go_wp2_with fail
    go_roundw
    case rel =>
     refine ⟨t+1,g1,cap1,by omega,by go_num,?_,?_,HGN.out,HTN.out⟩
     ·rw [HKT.out,List.length_append]; rfl
     ·rw [HKT.out,List.length_append]; exact HNEW.out
    case measure=>simp [intOf]; omega
   ·have hkt:mapT A Bb M.tlb (t+1)=mapT A Bb M.tlb t ++ [⟨P,S,O,R,true⟩]:=by rw [hks]; simp
    have HKT:Hid (mapT A Bb M.tlb (t+1)=mapT A Bb M.tlb t ++ [⟨P,S,O,R,true⟩]):=hkt
    have HEC:Hid (eTlb.enc ⟨P,S,O,R,true⟩=[.int .i64 P,.int .i64 S,.int .i64 O,.int .i64 R,.bool true]):=(rfl:eTlb.enc ⟨P,S,O,R,true⟩=[.int .i64 P,.int .i64 S,.int .i64 O,.int .i64 R,.bool true])
    clear hm hks hkt
    go_wp2_with fail
    refine (hmt _).mono ?_
    rintro e w5 ⟨rfl,hw5⟩
    obtain rfl:=hw5.symm
    rw [<- HWB2.out]
    obtain ⟨⟨b0,b1,b2,b3,b4⟩,bf⟩:=HBX.out wB (Below.refl _ _)
    have hNB:wr.heap.size < wB.heap.size:=by have:=HZB.out; omega
    obtain ⟨wY,hwY⟩:∃ wY,wY=wB.setCell ⟨wr.heap.size,4,none⟩ (.bool true):=⟨_,rfl⟩
    have hzY:wY.heap.size=wB.heap.size:=by rw [hwY]; simp
    have hTY:Touch (fun k=>k=wr.heap.size) wr wY:=by rw [hwY]; exact Touch.put (Touch.of_below HTB.out) _ _ (by rfl)
    have HY:Hid (Touch (fun k=>k=w3.heap.size) wE wY):=HTC.out.then hTY (fun k hk e=>by omega)
    have HRY:Hid (ERow eTlb wY wb.heap.size (.slice (some ⟨gv,0,none⟩) (mapT A Bb M.tlb t).length cv) (mapT A Bb M.tlb t)):=HROW.out.touch hTY (fun k h1 h2=>by have:=(HROW.out.own k h1).2; omega)
    have HWY:Hid (wY=_):=hwY
    clear k0 k1 k2 k3 k4 q0 q1 q2 q3 p0 p1 p2 p3 hmt hTY hwY
    have HOWN:Hid (wY.ownsRow wb.heap.size 72 5 (.slice (some ⟨gv,0,none⟩) (mapT A Bb M.tlb t).length cv) (mapT A Bb M.tlb t).length (ecells eTlb (mapT A Bb M.tlb t))):=HRY.out
    have hyw:wb.heap.size<=wY.heap.size:=by have:=HY.out.size; have:=HBwE.out.size; omega
    go_wp2_with (at_builtin; rw [<- HWY.out]; refine wpList_append_lies _ rfl (.tmp 133) (.tmp 135) 35 rfl wb.heap.size 72 iT _ 5 40 Try.underlying35 hiT hzT0 hzT1 hzT2 rfl (by omega) _ _ _ rfl (World.ownsRow.alloc HOWN.out _) ⟨wB.heap.size,0,none⟩ 1 1 [.int .i64 P,.int .i64 S,.int .i64 O,.int .i64 R,.bool true] rfl rfl ?c1 ?c2 (by omega) ?c3 ?c4 ?c5 (wB.heap.size+1) ?c6 ?_)
    case c1=>rw [<- hzY]; exact World.news_of_block (heap_alloc_new wY (.cells #[.int .i64 P,.int .i64 S,.int .i64 O,.int .i64 R,.bool true] 72))
    case c2=>intro u hu; simp at hu; rcases hu with rfl | rfl | rfl | rfl | rfl <;> rfl
    case c3=>unfold maxLen; omega
    case c4=>omega
    case c5=>simp; omega
    case c6=>rw [<- hzY]; simp
    intro g1 cap1 wn hown hgrow hat hlt3
    rw [own_slice] at hgrow hat
    have hnew:ERow eTlb wn wb.heap.size (.slice (some ⟨g1,0,none⟩) ((mapT A Bb M.tlb t).length+1) cap1) ((mapT A Bb M.tlb t) ++ [⟨P,S,O,R,true⟩]):=ERow.snocL (m:=(mapT A Bb M.tlb t).length+1) rfl (by rw [HEC.out]; exact hown)
    have hog:oOf (some (⟨gv,0,none⟩:Addr))=some gv:=rfl
    have hys:=HY.out.size
    have hgn:g1=w3.heap.size\/wE.heap.size<=g1:=by
     rcases hat with h' | h'
     ·rw [hog] at h'
      obtain rfl:gv=g1:=by simpa using h'
      exact HGV.out
     ·exact .inr (by omega)
    have htn:Touch (fun k=>k=w3.heap.size) wE wn:=HY.out.then (S':=fun k=>gv=k) ⟨hgrow.os,hgrow.tape,hgrow.output,by have:=hgrow.size; simp at this; omega,fun k hk hn=>(hgrow.block k (by simp; omega) (fun e=>hn (by rw [hog] at e; simpa using e.symm))).trans (heap_alloc_old wY _ hk)⟩ (fun k hk e=>by rcases HGV.out with h' | h' <;> omega)
    have HNEW:Hid (ERow eTlb wn wb.heap.size (.slice (some ⟨g1,0,none⟩) ((mapT A Bb M.tlb t).length+1) cap1) ((mapT A Bb M.tlb t) ++ [⟨P,S,O,R,true⟩])):=hnew
    have HGN:Hid (g1=w3.heap.size\/wE.heap.size<=g1):=hgn
    have HTN:Hid (Touch (fun k=>k=w3.heap.size) wE wn):=htn
    clear hown hgrow hat hnew hgn htn hys b0
    go_wp2_with fail
    go_roundw
    case rel =>
     refine ⟨t+1,g1,cap1,by omega,by go_num,?_,?_,HGN.out,HTN.out⟩
     ·rw [HKT.out,List.length_append]; rfl
     ·rw [HKT.out,List.length_append]; exact HNEW.out
    case measure=>simp [intOf]; omega
  ·obtain rfl:t=M.tlb.length:=by omega
   have LF:¬ (M.tlb.length:Int) < (M.tlb.length:Int):=by omega
   have HBwT:Hid (Below wb.heap.size wb wr):=bW
   have HROWT:Hid (ERow eTlb wr wb.heap.size (.slice (some ⟨gv,0,none⟩) (mapT A Bb M.tlb M.tlb.length).length cv) (mapT A Bb M.tlb M.tlb.length)):=hrow
   have HGVT:Hid (gv=w3.heap.size\/wE.heap.size<=gv):=hgv
   have HTCT:Hid (Touch (fun k=>k=w3.heap.size) wE wr):=htc
   have HZwT:Hid (wb.heap.size<=w3.heap.size+1/\wE.heap.size<=wr.heap.size/\wE.heap.size=w3.heap.size+2):=⟨by have:=HZwE.out; omega,hsz,HZwE.out.2⟩
   clear hrow hgv htc bW hsz hszb hKL hlt ht
   go_wp2_with fail
   obtain ⟨wT,e0⟩:∃ x,x=wr:=⟨_,rfl⟩
   subst e0
   obtain ⟨gT,e0⟩:∃ x,x=gv:=⟨_,rfl⟩
   subst e0
   obtain ⟨cT,e0⟩:∃ x,x=cv:=⟨_,rfl⟩
   subst e0
   clear q0 q1 q2 q3 p0 p1 p2 p3 N0 N1 N2 LF
   go_loopw [9,14] (fun vv iv wr=>∃ t gv cv:Nat,t<=M.wc.length/\iv=.int .i64 t/\vv=.slice (some ⟨gv,0,none⟩) (mapW A Bb M.wc t).length cv/\ERow eWc wr wb.heap.size (.slice (some ⟨gv,0,none⟩) (mapW A Bb M.wc t).length cv) (mapW A Bb M.wc t)/\(gv=(w3.heap.size+1)\/wT.heap.size<=gv)/\Touch (fun k=>k=(w3.heap.size+1)) wT wr) (fun _ iv _=>M.wc.length - (intOf iv).toNat)
   case atStart =>
    refine ⟨0,w3.heap.size+1,0,Nat.zero_le _,rfl,?_,?_,.inl rfl,Touch.none _⟩
    ·rfl
    ·exact HW0.out.touch HTCT.out (fun k h1 h2=>by simp [Value.ownBlock] at h1; omega)
   case round =>
    obtain ⟨t,gv,cv,ht,rfl,rfl,hrow,hgv,htc⟩:=hrel
    have hsz:=htc.size
    have bW:Below wb.heap.size wb wr:=Touch.below HBwT.out htc HBwT.out.size (fun k hk=>by have:=HZwT.out; omega)
    have hszb:=bW.size
    obtain ⟨⟨q0,q1,q2,q3⟩,⟨p0,p1,p2,p3⟩,_,_,N0,N1,N2⟩:=HBOX.out wr bW
    have hKL:(mapW A Bb M.wc t).length<=t:=mapW_le A Bb M.wc t
    by_cases hlt:t < M.wc.length
    ·obtain ⟨E0,hE⟩:∃ E0,eAt eWc M.wc t=E0:=⟨_,rfl⟩
     obtain ⟨L,P,T,D⟩:=E0
     obtain ⟨g,hg1,hg2⟩:=wcS_cells (show ERow eWc wr b (.slice s.a4 M.wc.length s.c4) M.wc from (HM.out wr bW).c)
     obtain ⟨hae,hgl⟩:=hg1 (by omega)
     obtain ⟨k0,k1,k2,k3⟩:=hg2 t L P T D hlt hE wr rfl
     rw [hae] at q3
     have HE:Hid (eAt eWc M.wc t=_):=hE
     have L1:(0:Int)<=(t:Int):=by omega
     have L2:(t:Int) < (M.wc.length:Int):=by omega
     have HTC:Hid (Touch (fun k=>k=(w3.heap.size+1)) wT wr):=htc
     have HGV:Hid (gv=(w3.heap.size+1)\/wT.heap.size<=gv):=hgv
     have HROW:Hid (ERow eWc wr wb.heap.size (.slice (some ⟨gv,0,none⟩) (mapW A Bb M.wc t).length cv) (mapW A Bb M.wc t)):=hrow
     clear hE hg1 hg2 hae hrow htc hgv bW
     have htv:=valid_wc HVV.out t hlt
     rw [show eAt eWc M.wc t=⟨L,P,T,D⟩ from HE.out] at htv
     have hts:(0<=P/\P < 100000)/\(L=2\/L=3):=by
      simp only [wcOkB,pageOk,Bool.and_eq_true,Bool.or_eq_true,decide_eq_true_eq] at htv
      omega
     have hcv:=covers_any (L - 1)
     obtain ⟨S,hS⟩:∃ S,S=cov (L - 1):=⟨_,rfl⟩
     have hS2:S=16 * cov L:=by rw [hS]; rcases hts.2 with rfl | rfl <;> decide
     have hS3:0<=S/\S < 100000:=by rw [hS]; rcases hts.2 with rfl | rfl <;> decide
     rw [<- hS] at hcv
     have hmt:=meetS_any A Bb P S HAB.out.1 HAB.out.2 hts.1 hS3
     rw [meets_comm] at hmt
     have W1:IntKind.i64.wrap (L - 1)=L - 1:=by rw [IntKind.wrap_i64]; omega
     have hks:=mapW_succ A Bb M.wc t hlt
     rw [show eAt eWc M.wc t=⟨L,P,T,D⟩ from HE.out,show doomW A Bb ⟨L,P,T,D⟩=⟨L,P,T,D || meets P (16 * cov L) A Bb⟩ from rfl,<- hS2] at hks
     clear htv hts hS hS2 hS3
     obtain ⟨wB,hwB⟩:∃ wB,wB=wr.alloc (.cells #[.int .i64 L,.int .i64 P,.int .i64 T,.bool D] 74):=⟨_,rfl⟩
     have hzB:wB.heap.size=wr.heap.size+1:=by rw [hwB]; simp
     have bTB:Below wr.heap.size wr wB:=by rw [hwB]; exact (Below.refl _ _).alloc (Nat.le_refl _) _
     have hbx:∀ wX,Below wB.heap.size wB wX->(wX.cell? ⟨wr.heap.size,0,none⟩=some (.int .i64 L)/\wX.cell? ⟨wr.heap.size,1,none⟩=some (.int .i64 P)/\wX.cell? ⟨wr.heap.size,2,none⟩=some (.int .i64 T)/\wX.cell? ⟨wr.heap.size,3,none⟩=some (.bool D))/\wX.frozen? ⟨wr.heap.size,3,none⟩=false:=fun wX hX=>by
      refine ⟨⟨?_,?_,?_,?_⟩,?_⟩
      iterate 4 (exact (hX.cell (by simp; omega)).trans (by rw [hwB]; simp [go_sem]))
      exact (hX.frozen (by simp; omega)).trans (by rw [hwB]; simp [go_sem])
     have HKX:Hid (∀ wX,Below wB.heap.size wB wX->(wX.cell? ⟨w.heap.size+1,1,none⟩=some (.int .i64 A)/\wX.cell? ⟨w.heap.size+1,2,none⟩=some (.int .i64 Bb))/\(wX.cell? ⟨wr.heap.size,0,none⟩=some (.int .i64 L)/\wX.cell? ⟨wr.heap.size,1,none⟩=some (.int .i64 P)/\wX.cell? ⟨wr.heap.size,2,none⟩=some (.int .i64 T)/\wX.cell? ⟨wr.heap.size,3,none⟩=some (.bool D))):=fun wX hX=>⟨⟨((bTB.trans (hX.mono bTB.size)).cell (by simp; omega)).trans p1,((bTB.trans (hX.mono bTB.size)).cell (by simp; omega)).trans p2⟩,(hbx wX hX).1⟩
     have HBX:Hid (∀ wX,Below wB.heap.size wB wX->(wX.cell? ⟨wr.heap.size,0,none⟩=some (.int .i64 L)/\wX.cell? ⟨wr.heap.size,1,none⟩=some (.int .i64 P)/\wX.cell? ⟨wr.heap.size,2,none⟩=some (.int .i64 T)/\wX.cell? ⟨wr.heap.size,3,none⟩=some (.bool D))/\wX.frozen? ⟨wr.heap.size,3,none⟩=false):=hbx
     have HWB2:Hid (wB=_):=hwB
     have HTB:Hid (Below wr.heap.size wr wB):=bTB
     have HZB:Hid (wB.heap.size=wr.heap.size+1):=hzB
     clear hwB hzB bTB hbx
     cases hm:meets P S A Bb <;> rw [hm] at hmt hks
     ·have hkt:mapW A Bb M.wc (t+1)=mapW A Bb M.wc t ++ [⟨L,P,T,D⟩]:=by rw [hks]; simp
      have HKT:Hid (mapW A Bb M.wc (t+1)=mapW A Bb M.wc t ++ [⟨L,P,T,D⟩]):=hkt
      have HEC:Hid (eWc.enc ⟨L,P,T,D⟩=[.int .i64 L,.int .i64 P,.int .i64 T,.bool D]):=(rfl:eWc.enc ⟨L,P,T,D⟩=[.int .i64 L,.int .i64 P,.int .i64 T,.bool D])
      clear hm hks hkt
      go_wp2_with fail
      rw [<- HWB2.out]
      refine wp_region_held_drew (S:=(fun wX=>(wX.cell? ⟨w.heap.size+1,1,none⟩=some (.int .i64 A)/\wX.cell? ⟨w.heap.size+1,2,none⟩=some (.int .i64 Bb))/\(wX.cell? ⟨wr.heap.size,0,none⟩=some (.int .i64 L)/\wX.cell? ⟨wr.heap.size,1,none⟩=some (.int .i64 P)/\wX.cell? ⟨wr.heap.size,2,none⟩=some (.int .i64 T)/\wX.cell? ⟨wr.heap.size,3,none⟩=some (.bool D)))) (by kernel_rfl) (HKX.out _ ((Below.refl _ _).drew)) (fun hHeld=>?_)
      refine tk 0 ?_
      refine tk 1 ?_
      refine tk 2 ?_
      refine tk 3 ?_
      refine tk 4 ?_
      refine tk 5 ?_
      refine tk 6 ?_
      refine tk 7 ?_
      refine tk 8 ?_
      refine wpAnyH_ready (rs:=[9]) (by kernel_rfl) (by simp) ?_
      refine AllReadyH.cons rfl (fun K hK=>?_) AllReadyH.nil
      go_simp
      go_at_call 87
      refine (hcv _).mono ?_
      rintro e w5 ⟨rfl,hw5⟩
      obtain rfl:=hw5.symm
      go_wp2_with fail
      refine hK.out _ _ (HKX.out _ ((Below.refl _ _).drew)) (fun hHeld2=>?_)
      clear hK K
      refine wpAnyH_ready (rs:=[10]) (by kernel_rfl) (by simp) ?_
      refine AllReadyH.cons rfl (fun K hK=>?_) AllReadyH.nil
      go_simp
      go_at_call 86
      refine (hmt _).mono ?_
      rintro e w6 ⟨rfl,hw6⟩
      obtain rfl:=hw6.symm
      go_wp2_with fail
      refine hK.out _ _ (HKX.out _ ((Below.refl _ _).drew)) (fun hHeld2=>?_)
      clear hK K
      refine wpAnyH_done (by kernel_rfl) ?_ _
      obtain ⟨wD,hwD⟩:∃ wD,wD=wB.drew:=⟨_,rfl⟩
      have hzD:wD.heap.size=wB.heap.size:=by rw [hwD]; rfl
      have bD:Below wB.heap.size wB wD:=by rw [hwD]; exact (Below.refl _ _).drew
      rw [<- hwD]
      obtain ⟨⟨b0,b1,b2,b3⟩,bf⟩:=HBX.out wD bD
      have HZD:Hid (wD.heap.size=wB.heap.size):=hzD
      clear hwD hHeld hHeld2 hzD
      have hNB:wr.heap.size < wD.heap.size:=by have:=HZB.out; have:=HZD.out; omega
      have HY:Hid (Touch (fun k=>k=(w3.heap.size+1)) wT wD):=HTC.out.trans (Touch.of_below (HTB.out.trans (bD.mono HTB.out.size)))
      have HRY:Hid (ERow eWc wD wb.heap.size (.slice (some ⟨gv,0,none⟩) (mapW A Bb M.wc t).length cv) (mapW A Bb M.wc t)):=HROW.out.below (HTB.out.trans (bD.mono HTB.out.size))
      clear k0 k1 k2 k3 q0 q1 q2 q3 p0 p1 p2 p3 hmt bD
      have HOWN:Hid (wD.ownsRow wb.heap.size 74 4 (.slice (some ⟨gv,0,none⟩) (mapW A Bb M.wc t).length cv) (mapW A Bb M.wc t).length (ecells eWc (mapW A Bb M.wc t))):=HRY.out
      have hyw:wb.heap.size<=wD.heap.size:=by have:=HY.out.size; have:=HBwT.out.size; omega
      go_wp2_with (at_builtin; refine wpList_append_lies _ rfl (.tmp 161) (.tmp 163) 36 rfl wb.heap.size 74 iC _ 4 32 Try.underlying36 hiC hzC0 hzC1 hzC2 rfl (by omega) _ _ _ rfl (World.ownsRow.alloc HOWN.out _) ⟨wD.heap.size,0,none⟩ 1 1 [.int .i64 L,.int .i64 P,.int .i64 T,.bool D] rfl rfl ?c1 ?c2 (by omega) ?c3 ?c4 ?c5 (wD.heap.size+1) ?c6 ?_)
      case c1=>exact World.news_of_block (heap_alloc_new wD (.cells #[.int .i64 L,.int .i64 P,.int .i64 T,.bool D] 74))
      case c2=>intro u hu; simp at hu; rcases hu with rfl | rfl | rfl | rfl <;> rfl
      case c3=>unfold maxLen; omega
      case c4=>omega
      case c5=>simp; omega
      case c6=>simp
      intro g1 cap1 wn hown hgrow hat hlt3
      rw [own_slice] at hgrow hat
      have hnew:ERow eWc wn wb.heap.size (.slice (some ⟨g1,0,none⟩) ((mapW A Bb M.wc t).length+1) cap1) ((mapW A Bb M.wc t) ++ [⟨L,P,T,D⟩]):=ERow.snocL (m:=(mapW A Bb M.wc t).length+1) rfl (by rw [HEC.out]; exact hown)
      have hog:oOf (some (⟨gv,0,none⟩:Addr))=some gv:=rfl
      have hys:=HY.out.size
      have hgn:g1=(w3.heap.size+1)\/wT.heap.size<=g1:=by
       rcases hat with h' | h'
       ·rw [hog] at h'
        obtain rfl:gv=g1:=by simpa using h'
        exact HGV.out
       ·exact .inr (by omega)
      have htn:Touch (fun k=>k=(w3.heap.size+1)) wT wn:=HY.out.then (S':=fun k=>gv=k) ⟨hgrow.os,hgrow.tape,hgrow.output,by have:=hgrow.size; simp at this; omega,fun k hk hn=>(hgrow.block k (by simp; omega) (fun e=>hn (by rw [hog] at e; simpa using e.symm))).trans (heap_alloc_old wD _ hk)⟩ (fun k hk e=>by rcases HGV.out with h' | h' <;> omega)
      have HNEW:Hid (ERow eWc wn wb.heap.size (.slice (some ⟨g1,0,none⟩) ((mapW A Bb M.wc t).length+1) cap1) ((mapW A Bb M.wc t) ++ [⟨L,P,T,D⟩])):=hnew
      have HGN:Hid (g1=(w3.heap.size+1)\/wT.heap.size<=g1):=hgn
      have HTN:Hid (Touch (fun k=>k=(w3.heap.size+1)) wT wn):=htn
      clear hown hgrow hat hnew hgn htn hys b0
      go_wp2_with fail
      go_roundw
      case rel =>
       refine ⟨t+1,g1,cap1,by omega,by go_num,?_,?_,HGN.out,HTN.out⟩
       ·rw [HKT.out,List.length_append]; rfl
       ·rw [HKT.out,List.length_append]; exact HNEW.out
      case measure=>simp [intOf]; omega
     ·have hkt:mapW A Bb M.wc (t+1)=mapW A Bb M.wc t ++ [⟨L,P,T,true⟩]:=by rw [hks]; simp
      have HKT:Hid (mapW A Bb M.wc (t+1)=mapW A Bb M.wc t ++ [⟨L,P,T,true⟩]):=hkt
      have HEC:Hid (eWc.enc ⟨L,P,T,true⟩=[.int .i64 L,.int .i64 P,.int .i64 T,.bool true]):=(rfl:eWc.enc ⟨L,P,T,true⟩=[.int .i64 L,.int .i64 P,.int .i64 T,.bool true])
      clear hm hks hkt
      go_wp2_with fail
      rw [<- HWB2.out]
      refine wp_region_held_drew (S:=(fun wX=>(wX.cell? ⟨w.heap.size+1,1,none⟩=some (.int .i64 A)/\wX.cell? ⟨w.heap.size+1,2,none⟩=some (.int .i64 Bb))/\(wX.cell? ⟨wr.heap.size,0,none⟩=some (.int .i64 L)/\wX.cell? ⟨wr.heap.size,1,none⟩=some (.int .i64 P)/\wX.cell? ⟨wr.heap.size,2,none⟩=some (.int .i64 T)/\wX.cell? ⟨wr.heap.size,3,none⟩=some (.bool D)))) (by kernel_rfl) (HKX.out _ ((Below.refl _ _).drew)) (fun hHeld=>?_)
      refine tk 0 ?_
      refine tk 1 ?_
      refine tk 2 ?_
      refine tk 3 ?_
      refine tk 4 ?_
      refine tk 5 ?_
      refine tk 6 ?_
      refine tk 7 ?_
      refine tk 8 ?_
      refine wpAnyH_ready (rs:=[9]) (by kernel_rfl) (by simp) ?_
      refine AllReadyH.cons rfl (fun K hK=>?_) AllReadyH.nil
      go_simp
      go_at_call 87
      refine (hcv _).mono ?_
      rintro e w5 ⟨rfl,hw5⟩
      obtain rfl:=hw5.symm
      go_wp2_with fail
      refine hK.out _ _ (HKX.out _ ((Below.refl _ _).drew)) (fun hHeld2=>?_)
      clear hK K
      refine wpAnyH_ready (rs:=[10]) (by kernel_rfl) (by simp) ?_
      refine AllReadyH.cons rfl (fun K hK=>?_) AllReadyH.nil
      go_simp
      go_at_call 86
      refine (hmt _).mono ?_
      rintro e w6 ⟨rfl,hw6⟩
      obtain rfl:=hw6.symm
      go_wp2_with fail
      refine hK.out _ _ (HKX.out _ ((Below.refl _ _).drew)) (fun hHeld2=>?_)
      clear hK K
      refine wpAnyH_done (by kernel_rfl) ?_ _
      obtain ⟨wD,hwD⟩:∃ wD,wD=wB.drew:=⟨_,rfl⟩
      have hzD:wD.heap.size=wB.heap.size:=by rw [hwD]; rfl
      have bD:Below wB.heap.size wB wD:=by rw [hwD]; exact (Below.refl _ _).drew
      rw [<- hwD]
      obtain ⟨⟨b0,b1,b2,b3⟩,bf⟩:=HBX.out wD bD
      have HZD:Hid (wD.heap.size=wB.heap.size):=hzD
      clear hwD hHeld hHeld2 hzD
      have hNB:wr.heap.size < wD.heap.size:=by have:=HZB.out; have:=HZD.out; omega
      obtain ⟨wY,hwY⟩:∃ wY,wY=wD.setCell ⟨wr.heap.size,3,none⟩ (.bool true):=⟨_,rfl⟩
      have hzY:wY.heap.size=wD.heap.size:=by rw [hwY]; simp
      have hTY:Touch (fun k=>k=wr.heap.size) wr wY:=by rw [hwY]; exact Touch.put (Touch.of_below (HTB.out.trans (bD.mono HTB.out.size))) _ _ (by rfl)
      have HY:Hid (Touch (fun k=>k=(w3.heap.size+1)) wT wY):=HTC.out.then hTY (fun k hk e=>by omega)
      have HRY:Hid (ERow eWc wY wb.heap.size (.slice (some ⟨gv,0,none⟩) (mapW A Bb M.wc t).length cv) (mapW A Bb M.wc t)):=HROW.out.touch hTY (fun k h1 h2=>by have:=(HROW.out.own k h1).2; omega)
      have HWY:Hid (wY=_):=hwY
      clear k0 k1 k2 k3 q0 q1 q2 q3 p0 p1 p2 p3 hmt hTY hwY bD
      have HOWN:Hid (wY.ownsRow wb.heap.size 74 4 (.slice (some ⟨gv,0,none⟩) (mapW A Bb M.wc t).length cv) (mapW A Bb M.wc t).length (ecells eWc (mapW A Bb M.wc t))):=HRY.out
      have hyw:wb.heap.size<=wY.heap.size:=by have:=HY.out.size; have:=HBwT.out.size; omega
      go_wp2_with (at_builtin; rw [<- HWY.out]; refine wpList_append_lies _ rfl (.tmp 161) (.tmp 163) 36 rfl wb.heap.size 74 iC _ 4 32 Try.underlying36 hiC hzC0 hzC1 hzC2 rfl (by omega) _ _ _ rfl (World.ownsRow.alloc HOWN.out _) ⟨wD.heap.size,0,none⟩ 1 1 [.int .i64 L,.int .i64 P,.int .i64 T,.bool true] rfl rfl ?c1 ?c2 (by omega) ?c3 ?c4 ?c5 (wD.heap.size+1) ?c6 ?_)
      case c1=>rw [<- hzY]; exact World.news_of_block (heap_alloc_new wY (.cells #[.int .i64 L,.int .i64 P,.int .i64 T,.bool true] 74))
      case c2=>intro u hu; simp at hu; rcases hu with rfl | rfl | rfl | rfl <;> rfl
      case c3=>unfold maxLen; omega
      case c4=>omega
      case c5=>simp; omega
      case c6=>rw [<- hzY]; simp
      intro g1 cap1 wn hown hgrow hat hlt3
      rw [own_slice] at hgrow hat
      have hnew:ERow eWc wn wb.heap.size (.slice (some ⟨g1,0,none⟩) ((mapW A Bb M.wc t).length+1) cap1) ((mapW A Bb M.wc t) ++ [⟨L,P,T,true⟩]):=ERow.snocL (m:=(mapW A Bb M.wc t).length+1) rfl (by rw [HEC.out]; exact hown)
      have hog:oOf (some (⟨gv,0,none⟩:Addr))=some gv:=rfl
      have hys:=HY.out.size
      have hgn:g1=(w3.heap.size+1)\/wT.heap.size<=g1:=by
       rcases hat with h' | h'
       ·rw [hog] at h'
        obtain rfl:gv=g1:=by simpa using h'
        exact HGV.out
       ·exact .inr (by omega)
      have htn:Touch (fun k=>k=(w3.heap.size+1)) wT wn:=HY.out.then (S':=fun k=>gv=k) ⟨hgrow.os,hgrow.tape,hgrow.output,by have:=hgrow.size; simp at this; omega,fun k hk hn=>(hgrow.block k (by simp; omega) (fun e=>hn (by rw [hog] at e; simpa using e.symm))).trans (heap_alloc_old wY _ hk)⟩ (fun k hk e=>by rcases HGV.out with h' | h' <;> omega)
      have HNEW:Hid (ERow eWc wn wb.heap.size (.slice (some ⟨g1,0,none⟩) ((mapW A Bb M.wc t).length+1) cap1) ((mapW A Bb M.wc t) ++ [⟨L,P,T,true⟩])):=hnew
      have HGN:Hid (g1=(w3.heap.size+1)\/wT.heap.size<=g1):=hgn
      have HTN:Hid (Touch (fun k=>k=(w3.heap.size+1)) wT wn):=htn
      clear hown hgrow hat hnew hgn htn hys b0
      go_wp2_with fail
      go_roundw
      case rel =>
       refine ⟨t+1,g1,cap1,by omega,by go_num,?_,?_,HGN.out,HTN.out⟩
       ·rw [HKT.out,List.length_append]; rfl
       ·rw [HKT.out,List.length_append]; exact HNEW.out
      case measure=>simp [intOf]; omega
    ·obtain rfl:t=M.wc.length:=by omega
     have LF:¬ (M.wc.length:Int) < (M.wc.length:Int):=by omega
     have HBwW:Hid (Below wb.heap.size wb wr):=bW
     have HROWW:Hid (ERow eWc wr wb.heap.size (.slice (some ⟨gv,0,none⟩) (mapW A Bb M.wc M.wc.length).length cv) (mapW A Bb M.wc M.wc.length)):=hrow
     have HGVW:Hid (gv=w3.heap.size+1\/wT.heap.size<=gv):=hgv
     have HTCW:Hid (Touch (fun k=>k=w3.heap.size+1) wT wr):=htc
     have HSW:Hid (wT.heap.size<=wr.heap.size):=hsz
     have bOT:Below wO.heap.size wO wT:=Touch.below HOE.out HTCT.out HOE.out.size (fun k hk=>by have:=HBO3.out.size; omega)
     have bOW:Below wO.heap.size wO wr:=Touch.below bOT htc bOT.size (fun k hk=>by have:=HBO3.out.size; omega)
     have HOW:Hid (Below wO.heap.size wO wr):=bOW
     obtain ⟨⟨o0,o1,o2,o3⟩,y0,y1,y2,y3⟩:=HOB.out wr bOW
     obtain ⟨_,_,⟨r0,r1,r2,r3⟩,⟨z0,z1,z2,z3⟩,_,_,_⟩:=HBOX.out wr bW
     have N5:w2.heap.size < wr.heap.size:=by have:=bOW.size; have:=HZO.out; omega
     have N6:¬ w2.heap.size=w.heap.size+2:=by omega
     clear hrow hgv htc bW hsz hszb hKL hlt ht bOT bOW
     go_wp2_with fail
     obtain ⟨wM,hwM⟩:∃ wM,wM=(wr.setCell ⟨w2.heap.size,2,none⟩ (.slice (some ⟨gT,0,none⟩) (mapT A Bb M.tlb M.tlb.length).length cT)).setCell ⟨w2.heap.size,3,none⟩ (.slice (some ⟨gv,0,none⟩) (mapW A Bb M.wc M.wc.length).length cv):=⟨_,rfl⟩
     rw [<- hwM]
     have HTM:Hid (Touch (fun k=>k=w2.heap.size) wr wM):=by rw [hwM]; exact Touch.put (Touch.put (Touch.none _) _ _ (by rfl)) _ _ (by rfl)
     have HBN:Hid (Below wb.heap.size wb wM):=Touch.below HBwW.out HTM.out HBwW.out.size (fun k hk=>by have:=HZ.out; omega)
     obtain ⟨_,_,⟨r0,r1,r2,r3⟩,_,_,_,_⟩:=HBOX.out wM HBN.out
     obtain ⟨wF,hwF⟩:∃ wF,wF=((((wM.setCell ⟨w.heap.size+1+1,0,none⟩ (.slice s1.a1 M.mem.length s1.c1)).setCell ⟨w.heap.size+1+1,1,none⟩ (.slice s1.a2 M.pend.length s1.c2)).setCell ⟨w.heap.size+1+1,2,none⟩ (.slice (some ⟨gT,0,none⟩) (mapT A Bb M.tlb M.tlb.length).length cT)).setCell ⟨w.heap.size+1+1,3,none⟩ (.slice (some ⟨gv,0,none⟩) (mapW A Bb M.wc M.wc.length).length cv)):=⟨_,rfl⟩
     rw [<- hwF]
     have hTF:Touch (fun k=>k=w.heap.size+2) wM wF:=by
      rw [hwF]
      exact Touch.put (Touch.put (Touch.put (Touch.put (Touch.none _) _ _ (by rfl)) _ _ (by rfl)) _ _ (by rfl)) _ _ (by rfl)
     have f0:wF.cell? ⟨w.heap.size+1+1,0,none⟩=some (.slice s1.a1 M.mem.length s1.c1):=by rw [hwF]; simp [go_sem,r0]
     have f1:wF.cell? ⟨w.heap.size+1+1,1,none⟩=some (.slice s1.a2 M.pend.length s1.c2):=by rw [hwF]; simp [go_sem,r1]
     have f2:wF.cell? ⟨w.heap.size+1+1,2,none⟩=some (.slice (some ⟨gT,0,none⟩) (mapT A Bb M.tlb M.tlb.length).length cT):=by rw [hwF]; simp [go_sem,r2]
     have f3:wF.cell? ⟨w.heap.size+1+1,3,none⟩=some (.slice (some ⟨gv,0,none⟩) (mapW A Bb M.wc M.wc.length).length cv):=by rw [hwF]; simp [go_sem,r3]
     have rF:MRow wF w1.heap.size ((⟨s1.a1,s1.c1,s1.a2,s1.c2,some ⟨gT,0,none⟩,cT,some ⟨gv,0,none⟩,cv⟩:SV).mv (⟨M.mem,M.pend,M.tlb.map (doomT A Bb),M.wc.map (doomW A Bb)⟩:Mach)) (⟨M.mem,M.pend,M.tlb.map (doomT A Bb),M.wc.map (doomW A Bb)⟩:Mach):=by
      have e1:=HB1.out.size
      have e2:=HZ.out
      have e3:=HS12.out
      have e4:=HZO.out
      have e5:=HBO3.out.size
      have e6:=HZwT.out
      have e7:=HB3.out.size
      have hr:=HRO.out.below HOW.out
      have key:∀ {α:Type} {E:Elt α} {v:Value} {xs:List α},ERow E wr w1.heap.size v xs->(∀ k,v.ownBlock=some k->k < w2.heap.size)->ERow E wF w1.heap.size v xs:=fun hr hk=>by
       refine (hr.touch HTM.out (fun k h1 h2=>by have:=hk k h1; omega)).touch hTF (fun k h1 h2=>?_)
       have:=(hr.own k h1).1
       omega
      refine ⟨key hr.w (fun k h1=>(HO2.out k (.inl h1)).2),key hr.p (fun k h1=>(HO2.out k (.inr (.inl h1))).2),?_,?_⟩
      ·show ERow eTlb wF w1.heap.size (.slice (some ⟨gT,0,none⟩) (M.tlb.map (doomT A Bb)).length cT) (M.tlb.map (doomT A Bb))
       rw [<- mapT_end]
       have h0:∀ k,(Value.slice (some ⟨gT,0,none⟩) (mapT A Bb M.tlb M.tlb.length).length cT).ownBlock=some k->gT=k:=fun k h1=>by simpa [Value.ownBlock] using h1
       refine (((HROWT.out.touch HTCW.out (fun k h1 h2=>?_)).touch HTM.out (fun k h1 h2=>?_)).touch hTF (fun k h1 h2=>?_)).rebase2 (fun k h1=>?_)
       ·have h3:=h0 k h1; rcases HGVT.out with h4 | h4 <;> omega
       ·have h3:=h0 k h1; rcases HGVT.out with h4 | h4 <;> omega
       ·have h3:=h0 k h1; rcases HGVT.out with h4 | h4 <;> omega
       ·have h3:=h0 k h1; rcases HGVT.out with h4 | h4 <;> omega
      ·show ERow eWc wF w1.heap.size (.slice (some ⟨gv,0,none⟩) (M.wc.map (doomW A Bb)).length cv) (M.wc.map (doomW A Bb))
       rw [<- mapW_end]
       have h0:∀ k,(Value.slice (some ⟨gv,0,none⟩) (mapW A Bb M.wc M.wc.length).length cv).ownBlock=some k->gv=k:=fun k h1=>by simpa [Value.ownBlock] using h1
       refine ((HROWW.out.touch HTM.out (fun k h1 h2=>?_)).touch hTF (fun k h1 h2=>?_)).rebase2 (fun k h1=>?_)
       ·have h3:=h0 k h1; rcases HGVW.out with h4 | h4 <;> omega
       ·have h3:=h0 k h1; rcases HGVW.out with h4 | h4 <;> omega
       ·have h3:=h0 k h1; rcases HGVW.out with h4 | h4 <;> omega
     have hbF:Below w.heap.size w wF:=Touch.below (HBB.out.trans (HBN.out.mono HBB.out.size)) hTF (by have:=HBN.out.size; have:=HZ.out; omega) (fun k hk=>by omega)
     exact bodyPost_ret (v:=.tuple #[.agg #[.slice s1.a1 M.mem.length s1.c1,.slice s1.a2 M.pend.length s1.c2,.slice (some ⟨gT,0,none⟩) (M.tlb.map (doomT A Bb)).length cT,.slice (some ⟨gv,0,none⟩) (M.wc.map (doomW A Bb)).length cv],.int .i64 0]) (by simp [results,Try.results29,go_sem,f0,f1,f2,f3,mapT_end,mapW_end]) rfl ⟨(⟨s1.a1,s1.c1,s1.a2,s1.c2,some ⟨gT,0,none⟩,cT,some ⟨gv,0,none⟩,cv⟩:SV),by first | rfl | simp,rF.rebase (by have:=HB1.out.size; have:=HZ.out; omega),hbF⟩
end Go.Proofs.Ytnmhkgmmpkjjeaa
