import Derived.Test.YtnmhkgmmpkjjeaaG33
import Derived.Test.YtnmhkgmmpkjjeaaG17
namespace Go.Proofs.Ytnmhkgmmpkjjeaa
open Go.ChangeShapes Go.WideShapes Go.ChangeAt Go.RowKit
set_option linter.unusedVariables false
set_option maxRecDepth 100000
attribute [local go_sem ↓] Go.wp_at_zero Go.wp_at_succ
theorem sameWords_yes (v u:Value) (bv bu:Nat) (zs:List Int) (w:World) (hn:zs.length<=1048576) (hv:ERow eWord w bv v zs) (hu:ERow eWord w bu u zs) :
  Calls Try.prog 89 #[v,u] w fun e w'=>e=.returned (.bool true)/\Below w.heap.size w w':=by
 obtain ⟨a,c,rfl,ha⟩:=eWord_form hv
 obtain ⟨b,d,rfl,hb⟩:=eWord_form hu
 clear hv hu
 go_enter Try.func89,Try.ntmps89
 go_wp2_with fail
 go_loopw [5] (fun i wr=>∃ k:Nat,k<=zs.length/\i=.int .i64 k/\Below w.heap.size w wr) (fun i _=>zs.length - (intOf i).toNat)
 case atStart=>exact ⟨0,Nat.zero_le _,rfl,Below.refl _ _⟩
 case round =>
  obtain ⟨k,hk,rfl,hbl⟩:=hrel
  by_cases hlt:k < zs.length
  ·obtain ⟨g,N,f,rfl,_,hr,hN,hf⟩:=ha (by omega)
   obtain ⟨h,M,f',rfl,_,hr',hM,hf'⟩:=hb (by omega)
   have hr1:wr.rowIs g 61 N f:=hr.of_block (hbl.block g hr.lt)
   have hr2:wr.rowIs h 61 M f':=hr'.of_block (hbl.block h hr'.lt)
   have c1:=hr1.cell (i:=k) (by omega)
   have c2:=hr2.cell (i:=k) (by omega)
   rw [hf k hlt] at c1
   rw [hf' k hlt] at c2
   generalize zs.getD k 0=Z at *
   have L1:(0:Int)<=(k:Int):=by omega
   have L2:(k:Int) < (zs.length:Int):=by omega
   have HB:Hid (Below _ _ _):=hbl
   clear ha hb hr hr' hr1 hr2 hf hf' hbl
   go_wp2_with fail
   go_quiet (fail)
   go_wp2_with fail
   go_roundw
   case rel=>exact ⟨k+1,by omega,by go_num,bDrewN HB.out _⟩
   case measure=>simp [intOf]; omega
  ·go_wp2_with fail
   go_ret
   exact ⟨rfl,hbl⟩
set_option maxHeartbeats 4000000 in
theorem sameMach_yes (s r:SV) (M:Mach) (b b':Nat) (w:World) (hs:M.Small) (h:MRow w b (s.mv M) M) (h':MRow w b' (r.mv M) M) :
  Calls Try.prog 31 #[.agg #[.slice s.a1 M.mem.length s.c1,.slice s.a2 M.pend.length s.c2,.slice s.a3 M.tlb.length s.c3,.slice s.a4 M.wc.length s.c4],.agg #[.slice r.a1 M.mem.length r.c1,.slice r.a2 M.pend.length r.c2,.slice r.a3 M.tlb.length r.c3,.slice r.a4 M.wc.length r.c4]] w fun e w'=>e=.returned (.bool true)/\Below w.heap.size w w':=by
 have y1:=hs.w
 have y2:=hs.p
 have y3:=hs.t
 have y4:=hs.c
 obtain ⟨wb,hwb⟩:∃ wb,wb=(w.alloc (.cells #[.slice s.a1 M.mem.length s.c1,.slice s.a2 M.pend.length s.c2,.slice s.a3 M.tlb.length s.c3,.slice s.a4 M.wc.length s.c4] 38)).alloc (.cells #[.slice r.a1 M.mem.length r.c1,.slice r.a2 M.pend.length r.c2,.slice r.a3 M.tlb.length r.c3,.slice r.a4 M.wc.length r.c4] 38):=⟨_,rfl⟩
 have hbb:Below w.heap.size w wb:=by rw [hwb]; exact bal.alloc (by simp) _
 have hzb:wb.heap.size=w.heap.size+2:=by rw [hwb]; simp
 have HA:Hid (∀ wX,Below wb.heap.size wb wX->wX.cell? ⟨w.heap.size,0,none⟩=some (.slice s.a1 M.mem.length s.c1)/\wX.cell? ⟨w.heap.size,1,none⟩=some (.slice s.a2 M.pend.length s.c2)/\wX.cell? ⟨w.heap.size,2,none⟩=some (.slice s.a3 M.tlb.length s.c3)/\wX.cell? ⟨w.heap.size,3,none⟩=some (.slice s.a4 M.wc.length s.c4)):=hidP fun wX hX=>by
  refine ⟨?_,?_,?_,?_⟩
  iterate 4 (exact (hX.cell (by simp; omega)).trans (by rw [hwb]; simp [go_sem]))
 have HB:Hid (∀ wX,Below wb.heap.size wb wX->wX.cell? ⟨w.heap.size+1,0,none⟩=some (.slice r.a1 M.mem.length r.c1)/\wX.cell? ⟨w.heap.size+1,1,none⟩=some (.slice r.a2 M.pend.length r.c2)/\wX.cell? ⟨w.heap.size+1,2,none⟩=some (.slice r.a3 M.tlb.length r.c3)/\wX.cell? ⟨w.heap.size+1,3,none⟩=some (.slice r.a4 M.wc.length r.c4)):=hidP fun wX hX=>by
  refine ⟨?_,?_,?_,?_⟩
  iterate 4 (exact (hX.cell (by simp; omega)).trans (by rw [hwb]; simp [go_sem]))
 have hw:=sameWords_yes (.slice s.a1 M.mem.length s.c1) (.slice r.a1 M.mem.length r.c1) b b' M.mem wb hs.w (h.w.below hbb) (h'.w.below hbb)
 have hp:ERow eWrite w b (.slice s.a2 M.pend.length s.c2) M.pend:=h.p
 have hp':ERow eWrite w b' (.slice r.a2 M.pend.length r.c2) M.pend:=h'.p
 have ht:ERow eTlb w b (.slice s.a3 M.tlb.length s.c3) M.tlb:=h.t
 have ht':ERow eTlb w b' (.slice r.a3 M.tlb.length r.c3) M.tlb:=h'.t
 have hc:ERow eWc w b (.slice s.a4 M.wc.length s.c4) M.wc:=h.c
 have hc':ERow eWc w b' (.slice r.a4 M.wc.length r.c4) M.wc:=h'.c
 obtain ⟨gp,p1,p2⟩:=wrS_cells hp
 obtain ⟨gq,q1,q2⟩:=wrS_cells hp'
 obtain ⟨gt,t1,t2⟩:=tlbS_cells ht
 obtain ⟨gu,u1,u2⟩:=tlbS_cells ht'
 obtain ⟨gc,c1,c2⟩:=wcS_cells hc
 obtain ⟨gd,d1,d2⟩:=wcS_cells hc'
 have HP:Hid (∀ k Ad Wd,k < M.pend.length->eAt eWrite M.pend k=⟨Ad,Wd⟩->s.a2=some ⟨gp,0,none⟩/\r.a2=some ⟨gq,0,none⟩/\gp < w.heap.size/\gq < w.heap.size/\∀ wX,Below wb.heap.size wb wX->wX.cell? ⟨gp,k * 2,none⟩=some (.int .i64 Ad)/\wX.cell? ⟨gp,k * 2+1,none⟩=some (.int .u64 Wd)/\wX.cell? ⟨gq,k * 2,none⟩=some (.int .i64 Ad)/\wX.cell? ⟨gq,k * 2+1,none⟩=some (.int .u64 Wd)):=hidP fun k Ad Wd hk he=>by
  obtain ⟨e1,e2⟩:=p1 (by omega)
  obtain ⟨e3,e4⟩:=q1 (by omega)
  refine ⟨e1,e3,e2,e4,fun wX hX=>?_⟩
  have hX2:=hbb.trans (hX.mono (by omega))
  obtain ⟨x0,x1⟩:=p2 k Ad Wd hk he wX (hX2.block gp e2)
  obtain ⟨x2,x3⟩:=q2 k Ad Wd hk he wX (hX2.block gq e4)
  exact ⟨x0,x1,x2,x3⟩
 have HT:Hid (∀ k P S O R D,k < M.tlb.length->eAt eTlb M.tlb k=⟨P,S,O,R,D⟩->s.a3=some ⟨gt,0,none⟩/\r.a3=some ⟨gu,0,none⟩/\gt < w.heap.size/\gu < w.heap.size/\∀ wX,Below wb.heap.size wb wX->(wX.cell? ⟨gt,k * 5,none⟩=some (.int .i64 P)/\wX.cell? ⟨gt,k * 5+1,none⟩=some (.int .i64 S)/\wX.cell? ⟨gt,k * 5+2,none⟩=some (.int .i64 O)/\wX.cell? ⟨gt,k * 5+3,none⟩=some (.int .i64 R)/\wX.cell? ⟨gt,k * 5+4,none⟩=some (.bool D))/\wX.cell? ⟨gu,k * 5,none⟩=some (.int .i64 P)/\wX.cell? ⟨gu,k * 5+1,none⟩=some (.int .i64 S)/\wX.cell? ⟨gu,k * 5+2,none⟩=some (.int .i64 O)/\wX.cell? ⟨gu,k * 5+3,none⟩=some (.int .i64 R)/\wX.cell? ⟨gu,k * 5+4,none⟩=some (.bool D)):=hidP fun k P S O R D hk he=>by
  obtain ⟨e1,e2⟩:=t1 (by omega)
  obtain ⟨e3,e4⟩:=u1 (by omega)
  refine ⟨e1,e3,e2,e4,fun wX hX=>?_⟩
  have hX2:=hbb.trans (hX.mono (by omega))
  exact ⟨t2 k P S O R D hk he wX (hX2.block gt e2),u2 k P S O R D hk he wX (hX2.block gu e4)⟩
 have HC:Hid (∀ k L P T D,k < M.wc.length->eAt eWc M.wc k=⟨L,P,T,D⟩->s.a4=some ⟨gc,0,none⟩/\r.a4=some ⟨gd,0,none⟩/\gc < w.heap.size/\gd < w.heap.size/\∀ wX,Below wb.heap.size wb wX->(wX.cell? ⟨gc,k * 4,none⟩=some (.int .i64 L)/\wX.cell? ⟨gc,k * 4+1,none⟩=some (.int .i64 P)/\wX.cell? ⟨gc,k * 4+2,none⟩=some (.int .i64 T)/\wX.cell? ⟨gc,k * 4+3,none⟩=some (.bool D))/\wX.cell? ⟨gd,k * 4,none⟩=some (.int .i64 L)/\wX.cell? ⟨gd,k * 4+1,none⟩=some (.int .i64 P)/\wX.cell? ⟨gd,k * 4+2,none⟩=some (.int .i64 T)/\wX.cell? ⟨gd,k * 4+3,none⟩=some (.bool D)):=hidP fun k L P T D hk he=>by
  obtain ⟨e1,e2⟩:=c1 (by omega)
  obtain ⟨e3,e4⟩:=d1 (by omega)
  refine ⟨e1,e3,e2,e4,fun wX hX=>?_⟩
  have hX2:=hbb.trans (hX.mono (by omega))
  exact ⟨c2 k L P T D hk he wX (hX2.block gc e2),d2 k L P T D hk he wX (hX2.block gd e4)⟩
 have HWB:Hid (wb=_):=hwb
 have HBB:Hid (Below w.heap.size w wb):=hbb
 have HZ:Hid (wb.heap.size=_):=hzb
 rw [hwb] at hw
 clear hwb hbb hzb h h' hs hp hp' ht ht' hc hc' p1 p2 q1 q2 t1 t2 u1 u2 c1 c2 d1 d2
 generalize hnm:M.mem.length=nm at *
 generalize hnp:M.pend.length=np at *
 generalize hnt:M.tlb.length=nt at *
 generalize hnc:M.wc.length=nc at *
 go_enter Try.func31,Try.ntmps31
 go_wp2_with fail
 refine hw.mono ?_
 rintro e w1 ⟨rfl,hb1'⟩
 have hb1:Below wb.heap.size wb w1:=by rw [HWB.out]; exact hb1'
 obtain ⟨m0,m1,m2,m3⟩:=HA.out w1 hb1
 obtain ⟨k0,k1,k2,k3⟩:=HB.out w1 hb1
 have HB1:Hid (Below _ wb w1):=hb1
 clear hw hb1' hb1
 go_wp2_with fail
 clear m0 m1 m2 m3 k0 k1 k2 k3
 go_loopw [5] (fun i wr=>∃ k:Nat,k<=np/\i=.int .i64 k/\Below wb.heap.size wb wr) (fun i _=>np - (intOf i).toNat)
 case atStart=>exact ⟨0,Nat.zero_le _,rfl,HB1.out⟩
 case round =>
  obtain ⟨k,hk,rfl,hb⟩:=hrel
  obtain ⟨m0,m1,m2,m3⟩:=HA.out wr hb
  obtain ⟨k0,k1,k2,k3⟩:=HB.out wr hb
  by_cases hlt:k < np
  ·obtain ⟨E,hE⟩:∃ E,eAt eWrite M.pend k=E:=⟨_,rfl⟩
   obtain ⟨Ad,Wd⟩:=E
   obtain ⟨ea,eb,l1,l2,hcs⟩:=HP.out k Ad Wd (by omega) hE
   obtain ⟨x0,x1,x2,x3⟩:=hcs wr hb
   rw [ea] at m1
   rw [eb] at k1
   have L1:(0:Int)<=(k:Int):=by omega
   have L2:(k:Int) < (np:Int):=by omega
   have HBk:Hid (Below _ wb wr):=hb
   clear ea eb hcs hE hb m0 m2 m3 k0 k2 k3
   go_wp2_with fail
   go_quiet (fail)
   go_wp2_with fail
   go_roundw
   case rel=>exact ⟨k+1,by omega,by go_num,bDrewN HBk.out _⟩
   case measure=>first | (simp [intOf]; done) | (simp [intOf]; omega)
  ·have L2:¬ (k:Int) < (np:Int):=by omega
   have HB2:Hid (Below _ wb wr):=hb
   clear hb
   go_wp2_with fail
   clear m0 m1 m2 m3 k0 k1 k2 k3
   go_loopw [6] (fun i wr=>∃ k:Nat,k<=nt/\i=.int .i64 k/\Below wb.heap.size wb wr) (fun i _=>nt - (intOf i).toNat)
   case atStart=>exact ⟨0,Nat.zero_le _,rfl,HB2.out⟩
   case round =>
    obtain ⟨j,hj,rfl,hb⟩:=hrel
    obtain ⟨m0,m1,m2,m3⟩:=HA.out wr hb
    obtain ⟨k0,k1,k2,k3⟩:=HB.out wr hb
    have sq:=hb.size
    rw [HZ.out] at sq
    by_cases hlt:j < nt
    ·obtain ⟨E,hE⟩:∃ E,eAt eTlb M.tlb j=E:=⟨_,rfl⟩
     obtain ⟨P,S,O,R,D⟩:=E
     obtain ⟨ea,eb,l1,l2,hcs⟩:=HT.out j P S O R D (by omega) hE
     obtain ⟨⟨x0,x1,x2,x3,x4⟩,x5,x6,x7,x8,x9⟩:=hcs wr hb
     rw [ea] at m2
     rw [eb] at k2
     have L1:(0:Int)<=(j:Int):=by omega
     have L2:(j:Int) < (nt:Int):=by omega
     have n1:gt < wr.heap.size:=by omega
     have n2:gu < wr.heap.size:=by omega
     have n3:w.heap.size < wr.heap.size:=by omega
     have n4:w.heap.size+1 < wr.heap.size:=by omega
     have HBk:Hid (Below _ wb wr):=hb
     clear ea eb hcs hE hb m0 m1 m3 k0 k1 k3 sq
     go_wp2_with fail
     go_roundw
     case rel=>exact ⟨j+1,by omega,by go_num,(HBk.out.alloc HBk.out.size _).alloc (by have:=HBk.out.size; simp; omega) _⟩
     case measure=>first | (simp [intOf]; done) | (simp [intOf]; omega)
    ·have L2:¬ (j:Int) < (nt:Int):=by omega
     have HB3:Hid (Below _ wb wr):=hb
     clear hb
     go_wp2_with fail
     clear m0 m1 m2 m3 k0 k1 k2 k3
     go_loopw [9] (fun i wr=>∃ k:Nat,k<=nc/\i=.int .i64 k/\Below wb.heap.size wb wr) (fun i _=>nc - (intOf i).toNat)
     case atStart=>exact ⟨0,Nat.zero_le _,rfl,HB3.out⟩
     case round =>
      obtain ⟨i,hi,rfl,hb⟩:=hrel
      obtain ⟨m0,m1,m2,m3⟩:=HA.out wr hb
      obtain ⟨k0,k1,k2,k3⟩:=HB.out wr hb
      have sq:=hb.size
      rw [HZ.out] at sq
      by_cases hlt:i < nc
      ·obtain ⟨E,hE⟩:∃ E,eAt eWc M.wc i=E:=⟨_,rfl⟩
       obtain ⟨P,S,O,D⟩:=E
       obtain ⟨ea,eb,l1,l2,hcs⟩:=HC.out i P S O D (by omega) hE
       obtain ⟨⟨x0,x1,x2,x3⟩,x5,x6,x7,x8⟩:=hcs wr hb
       rw [ea] at m3
       rw [eb] at k3
       have L1:(0:Int)<=(i:Int):=by omega
       have L2:(i:Int) < (nc:Int):=by omega
       have n1:gc < wr.heap.size:=by omega
       have n2:gd < wr.heap.size:=by omega
       have n3:w.heap.size < wr.heap.size:=by omega
       have n4:w.heap.size+1 < wr.heap.size:=by omega
       have HBk:Hid (Below _ wb wr):=hb
       clear ea eb hcs hE hb m0 m1 m2 k0 k1 k2 sq
       go_wp2_with fail
       go_roundw
       case rel=>exact ⟨i+1,by omega,by go_num,(HBk.out.alloc HBk.out.size _).alloc (by have:=HBk.out.size; simp; omega) _⟩
       case measure=>first | (simp [intOf]; done) | (simp [intOf]; omega)
      ·have L2:¬ (i:Int) < (nc:Int):=by omega
       have HB4:Hid (Below w.heap.size w wr):=hidP (HBB.out.trans (hb.mono (by rw [HZ.out]; omega)))
       clear hb
       go_wp2_with fail
       go_ret
       exact ⟨rfl,HB4.out⟩
end Go.Proofs.Ytnmhkgmmpkjjeaa
