import Derived.Test.YtnmhkgmmpkjjeaaG34
namespace Go.Proofs.Ytnmhkgmmpkjjeaa
open Go.ChangeShapes Go.WideShapes Go.ChangeAt Go.RowKit
set_option linter.unusedVariables false
attribute [local go_sem ↓] Go.wp_at_zero Go.wp_at_succ
set_option maxRecDepth 100000 in
set_option maxHeartbeats 8000000 in
theorem stepS_bad (s:SV) (M:Mach) (b:Nat) (K A Bb W:Int) (w:World) (hs:M.Small) (hv:validB M=false) (h:MRow w b (s.mv M) M) :
  Calls Try.prog 29 #[.agg #[.slice s.a1 M.mem.length s.c1,.slice s.a2 M.pend.length s.c2,.slice s.a3 M.tlb.length s.c3,.slice s.a4 M.wc.length s.c4],.agg #[.int .i64 K,.int .i64 A,.int .i64 Bb,.int .u64 W]] w fun e w'=>∃ s':SV,e=.returned (.tuple #[.agg #[.slice s'.a1 zM.mem.length s'.c1,.slice s'.a2 zM.pend.length s'.c2,.slice s'.a3 zM.tlb.length s'.c3,.slice s'.a4 zM.wc.length s'.c4],.int .i64 9])/\MRow w' w.heap.size (s'.mv zM) zM/\Below w.heap.size w w':=by
 obtain ⟨wb,hwb⟩:∃ wb,wb=((w.alloc (.cells #[.slice s.a1 M.mem.length s.c1,.slice s.a2 M.pend.length s.c2,.slice s.a3 M.tlb.length s.c3,.slice s.a4 M.wc.length s.c4] 38)).alloc (.cells #[.int .i64 K,.int .i64 A,.int .i64 Bb,.int .u64 W] 65)).alloc (.cells #[.slice none 0 0,.slice none 0 0,.slice none 0 0,.slice none 0 0] 38):=⟨_,rfl⟩
 have hbb:Below w.heap.size w wb:=by rw [hwb]; exact (((Below.refl _ _).alloc (Nat.le_refl _) _).alloc (by simp) _).alloc (by simp; omega) _
 have hzb:wb.heap.size=w.heap.size+3:=by rw [hwb]; simp
 have HBOX:Hid (∀ wX,Below wb.heap.size wb wX->(wX.cell? ⟨w.heap.size,0,none⟩=some (.slice s.a1 M.mem.length s.c1)/\wX.cell? ⟨w.heap.size,1,none⟩=some (.slice s.a2 M.pend.length s.c2)/\wX.cell? ⟨w.heap.size,2,none⟩=some (.slice s.a3 M.tlb.length s.c3)/\wX.cell? ⟨w.heap.size,3,none⟩=some (.slice s.a4 M.wc.length s.c4))/\(wX.cell? ⟨w.heap.size+1,0,none⟩=some (.int .i64 K)/\wX.cell? ⟨w.heap.size+1,1,none⟩=some (.int .i64 A)/\wX.cell? ⟨w.heap.size+1,2,none⟩=some (.int .i64 Bb)/\wX.cell? ⟨w.heap.size+1,3,none⟩=some (.int .u64 W))/\(wX.cell? ⟨w.heap.size+2,0,none⟩=some (.slice none 0 0)/\wX.cell? ⟨w.heap.size+2,1,none⟩=some (.slice none 0 0)/\wX.cell? ⟨w.heap.size+2,2,none⟩=some (.slice none 0 0)/\wX.cell? ⟨w.heap.size+2,3,none⟩=some (.slice none 0 0))/\(wX.frozen? ⟨w.heap.size+2,0,none⟩=false/\wX.frozen? ⟨w.heap.size+2,1,none⟩=false/\wX.frozen? ⟨w.heap.size+2,2,none⟩=false/\wX.frozen? ⟨w.heap.size+2,3,none⟩=false)/\w.heap.size < wX.heap.size/\w.heap.size+1 < wX.heap.size/\w.heap.size+2 < wX.heap.size):=fun wX hX=>by
  have hsz:=hX.size
  refine ⟨⟨?_,?_,?_,?_⟩,⟨?_,?_,?_,?_⟩,⟨?_,?_,?_,?_⟩,⟨?_,?_,?_,?_⟩,by omega,by omega,by omega⟩
  iterate 12 (exact (hX.cell (by simp; omega)).trans (by rw [hwb]; simp [go_sem]))
  iterate 4 (exact (hX.frozen (by simp; omega)).trans (by rw [hwb]; simp [go_sem]))
 have hvm:=specValid_any s M b wb hs (h.below hbb)
 rw [hv,hwb] at hvm
 have HM:Hid (∀ wX,Below wb.heap.size wb wX->MRow wX b (s.mv M) M):=fun wX hX=>h.below (hbb.trans (hX.mono (by omega)))
 have HCP:Hid (∀ wX,Below wb.heap.size wb wX->_):=fun wX hX=>copyM_any s M b wX hs (HM.out wX hX)
 have HWF:Hid (∀ wX,Calls Try.prog 82 #[.agg #[.slice s.a1 M.mem.length s.c1,.slice s.a2 M.pend.length s.c2,.slice s.a3 M.tlb.length s.c3,.slice s.a4 M.wc.length s.c4],.agg #[.int .i64 K,.int .i64 A,.int .i64 Bb,.int .u64 W]] wX fun e w'=>e=.returned (.bool (opB M ⟨K,A,Bb,W⟩))/\Below wX.heap.size wX w'):=fun wX=>wellS_any s M K A Bb W wX hs
 have HWB:Hid (wb=_):=hwb
 have HBB:Hid (Below _ w wb):=hbb
 have HZ:Hid (wb.heap.size=w.heap.size+3):=hzb
 have HVV:Hid (validB M=false):=hv
 clear hwb hbb hzb h hv
 go_enter Try.func29,Try.ntmps29
 go_wp2_with fail
 refine hvm.mono ?_
 rintro e w1 ⟨rfl,hb1'⟩
 have hb1:Below wb.heap.size wb w1:=by rw [HWB.out]; exact hb1'
 have HB1:Hid (Below wb.heap.size wb w1):=hb1
 clear hb1' hvm
 obtain ⟨_,_,⟨r0,r1,r2,r3⟩,⟨z0,z1,z2,z3⟩,N0,N1,N2⟩:=HBOX.out w1 hb1
 have HBN:Hid (Below w.heap.size w w1):=HBB.out.trans (hb1.mono HBB.out.size)
 clear hb1
 go_wp2_with fail
 refine bodyPost_ret (v:=.tuple #[.agg #[.slice none 0 0,.slice none 0 0,.slice none 0 0,.slice none 0 0],.int .i64 9]) (by simp [results,Try.results29,go_sem,r0,r1,r2,r3]) rfl ⟨zS,rfl,zM_row _ _,?_⟩
 exact (((HBN.out.setCell (by dsimp only; omega) _).setCell (by dsimp only; omega) _).setCell (by dsimp only; omega) _).setCell (by dsimp only; omega) _
set_option maxRecDepth 100000 in
set_option maxHeartbeats 8000000 in
theorem stepS_ill (s:SV) (M:Mach) (b:Nat) (K A Bb W:Int) (w:World) (hs:M.Small) (hv:validB M=true) (hop:opB M ⟨K,A,Bb,W⟩=false) (h:MRow w b (s.mv M) M) :
  Calls Try.prog 29 #[.agg #[.slice s.a1 M.mem.length s.c1,.slice s.a2 M.pend.length s.c2,.slice s.a3 M.tlb.length s.c3,.slice s.a4 M.wc.length s.c4],.agg #[.int .i64 K,.int .i64 A,.int .i64 Bb,.int .u64 W]] w fun e w'=>∃ s':SV,e=.returned (.tuple #[.agg #[.slice s'.a1 M.mem.length s'.c1,.slice s'.a2 M.pend.length s'.c2,.slice s'.a3 M.tlb.length s'.c3,.slice s'.a4 M.wc.length s'.c4],.int .i64 1])/\MRow w' w.heap.size (s'.mv M) M/\Below w.heap.size w w':=by
 obtain ⟨wb,hwb⟩:∃ wb,wb=((w.alloc (.cells #[.slice s.a1 M.mem.length s.c1,.slice s.a2 M.pend.length s.c2,.slice s.a3 M.tlb.length s.c3,.slice s.a4 M.wc.length s.c4] 38)).alloc (.cells #[.int .i64 K,.int .i64 A,.int .i64 Bb,.int .u64 W] 65)).alloc (.cells #[.slice none 0 0,.slice none 0 0,.slice none 0 0,.slice none 0 0] 38):=⟨_,rfl⟩
 have hbb:Below w.heap.size w wb:=by rw [hwb]; exact (((Below.refl _ _).alloc (Nat.le_refl _) _).alloc (by simp) _).alloc (by simp; omega) _
 have hzb:wb.heap.size=w.heap.size+3:=by rw [hwb]; simp
 have HBOX:Hid (∀ wX,Below wb.heap.size wb wX->(wX.cell? ⟨w.heap.size,0,none⟩=some (.slice s.a1 M.mem.length s.c1)/\wX.cell? ⟨w.heap.size,1,none⟩=some (.slice s.a2 M.pend.length s.c2)/\wX.cell? ⟨w.heap.size,2,none⟩=some (.slice s.a3 M.tlb.length s.c3)/\wX.cell? ⟨w.heap.size,3,none⟩=some (.slice s.a4 M.wc.length s.c4))/\(wX.cell? ⟨w.heap.size+1,0,none⟩=some (.int .i64 K)/\wX.cell? ⟨w.heap.size+1,1,none⟩=some (.int .i64 A)/\wX.cell? ⟨w.heap.size+1,2,none⟩=some (.int .i64 Bb)/\wX.cell? ⟨w.heap.size+1,3,none⟩=some (.int .u64 W))/\(wX.cell? ⟨w.heap.size+2,0,none⟩=some (.slice none 0 0)/\wX.cell? ⟨w.heap.size+2,1,none⟩=some (.slice none 0 0)/\wX.cell? ⟨w.heap.size+2,2,none⟩=some (.slice none 0 0)/\wX.cell? ⟨w.heap.size+2,3,none⟩=some (.slice none 0 0))/\(wX.frozen? ⟨w.heap.size+2,0,none⟩=false/\wX.frozen? ⟨w.heap.size+2,1,none⟩=false/\wX.frozen? ⟨w.heap.size+2,2,none⟩=false/\wX.frozen? ⟨w.heap.size+2,3,none⟩=false)/\w.heap.size < wX.heap.size/\w.heap.size+1 < wX.heap.size/\w.heap.size+2 < wX.heap.size):=fun wX hX=>by
  have hsz:=hX.size
  refine ⟨⟨?_,?_,?_,?_⟩,⟨?_,?_,?_,?_⟩,⟨?_,?_,?_,?_⟩,⟨?_,?_,?_,?_⟩,by omega,by omega,by omega⟩
  iterate 12 (exact (hX.cell (by simp; omega)).trans (by rw [hwb]; simp [go_sem]))
  iterate 4 (exact (hX.frozen (by simp; omega)).trans (by rw [hwb]; simp [go_sem]))
 have hvm:=specValid_any s M b wb hs (h.below hbb)
 rw [hv,hwb] at hvm
 have HM:Hid (∀ wX,Below wb.heap.size wb wX->MRow wX b (s.mv M) M):=fun wX hX=>h.below (hbb.trans (hX.mono (by omega)))
 have HCP:Hid (∀ wX,Below wb.heap.size wb wX->_):=fun wX hX=>copyM_any s M b wX hs (HM.out wX hX)
 have HWF:Hid (∀ wX,Calls Try.prog 82 #[.agg #[.slice s.a1 M.mem.length s.c1,.slice s.a2 M.pend.length s.c2,.slice s.a3 M.tlb.length s.c3,.slice s.a4 M.wc.length s.c4],.agg #[.int .i64 K,.int .i64 A,.int .i64 Bb,.int .u64 W]] wX fun e w'=>e=.returned (.bool (opB M ⟨K,A,Bb,W⟩))/\Below wX.heap.size wX w'):=fun wX=>wellS_any s M K A Bb W wX hs
 have HWB:Hid (wb=_):=hwb
 have HBB:Hid (Below _ w wb):=hbb
 have HZ:Hid (wb.heap.size=w.heap.size+3):=hzb
 have HVV:Hid (validB M=true):=hv
 clear hwb hbb hzb h hv
 go_enter Try.func29,Try.ntmps29
 go_wp2_with fail
 refine hvm.mono ?_
 rintro e w1 ⟨rfl,hb1'⟩
 have hb1:Below wb.heap.size wb w1:=by rw [HWB.out]; exact hb1'
 have HB1:Hid (Below wb.heap.size wb w1):=hb1
 clear hb1' hvm
 obtain ⟨⟨q0,q1,q2,q3⟩,_,_,_,N0,N1,N2⟩:=HBOX.out w1 hb1
 clear hb1
 go_wp2_with fail
 refine (HCP.out w1 HB1.out).mono ?_
 rintro e w2 ⟨s1,rfl,hr2,hap2,hb2⟩
 obtain ⟨wO,hwO⟩:∃ wO,wO=w2.alloc (.cells #[.slice s1.a1 M.mem.length s1.c1,.slice s1.a2 M.pend.length s1.c2,.slice s1.a3 M.tlb.length s1.c3,.slice s1.a4 M.wc.length s1.c4] 38):=⟨_,rfl⟩
 have hzO:wO.heap.size=w2.heap.size+1:=by rw [hwO]; simp
 have b2:Below wb.heap.size wb w2:=HB1.out.trans (hb2.mono HB1.out.size)
 have bO:Below wb.heap.size wb wO:=by rw [hwO]; exact b2.alloc b2.size _
 have rO:MRow wO w1.heap.size (s1.mv M) M:=by rw [hwO]; exact hr2.below ((Below.refl _ _).alloc (Nat.le_refl _) _)
 have HOB:Hid (∀ wX,Below wO.heap.size wO wX->(wX.cell? ⟨w2.heap.size,0,none⟩=some (.slice s1.a1 M.mem.length s1.c1)/\wX.cell? ⟨w2.heap.size,1,none⟩=some (.slice s1.a2 M.pend.length s1.c2)/\wX.cell? ⟨w2.heap.size,2,none⟩=some (.slice s1.a3 M.tlb.length s1.c3)/\wX.cell? ⟨w2.heap.size,3,none⟩=some (.slice s1.a4 M.wc.length s1.c4))/\(wX.frozen? ⟨w2.heap.size,0,none⟩=false/\wX.frozen? ⟨w2.heap.size,1,none⟩=false/\wX.frozen? ⟨w2.heap.size,2,none⟩=false/\wX.frozen? ⟨w2.heap.size,3,none⟩=false)):=fun wX hX=>by
  refine ⟨⟨?_,?_,?_,?_⟩,?_,?_,?_,?_⟩
  iterate 4 (exact (hX.cell (by simp; omega)).trans (by rw [hwO]; simp [go_sem]))
  iterate 4 (exact (hX.frozen (by simp; omega)).trans (by rw [hwO]; simp [go_sem]))
 obtain ⟨⟨q0,q1,q2,q3⟩,⟨p0,p1,p2,p3⟩,_,_,N0,N1,N2⟩:=HBOX.out w2 b2
 have hwf:=HWF.out wO
 rw [hop,hwO] at hwf
 have HWO:Hid (wO=_):=hwO
 have HRO:Hid (MRow wO w1.heap.size (s1.mv M) M):=rO
 have HO2:Hid (∀ k,(s1.mv M).owns k->w1.heap.size<=k/\k < w2.heap.size):=hr2.own
 have HAP:Hid ((s1.mv M).apart):=hap2
 have HBO:Hid (Below wb.heap.size wb wO):=bO
 have HZO:Hid (wO.heap.size=w2.heap.size+1):=hzO
 have HS12:Hid (w1.heap.size<=w2.heap.size):=hb2.size
 have N3:w.heap.size+2 < w2.heap.size:=N2
 clear hr2 hb2 hwO b2 bO rO hzO hap2
 go_wp2_with fail
 refine hwf.mono ?_
 rintro e w3 ⟨rfl,hb3'⟩
 have hb3:Below wO.heap.size wO w3:=by rw [HWO.out]; exact hb3'
 have b3:Below wb.heap.size wb w3:=HBO.out.trans (hb3.mono HBO.out.size)
 have HB3:Hid (Below wb.heap.size wb w3):=b3
 have HBO3:Hid (Below wO.heap.size wO w3):=hb3
 obtain ⟨⟨q0,q1,q2,q3⟩,⟨p0,p1,p2,p3⟩,⟨r0,r1,r2,r3⟩,⟨z0,z1,z2,z3⟩,N0,N1,N2⟩:=HBOX.out w3 b3
 obtain ⟨⟨o0,o1,o2,o3⟩,y0,y1,y2,y3⟩:=HOB.out w3 hb3
 clear hwf hb3' hb3 b3
 have HBN:Hid (Below wb.heap.size wb w3):=HB3
 have HON:Hid (Below wO.heap.size wO w3):=HBO3
 go_wp2_with fail
 obtain ⟨wF,hwF⟩:∃ wF,wF=((((w3.setCell ⟨w.heap.size+1+1,0,none⟩ (.slice s1.a1 M.mem.length s1.c1)).setCell ⟨w.heap.size+1+1,1,none⟩ (.slice s1.a2 M.pend.length s1.c2)).setCell ⟨w.heap.size+1+1,2,none⟩ (.slice s1.a3 M.tlb.length s1.c3)).setCell ⟨w.heap.size+1+1,3,none⟩ (.slice s1.a4 M.wc.length s1.c4)):=⟨_,rfl⟩
 rw [<- hwF]
 have hTF:Touch (fun k=>k=w.heap.size+2) w3 wF:=by
  rw [hwF]
  exact Touch.put (Touch.put (Touch.put (Touch.put (Touch.none _) _ _ (by rfl)) _ _ (by rfl)) _ _ (by rfl)) _ _ (by rfl)
 have f0:wF.cell? ⟨w.heap.size+1+1,0,none⟩=some (.slice s1.a1 M.mem.length s1.c1):=by rw [hwF]; simp [go_sem,r0]
 have f1:wF.cell? ⟨w.heap.size+1+1,1,none⟩=some (.slice s1.a2 M.pend.length s1.c2):=by rw [hwF]; simp [go_sem,r1]
 have f2:wF.cell? ⟨w.heap.size+1+1,2,none⟩=some (.slice s1.a3 M.tlb.length s1.c3):=by rw [hwF]; simp [go_sem,r2]
 have f3:wF.cell? ⟨w.heap.size+1+1,3,none⟩=some (.slice s1.a4 M.wc.length s1.c4):=by rw [hwF]; simp [go_sem,r3]
 have rF:MRow wF w1.heap.size (s1.mv M) M:=by
  refine (HRO.out.below HON.out).touch hTF (fun k hk hh=>?_)
  have h1:=(HO2.out k hk).1
  have h2:=HB1.out.size
  have h3:=HZ.out
  omega
 have hbF:Below w.heap.size w wF:=Touch.below (HBB.out.trans (HBN.out.mono HBB.out.size)) hTF (by have:=HBN.out.size; have:=HZ.out; omega) (fun k hk=>by omega)
 exact bodyPost_ret (v:=.tuple #[.agg #[.slice s1.a1 M.mem.length s1.c1,.slice s1.a2 M.pend.length s1.c2,.slice s1.a3 M.tlb.length s1.c3,.slice s1.a4 M.wc.length s1.c4],.int .i64 1]) (by simp [results,Try.results29,go_sem,f0,f1,f2,f3]) rfl ⟨s1,by first | rfl | simp,rF.rebase (by have:=HB1.out.size; have:=HZ.out; omega),hbF⟩
set_option maxRecDepth 100000 in
set_option maxHeartbeats 8000000 in
theorem stepS_free (s:SV) (M:Mach) (b:Nat) (A Bb W:Int) (w:World) (hs:M.Small) (hv:validB M=true) (hok:WOk M) (hop:opB M ⟨4,A,Bb,W⟩=true) (cd:Int) (hcd:cd=if inUse M A then 4 else 0) (h:MRow w b (s.mv M) M) :
  Calls Try.prog 29 #[.agg #[.slice s.a1 M.mem.length s.c1,.slice s.a2 M.pend.length s.c2,.slice s.a3 M.tlb.length s.c3,.slice s.a4 M.wc.length s.c4],.agg #[.int .i64 4,.int .i64 A,.int .i64 Bb,.int .u64 W]] w fun e w'=>∃ s':SV,e=.returned (.tuple #[.agg #[.slice s'.a1 M.mem.length s'.c1,.slice s'.a2 M.pend.length s'.c2,.slice s'.a3 M.tlb.length s'.c3,.slice s'.a4 M.wc.length s'.c4],.int .i64 cd])/\MRow w' w.heap.size (s'.mv M) M/\Below w.heap.size w w':=by
 have HIU:Hid (∀ wX,MRow wX b (s.mv M) M->Calls Try.prog 84 #[.agg #[.slice s.a1 M.mem.length s.c1,.slice s.a2 M.pend.length s.c2,.slice s.a3 M.tlb.length s.c3,.slice s.a4 M.wc.length s.c4],.int .i64 A] wX fun e w'=>e=.returned (.bool (inUse M A))/\Below wX.heap.size wX w'):=fun wX hX=>inUseS_any s M b A wX hs hok hv hX
 obtain ⟨wb,hwb⟩:∃ wb,wb=((w.alloc (.cells #[.slice s.a1 M.mem.length s.c1,.slice s.a2 M.pend.length s.c2,.slice s.a3 M.tlb.length s.c3,.slice s.a4 M.wc.length s.c4] 38)).alloc (.cells #[.int .i64 4,.int .i64 A,.int .i64 Bb,.int .u64 W] 65)).alloc (.cells #[.slice none 0 0,.slice none 0 0,.slice none 0 0,.slice none 0 0] 38):=⟨_,rfl⟩
 have hbb:Below w.heap.size w wb:=by rw [hwb]; exact (((Below.refl _ _).alloc (Nat.le_refl _) _).alloc (by simp) _).alloc (by simp; omega) _
 have hzb:wb.heap.size=w.heap.size+3:=by rw [hwb]; simp
 have HBOX:Hid (∀ wX,Below wb.heap.size wb wX->(wX.cell? ⟨w.heap.size,0,none⟩=some (.slice s.a1 M.mem.length s.c1)/\wX.cell? ⟨w.heap.size,1,none⟩=some (.slice s.a2 M.pend.length s.c2)/\wX.cell? ⟨w.heap.size,2,none⟩=some (.slice s.a3 M.tlb.length s.c3)/\wX.cell? ⟨w.heap.size,3,none⟩=some (.slice s.a4 M.wc.length s.c4))/\(wX.cell? ⟨w.heap.size+1,0,none⟩=some (.int .i64 4)/\wX.cell? ⟨w.heap.size+1,1,none⟩=some (.int .i64 A)/\wX.cell? ⟨w.heap.size+1,2,none⟩=some (.int .i64 Bb)/\wX.cell? ⟨w.heap.size+1,3,none⟩=some (.int .u64 W))/\(wX.cell? ⟨w.heap.size+2,0,none⟩=some (.slice none 0 0)/\wX.cell? ⟨w.heap.size+2,1,none⟩=some (.slice none 0 0)/\wX.cell? ⟨w.heap.size+2,2,none⟩=some (.slice none 0 0)/\wX.cell? ⟨w.heap.size+2,3,none⟩=some (.slice none 0 0))/\(wX.frozen? ⟨w.heap.size+2,0,none⟩=false/\wX.frozen? ⟨w.heap.size+2,1,none⟩=false/\wX.frozen? ⟨w.heap.size+2,2,none⟩=false/\wX.frozen? ⟨w.heap.size+2,3,none⟩=false)/\w.heap.size < wX.heap.size/\w.heap.size+1 < wX.heap.size/\w.heap.size+2 < wX.heap.size):=fun wX hX=>by
  have hsz:=hX.size
  refine ⟨⟨?_,?_,?_,?_⟩,⟨?_,?_,?_,?_⟩,⟨?_,?_,?_,?_⟩,⟨?_,?_,?_,?_⟩,by omega,by omega,by omega⟩
  iterate 12 (exact (hX.cell (by simp; omega)).trans (by rw [hwb]; simp [go_sem]))
  iterate 4 (exact (hX.frozen (by simp; omega)).trans (by rw [hwb]; simp [go_sem]))
 have hvm:=specValid_any s M b wb hs (h.below hbb)
 rw [hv,hwb] at hvm
 have HM:Hid (∀ wX,Below wb.heap.size wb wX->MRow wX b (s.mv M) M):=fun wX hX=>h.below (hbb.trans (hX.mono (by omega)))
 have HCP:Hid (∀ wX,Below wb.heap.size wb wX->_):=fun wX hX=>copyM_any s M b wX hs (HM.out wX hX)
 have HWF:Hid (∀ wX,Calls Try.prog 82 #[.agg #[.slice s.a1 M.mem.length s.c1,.slice s.a2 M.pend.length s.c2,.slice s.a3 M.tlb.length s.c3,.slice s.a4 M.wc.length s.c4],.agg #[.int .i64 4,.int .i64 A,.int .i64 Bb,.int .u64 W]] wX fun e w'=>e=.returned (.bool (opB M ⟨4,A,Bb,W⟩))/\Below wX.heap.size wX w'):=fun wX=>wellS_any s M 4 A Bb W wX hs
 have HWB:Hid (wb=_):=hwb
 have HBB:Hid (Below _ w wb):=hbb
 have HZ:Hid (wb.heap.size=w.heap.size+3):=hzb
 have HVV:Hid (validB M=true):=hv
 clear hwb hbb hzb h hv
 go_enter Try.func29,Try.ntmps29
 go_wp2_with fail
 refine hvm.mono ?_
 rintro e w1 ⟨rfl,hb1'⟩
 have hb1:Below wb.heap.size wb w1:=by rw [HWB.out]; exact hb1'
 have HB1:Hid (Below wb.heap.size wb w1):=hb1
 clear hb1' hvm
 obtain ⟨⟨q0,q1,q2,q3⟩,_,_,_,N0,N1,N2⟩:=HBOX.out w1 hb1
 clear hb1
 go_wp2_with fail
 refine (HCP.out w1 HB1.out).mono ?_
 rintro e w2 ⟨s1,rfl,hr2,hap2,hb2⟩
 obtain ⟨wO,hwO⟩:∃ wO,wO=w2.alloc (.cells #[.slice s1.a1 M.mem.length s1.c1,.slice s1.a2 M.pend.length s1.c2,.slice s1.a3 M.tlb.length s1.c3,.slice s1.a4 M.wc.length s1.c4] 38):=⟨_,rfl⟩
 have hzO:wO.heap.size=w2.heap.size+1:=by rw [hwO]; simp
 have b2:Below wb.heap.size wb w2:=HB1.out.trans (hb2.mono HB1.out.size)
 have bO:Below wb.heap.size wb wO:=by rw [hwO]; exact b2.alloc b2.size _
 have rO:MRow wO w1.heap.size (s1.mv M) M:=by rw [hwO]; exact hr2.below ((Below.refl _ _).alloc (Nat.le_refl _) _)
 have HOB:Hid (∀ wX,Below wO.heap.size wO wX->(wX.cell? ⟨w2.heap.size,0,none⟩=some (.slice s1.a1 M.mem.length s1.c1)/\wX.cell? ⟨w2.heap.size,1,none⟩=some (.slice s1.a2 M.pend.length s1.c2)/\wX.cell? ⟨w2.heap.size,2,none⟩=some (.slice s1.a3 M.tlb.length s1.c3)/\wX.cell? ⟨w2.heap.size,3,none⟩=some (.slice s1.a4 M.wc.length s1.c4))/\(wX.frozen? ⟨w2.heap.size,0,none⟩=false/\wX.frozen? ⟨w2.heap.size,1,none⟩=false/\wX.frozen? ⟨w2.heap.size,2,none⟩=false/\wX.frozen? ⟨w2.heap.size,3,none⟩=false)):=fun wX hX=>by
  refine ⟨⟨?_,?_,?_,?_⟩,?_,?_,?_,?_⟩
  iterate 4 (exact (hX.cell (by simp; omega)).trans (by rw [hwO]; simp [go_sem]))
  iterate 4 (exact (hX.frozen (by simp; omega)).trans (by rw [hwO]; simp [go_sem]))
 obtain ⟨⟨q0,q1,q2,q3⟩,⟨p0,p1,p2,p3⟩,_,_,N0,N1,N2⟩:=HBOX.out w2 b2
 have hwf:=HWF.out wO
 rw [hop,hwO] at hwf
 have HWO:Hid (wO=_):=hwO
 have HRO:Hid (MRow wO w1.heap.size (s1.mv M) M):=rO
 have HO2:Hid (∀ k,(s1.mv M).owns k->w1.heap.size<=k/\k < w2.heap.size):=hr2.own
 have HAP:Hid ((s1.mv M).apart):=hap2
 have HBO:Hid (Below wb.heap.size wb wO):=bO
 have HZO:Hid (wO.heap.size=w2.heap.size+1):=hzO
 have HS12:Hid (w1.heap.size<=w2.heap.size):=hb2.size
 have N3:w.heap.size+2 < w2.heap.size:=N2
 clear hr2 hb2 hwO b2 bO rO hzO hap2
 go_wp2_with fail
 refine hwf.mono ?_
 rintro e w3 ⟨rfl,hb3'⟩
 have hb3:Below wO.heap.size wO w3:=by rw [HWO.out]; exact hb3'
 have b3:Below wb.heap.size wb w3:=HBO.out.trans (hb3.mono HBO.out.size)
 have HB3:Hid (Below wb.heap.size wb w3):=b3
 have HBO3:Hid (Below wO.heap.size wO w3):=hb3
 obtain ⟨⟨q0,q1,q2,q3⟩,⟨p0,p1,p2,p3⟩,⟨r0,r1,r2,r3⟩,⟨z0,z1,z2,z3⟩,N0,N1,N2⟩:=HBOX.out w3 b3
 obtain ⟨⟨o0,o1,o2,o3⟩,y0,y1,y2,y3⟩:=HOB.out w3 hb3
 clear hwf hb3' hb3 b3
 have hiu:=HIU.out w3 (HM.out w3 HB3.out)
 cases hi:inUse M A
 ·rw [hi] at hiu
  have hcd0:cd=0:=by rw [hcd,hi]; rfl
  subst hcd0
  clear hi hcd
  go_wp2_with fail
  refine hiu.mono ?_
  rintro e w4 ⟨rfl,hb4⟩
  have HBN:Hid (Below wb.heap.size wb w4):=HB3.out.trans (hb4.mono HB3.out.size)
  have HON:Hid (Below wO.heap.size wO w4):=HBO3.out.trans (hb4.mono HBO3.out.size)
  obtain ⟨_,⟨p0,p1,p2,p3⟩,⟨r0,r1,r2,r3⟩,⟨z0,z1,z2,z3⟩,N0,N1,N2⟩:=HBOX.out w4 HBN.out
  obtain ⟨⟨o0,o1,o2,o3⟩,y0,y1,y2,y3⟩:=HOB.out w4 HON.out
  clear hiu hb4
  go_wp2_with fail
  obtain ⟨wF,hwF⟩:∃ wF,wF=((((w4.setCell ⟨w.heap.size+1+1,0,none⟩ (.slice s1.a1 M.mem.length s1.c1)).setCell ⟨w.heap.size+1+1,1,none⟩ (.slice s1.a2 M.pend.length s1.c2)).setCell ⟨w.heap.size+1+1,2,none⟩ (.slice s1.a3 M.tlb.length s1.c3)).setCell ⟨w.heap.size+1+1,3,none⟩ (.slice s1.a4 M.wc.length s1.c4)):=⟨_,rfl⟩
  rw [<- hwF]
  have hTF:Touch (fun k=>k=w.heap.size+2) w4 wF:=by
   rw [hwF]
   exact Touch.put (Touch.put (Touch.put (Touch.put (Touch.none _) _ _ (by rfl)) _ _ (by rfl)) _ _ (by rfl)) _ _ (by rfl)
  have f0:wF.cell? ⟨w.heap.size+1+1,0,none⟩=some (.slice s1.a1 M.mem.length s1.c1):=by rw [hwF]; simp [go_sem,r0]
  have f1:wF.cell? ⟨w.heap.size+1+1,1,none⟩=some (.slice s1.a2 M.pend.length s1.c2):=by rw [hwF]; simp [go_sem,r1]
  have f2:wF.cell? ⟨w.heap.size+1+1,2,none⟩=some (.slice s1.a3 M.tlb.length s1.c3):=by rw [hwF]; simp [go_sem,r2]
  have f3:wF.cell? ⟨w.heap.size+1+1,3,none⟩=some (.slice s1.a4 M.wc.length s1.c4):=by rw [hwF]; simp [go_sem,r3]
  have rF:MRow wF w1.heap.size (s1.mv M) M:=by
   refine (HRO.out.below HON.out).touch hTF (fun k hk hh=>?_)
   have h1:=(HO2.out k hk).1
   have h2:=HB1.out.size
   have h3:=HZ.out
   omega
  have hbF:Below w.heap.size w wF:=Touch.below (HBB.out.trans (HBN.out.mono HBB.out.size)) hTF (by have:=HBN.out.size; have:=HZ.out; omega) (fun k hk=>by omega)
  exact bodyPost_ret (v:=.tuple #[.agg #[.slice s1.a1 M.mem.length s1.c1,.slice s1.a2 M.pend.length s1.c2,.slice s1.a3 M.tlb.length s1.c3,.slice s1.a4 M.wc.length s1.c4],.int .i64 0]) (by simp [results,Try.results29,go_sem,f0,f1,f2,f3]) rfl ⟨s1,by first | rfl | simp,rF.rebase (by have:=HB1.out.size; have:=HZ.out; omega),hbF⟩
 ·rw [hi] at hiu
  have hcd0:cd=4:=by rw [hcd,hi]; rfl
  subst hcd0
  clear hi hcd
  go_wp2_with fail
  refine hiu.mono ?_
  rintro e w4 ⟨rfl,hb4⟩
  have HBN:Hid (Below wb.heap.size wb w4):=HB3.out.trans (hb4.mono HB3.out.size)
  have HON:Hid (Below wO.heap.size wO w4):=HBO3.out.trans (hb4.mono HBO3.out.size)
  obtain ⟨_,⟨p0,p1,p2,p3⟩,⟨r0,r1,r2,r3⟩,⟨z0,z1,z2,z3⟩,N0,N1,N2⟩:=HBOX.out w4 HBN.out
  obtain ⟨⟨o0,o1,o2,o3⟩,y0,y1,y2,y3⟩:=HOB.out w4 HON.out
  clear hiu hb4
  go_wp2_with fail
  obtain ⟨wF,hwF⟩:∃ wF,wF=((((w4.setCell ⟨w.heap.size+1+1,0,none⟩ (.slice s1.a1 M.mem.length s1.c1)).setCell ⟨w.heap.size+1+1,1,none⟩ (.slice s1.a2 M.pend.length s1.c2)).setCell ⟨w.heap.size+1+1,2,none⟩ (.slice s1.a3 M.tlb.length s1.c3)).setCell ⟨w.heap.size+1+1,3,none⟩ (.slice s1.a4 M.wc.length s1.c4)):=⟨_,rfl⟩
  rw [<- hwF]
  have hTF:Touch (fun k=>k=w.heap.size+2) w4 wF:=by
   rw [hwF]
   exact Touch.put (Touch.put (Touch.put (Touch.put (Touch.none _) _ _ (by rfl)) _ _ (by rfl)) _ _ (by rfl)) _ _ (by rfl)
  have f0:wF.cell? ⟨w.heap.size+1+1,0,none⟩=some (.slice s1.a1 M.mem.length s1.c1):=by rw [hwF]; simp [go_sem,r0]
  have f1:wF.cell? ⟨w.heap.size+1+1,1,none⟩=some (.slice s1.a2 M.pend.length s1.c2):=by rw [hwF]; simp [go_sem,r1]
  have f2:wF.cell? ⟨w.heap.size+1+1,2,none⟩=some (.slice s1.a3 M.tlb.length s1.c3):=by rw [hwF]; simp [go_sem,r2]
  have f3:wF.cell? ⟨w.heap.size+1+1,3,none⟩=some (.slice s1.a4 M.wc.length s1.c4):=by rw [hwF]; simp [go_sem,r3]
  have rF:MRow wF w1.heap.size (s1.mv M) M:=by
   refine (HRO.out.below HON.out).touch hTF (fun k hk hh=>?_)
   have h1:=(HO2.out k hk).1
   have h2:=HB1.out.size
   have h3:=HZ.out
   omega
  have hbF:Below w.heap.size w wF:=Touch.below (HBB.out.trans (HBN.out.mono HBB.out.size)) hTF (by have:=HBN.out.size; have:=HZ.out; omega) (fun k hk=>by omega)
  exact bodyPost_ret (v:=.tuple #[.agg #[.slice s1.a1 M.mem.length s1.c1,.slice s1.a2 M.pend.length s1.c2,.slice s1.a3 M.tlb.length s1.c3,.slice s1.a4 M.wc.length s1.c4],.int .i64 4]) (by simp [results,Try.results29,go_sem,f0,f1,f2,f3]) rfl ⟨s1,by first | rfl | simp,rF.rebase (by have:=HB1.out.size; have:=HZ.out; omega),hbF⟩
set_option maxRecDepth 100000 in
set_option maxHeartbeats 8000000 in
theorem stepS_wrno (s:SV) (M:Mach) (b:Nat) (A Bb W:Int) (w:World) (hs:M.Small) (hv:validB M=true) (hop:opB M ⟨1,A,Bb,W⟩=true) (cd:Int) (hcd:¬ cd=0) (hcod:∀ wX,MRow wX b (s.mv M) M->Calls Try.prog 83 #[.agg #[.slice s.a1 M.mem.length s.c1,.slice s.a2 M.pend.length s.c2,.slice s.a3 M.tlb.length s.c3,.slice s.a4 M.wc.length s.c4],.agg #[.int .i64 1,.int .i64 A,.int .i64 Bb,.int .u64 W]] wX fun e w'=>e=.returned (.int .i64 cd)/\Below wX.heap.size wX w') (h:MRow w b (s.mv M) M) :
  Calls Try.prog 29 #[.agg #[.slice s.a1 M.mem.length s.c1,.slice s.a2 M.pend.length s.c2,.slice s.a3 M.tlb.length s.c3,.slice s.a4 M.wc.length s.c4],.agg #[.int .i64 1,.int .i64 A,.int .i64 Bb,.int .u64 W]] w fun e w'=>∃ s':SV,e=.returned (.tuple #[.agg #[.slice s'.a1 M.mem.length s'.c1,.slice s'.a2 M.pend.length s'.c2,.slice s'.a3 M.tlb.length s'.c3,.slice s'.a4 M.wc.length s'.c4],.int .i64 cd])/\MRow w' w.heap.size (s'.mv M) M/\Below w.heap.size w w':=by
 obtain ⟨wb,hwb⟩:∃ wb,wb=((w.alloc (.cells #[.slice s.a1 M.mem.length s.c1,.slice s.a2 M.pend.length s.c2,.slice s.a3 M.tlb.length s.c3,.slice s.a4 M.wc.length s.c4] 38)).alloc (.cells #[.int .i64 1,.int .i64 A,.int .i64 Bb,.int .u64 W] 65)).alloc (.cells #[.slice none 0 0,.slice none 0 0,.slice none 0 0,.slice none 0 0] 38):=⟨_,rfl⟩
 have hbb:Below w.heap.size w wb:=by rw [hwb]; exact (((Below.refl _ _).alloc (Nat.le_refl _) _).alloc (by simp) _).alloc (by simp; omega) _
 have hzb:wb.heap.size=w.heap.size+3:=by rw [hwb]; simp
 have HBOX:Hid (∀ wX,Below wb.heap.size wb wX->(wX.cell? ⟨w.heap.size,0,none⟩=some (.slice s.a1 M.mem.length s.c1)/\wX.cell? ⟨w.heap.size,1,none⟩=some (.slice s.a2 M.pend.length s.c2)/\wX.cell? ⟨w.heap.size,2,none⟩=some (.slice s.a3 M.tlb.length s.c3)/\wX.cell? ⟨w.heap.size,3,none⟩=some (.slice s.a4 M.wc.length s.c4))/\(wX.cell? ⟨w.heap.size+1,0,none⟩=some (.int .i64 1)/\wX.cell? ⟨w.heap.size+1,1,none⟩=some (.int .i64 A)/\wX.cell? ⟨w.heap.size+1,2,none⟩=some (.int .i64 Bb)/\wX.cell? ⟨w.heap.size+1,3,none⟩=some (.int .u64 W))/\(wX.cell? ⟨w.heap.size+2,0,none⟩=some (.slice none 0 0)/\wX.cell? ⟨w.heap.size+2,1,none⟩=some (.slice none 0 0)/\wX.cell? ⟨w.heap.size+2,2,none⟩=some (.slice none 0 0)/\wX.cell? ⟨w.heap.size+2,3,none⟩=some (.slice none 0 0))/\(wX.frozen? ⟨w.heap.size+2,0,none⟩=false/\wX.frozen? ⟨w.heap.size+2,1,none⟩=false/\wX.frozen? ⟨w.heap.size+2,2,none⟩=false/\wX.frozen? ⟨w.heap.size+2,3,none⟩=false)/\w.heap.size < wX.heap.size/\w.heap.size+1 < wX.heap.size/\w.heap.size+2 < wX.heap.size):=fun wX hX=>by
  have hsz:=hX.size
  refine ⟨⟨?_,?_,?_,?_⟩,⟨?_,?_,?_,?_⟩,⟨?_,?_,?_,?_⟩,⟨?_,?_,?_,?_⟩,by omega,by omega,by omega⟩
  iterate 12 (exact (hX.cell (by simp; omega)).trans (by rw [hwb]; simp [go_sem]))
  iterate 4 (exact (hX.frozen (by simp; omega)).trans (by rw [hwb]; simp [go_sem]))
 have hvm:=specValid_any s M b wb hs (h.below hbb)
 rw [hv,hwb] at hvm
 have HM:Hid (∀ wX,Below wb.heap.size wb wX->MRow wX b (s.mv M) M):=fun wX hX=>h.below (hbb.trans (hX.mono (by omega)))
 have HCP:Hid (∀ wX,Below wb.heap.size wb wX->_):=fun wX hX=>copyM_any s M b wX hs (HM.out wX hX)
 have HWF:Hid (∀ wX,Calls Try.prog 82 #[.agg #[.slice s.a1 M.mem.length s.c1,.slice s.a2 M.pend.length s.c2,.slice s.a3 M.tlb.length s.c3,.slice s.a4 M.wc.length s.c4],.agg #[.int .i64 1,.int .i64 A,.int .i64 Bb,.int .u64 W]] wX fun e w'=>e=.returned (.bool (opB M ⟨1,A,Bb,W⟩))/\Below wX.heap.size wX w'):=fun wX=>wellS_any s M 1 A Bb W wX hs
 have HWB:Hid (wb=_):=hwb
 have HBB:Hid (Below _ w wb):=hbb
 have HZ:Hid (wb.heap.size=w.heap.size+3):=hzb
 have HVV:Hid (validB M=true):=hv
 clear hwb hbb hzb h hv
 go_enter Try.func29,Try.ntmps29
 go_wp2_with fail
 refine hvm.mono ?_
 rintro e w1 ⟨rfl,hb1'⟩
 have hb1:Below wb.heap.size wb w1:=by rw [HWB.out]; exact hb1'
 have HB1:Hid (Below wb.heap.size wb w1):=hb1
 clear hb1' hvm
 obtain ⟨⟨q0,q1,q2,q3⟩,_,_,_,N0,N1,N2⟩:=HBOX.out w1 hb1
 clear hb1
 go_wp2_with fail
 refine (HCP.out w1 HB1.out).mono ?_
 rintro e w2 ⟨s1,rfl,hr2,hap2,hb2⟩
 obtain ⟨wO,hwO⟩:∃ wO,wO=w2.alloc (.cells #[.slice s1.a1 M.mem.length s1.c1,.slice s1.a2 M.pend.length s1.c2,.slice s1.a3 M.tlb.length s1.c3,.slice s1.a4 M.wc.length s1.c4] 38):=⟨_,rfl⟩
 have hzO:wO.heap.size=w2.heap.size+1:=by rw [hwO]; simp
 have b2:Below wb.heap.size wb w2:=HB1.out.trans (hb2.mono HB1.out.size)
 have bO:Below wb.heap.size wb wO:=by rw [hwO]; exact b2.alloc b2.size _
 have rO:MRow wO w1.heap.size (s1.mv M) M:=by rw [hwO]; exact hr2.below ((Below.refl _ _).alloc (Nat.le_refl _) _)
 have HOB:Hid (∀ wX,Below wO.heap.size wO wX->(wX.cell? ⟨w2.heap.size,0,none⟩=some (.slice s1.a1 M.mem.length s1.c1)/\wX.cell? ⟨w2.heap.size,1,none⟩=some (.slice s1.a2 M.pend.length s1.c2)/\wX.cell? ⟨w2.heap.size,2,none⟩=some (.slice s1.a3 M.tlb.length s1.c3)/\wX.cell? ⟨w2.heap.size,3,none⟩=some (.slice s1.a4 M.wc.length s1.c4))/\(wX.frozen? ⟨w2.heap.size,0,none⟩=false/\wX.frozen? ⟨w2.heap.size,1,none⟩=false/\wX.frozen? ⟨w2.heap.size,2,none⟩=false/\wX.frozen? ⟨w2.heap.size,3,none⟩=false)):=fun wX hX=>by
  refine ⟨⟨?_,?_,?_,?_⟩,?_,?_,?_,?_⟩
  iterate 4 (exact (hX.cell (by simp; omega)).trans (by rw [hwO]; simp [go_sem]))
  iterate 4 (exact (hX.frozen (by simp; omega)).trans (by rw [hwO]; simp [go_sem]))
 obtain ⟨⟨q0,q1,q2,q3⟩,⟨p0,p1,p2,p3⟩,_,_,N0,N1,N2⟩:=HBOX.out w2 b2
 have hwf:=HWF.out wO
 rw [hop,hwO] at hwf
 have HWO:Hid (wO=_):=hwO
 have HRO:Hid (MRow wO w1.heap.size (s1.mv M) M):=rO
 have HO2:Hid (∀ k,(s1.mv M).owns k->w1.heap.size<=k/\k < w2.heap.size):=hr2.own
 have HAP:Hid ((s1.mv M).apart):=hap2
 have HBO:Hid (Below wb.heap.size wb wO):=bO
 have HZO:Hid (wO.heap.size=w2.heap.size+1):=hzO
 have HS12:Hid (w1.heap.size<=w2.heap.size):=hb2.size
 have N3:w.heap.size+2 < w2.heap.size:=N2
 clear hr2 hb2 hwO b2 bO rO hzO hap2
 go_wp2_with fail
 refine hwf.mono ?_
 rintro e w3 ⟨rfl,hb3'⟩
 have hb3:Below wO.heap.size wO w3:=by rw [HWO.out]; exact hb3'
 have b3:Below wb.heap.size wb w3:=HBO.out.trans (hb3.mono HBO.out.size)
 have HB3:Hid (Below wb.heap.size wb w3):=b3
 have HBO3:Hid (Below wO.heap.size wO w3):=hb3
 obtain ⟨⟨q0,q1,q2,q3⟩,⟨p0,p1,p2,p3⟩,⟨r0,r1,r2,r3⟩,⟨z0,z1,z2,z3⟩,N0,N1,N2⟩:=HBOX.out w3 b3
 obtain ⟨⟨o0,o1,o2,o3⟩,y0,y1,y2,y3⟩:=HOB.out w3 hb3
 clear hwf hb3' hb3 b3
 have hcc:=hcod w3 (HM.out w3 HB3.out)
 have dc:(cd == 0)=false:=by simpa using hcd
 clear hcod hcd
 go_wp2_with fail
 refine hcc.mono ?_
 rintro e w4 ⟨rfl,hb4⟩
 have HBN:Hid (Below wb.heap.size wb w4):=HB3.out.trans (hb4.mono HB3.out.size)
 have HON:Hid (Below wO.heap.size wO w4):=HBO3.out.trans (hb4.mono HBO3.out.size)
 obtain ⟨_,⟨p0,p1,p2,p3⟩,⟨r0,r1,r2,r3⟩,⟨z0,z1,z2,z3⟩,N0,N1,N2⟩:=HBOX.out w4 HBN.out
 obtain ⟨⟨o0,o1,o2,o3⟩,y0,y1,y2,y3⟩:=HOB.out w4 HON.out
 clear hcc hb4
 go_wp2_with fail
 obtain ⟨wF,hwF⟩:∃ wF,wF=((((w4.setCell ⟨w.heap.size+1+1,0,none⟩ (.slice s1.a1 M.mem.length s1.c1)).setCell ⟨w.heap.size+1+1,1,none⟩ (.slice s1.a2 M.pend.length s1.c2)).setCell ⟨w.heap.size+1+1,2,none⟩ (.slice s1.a3 M.tlb.length s1.c3)).setCell ⟨w.heap.size+1+1,3,none⟩ (.slice s1.a4 M.wc.length s1.c4)):=⟨_,rfl⟩
 rw [<- hwF]
 have hTF:Touch (fun k=>k=w.heap.size+2) w4 wF:=by
  rw [hwF]
  exact Touch.put (Touch.put (Touch.put (Touch.put (Touch.none _) _ _ (by rfl)) _ _ (by rfl)) _ _ (by rfl)) _ _ (by rfl)
 have f0:wF.cell? ⟨w.heap.size+1+1,0,none⟩=some (.slice s1.a1 M.mem.length s1.c1):=by rw [hwF]; simp [go_sem,r0]
 have f1:wF.cell? ⟨w.heap.size+1+1,1,none⟩=some (.slice s1.a2 M.pend.length s1.c2):=by rw [hwF]; simp [go_sem,r1]
 have f2:wF.cell? ⟨w.heap.size+1+1,2,none⟩=some (.slice s1.a3 M.tlb.length s1.c3):=by rw [hwF]; simp [go_sem,r2]
 have f3:wF.cell? ⟨w.heap.size+1+1,3,none⟩=some (.slice s1.a4 M.wc.length s1.c4):=by rw [hwF]; simp [go_sem,r3]
 have rF:MRow wF w1.heap.size (s1.mv M) M:=by
  refine (HRO.out.below HON.out).touch hTF (fun k hk hh=>?_)
  have h1:=(HO2.out k hk).1
  have h2:=HB1.out.size
  have h3:=HZ.out
  omega
 have hbF:Below w.heap.size w wF:=Touch.below (HBB.out.trans (HBN.out.mono HBB.out.size)) hTF (by have:=HBN.out.size; have:=HZ.out; omega) (fun k hk=>by omega)
 exact bodyPost_ret (v:=.tuple #[.agg #[.slice s1.a1 M.mem.length s1.c1,.slice s1.a2 M.pend.length s1.c2,.slice s1.a3 M.tlb.length s1.c3,.slice s1.a4 M.wc.length s1.c4],.int .i64 cd]) (by simp [results,Try.results29,go_sem,f0,f1,f2,f3]) rfl ⟨s1,by first | rfl | simp,rF.rebase (by have:=HB1.out.size; have:=HZ.out; omega),hbF⟩
set_option maxRecDepth 100000 in
set_option maxHeartbeats 8000000 in
theorem stepS_wryes (s:SV) (M:Mach) (b:Nat) (A Bb W:Int) (w:World) (hs:M.Small) (hv:validB M=true) (hop:opB M ⟨1,A,Bb,W⟩=true) (hcod:∀ wX,MRow wX b (s.mv M) M->Calls Try.prog 83 #[.agg #[.slice s.a1 M.mem.length s.c1,.slice s.a2 M.pend.length s.c2,.slice s.a3 M.tlb.length s.c3,.slice s.a4 M.wc.length s.c4],.agg #[.int .i64 1,.int .i64 A,.int .i64 Bb,.int .u64 W]] wX fun e w'=>e=.returned (.int .i64 0)/\Below wX.heap.size wX w') (h:MRow w b (s.mv M) M) :
  Calls Try.prog 29 #[.agg #[.slice s.a1 M.mem.length s.c1,.slice s.a2 M.pend.length s.c2,.slice s.a3 M.tlb.length s.c3,.slice s.a4 M.wc.length s.c4],.agg #[.int .i64 1,.int .i64 A,.int .i64 Bb,.int .u64 W]] w fun e w'=>∃ s':SV,e=.returned (.tuple #[.agg #[.slice s'.a1 (⟨M.mem,M.pend ++ [⟨A,W⟩],M.tlb,M.wc⟩:Mach).mem.length s'.c1,.slice s'.a2 (⟨M.mem,M.pend ++ [⟨A,W⟩],M.tlb,M.wc⟩:Mach).pend.length s'.c2,.slice s'.a3 (⟨M.mem,M.pend ++ [⟨A,W⟩],M.tlb,M.wc⟩:Mach).tlb.length s'.c3,.slice s'.a4 (⟨M.mem,M.pend ++ [⟨A,W⟩],M.tlb,M.wc⟩:Mach).wc.length s'.c4],.int .i64 0])/\MRow w' w.heap.size (s'.mv (⟨M.mem,M.pend ++ [⟨A,W⟩],M.tlb,M.wc⟩:Mach)) (⟨M.mem,M.pend ++ [⟨A,W⟩],M.tlb,M.wc⟩:Mach)/\Below w.heap.size w w':=by
 have y2s:=hs.p
 obtain ⟨iE,hiE,hz0,hz1,hz2⟩:=info_parts infoWrite
 obtain ⟨wb,hwb⟩:∃ wb,wb=((w.alloc (.cells #[.slice s.a1 M.mem.length s.c1,.slice s.a2 M.pend.length s.c2,.slice s.a3 M.tlb.length s.c3,.slice s.a4 M.wc.length s.c4] 38)).alloc (.cells #[.int .i64 1,.int .i64 A,.int .i64 Bb,.int .u64 W] 65)).alloc (.cells #[.slice none 0 0,.slice none 0 0,.slice none 0 0,.slice none 0 0] 38):=⟨_,rfl⟩
 have hbb:Below w.heap.size w wb:=by rw [hwb]; exact (((Below.refl _ _).alloc (Nat.le_refl _) _).alloc (by simp) _).alloc (by simp; omega) _
 have hzb:wb.heap.size=w.heap.size+3:=by rw [hwb]; simp
 have HBOX:Hid (∀ wX,Below wb.heap.size wb wX->(wX.cell? ⟨w.heap.size,0,none⟩=some (.slice s.a1 M.mem.length s.c1)/\wX.cell? ⟨w.heap.size,1,none⟩=some (.slice s.a2 M.pend.length s.c2)/\wX.cell? ⟨w.heap.size,2,none⟩=some (.slice s.a3 M.tlb.length s.c3)/\wX.cell? ⟨w.heap.size,3,none⟩=some (.slice s.a4 M.wc.length s.c4))/\(wX.cell? ⟨w.heap.size+1,0,none⟩=some (.int .i64 1)/\wX.cell? ⟨w.heap.size+1,1,none⟩=some (.int .i64 A)/\wX.cell? ⟨w.heap.size+1,2,none⟩=some (.int .i64 Bb)/\wX.cell? ⟨w.heap.size+1,3,none⟩=some (.int .u64 W))/\(wX.cell? ⟨w.heap.size+2,0,none⟩=some (.slice none 0 0)/\wX.cell? ⟨w.heap.size+2,1,none⟩=some (.slice none 0 0)/\wX.cell? ⟨w.heap.size+2,2,none⟩=some (.slice none 0 0)/\wX.cell? ⟨w.heap.size+2,3,none⟩=some (.slice none 0 0))/\(wX.frozen? ⟨w.heap.size+2,0,none⟩=false/\wX.frozen? ⟨w.heap.size+2,1,none⟩=false/\wX.frozen? ⟨w.heap.size+2,2,none⟩=false/\wX.frozen? ⟨w.heap.size+2,3,none⟩=false)/\w.heap.size < wX.heap.size/\w.heap.size+1 < wX.heap.size/\w.heap.size+2 < wX.heap.size):=fun wX hX=>by
  have hsz:=hX.size
  refine ⟨⟨?_,?_,?_,?_⟩,⟨?_,?_,?_,?_⟩,⟨?_,?_,?_,?_⟩,⟨?_,?_,?_,?_⟩,by omega,by omega,by omega⟩
  iterate 12 (exact (hX.cell (by simp; omega)).trans (by rw [hwb]; simp [go_sem]))
  iterate 4 (exact (hX.frozen (by simp; omega)).trans (by rw [hwb]; simp [go_sem]))
 have hvm:=specValid_any s M b wb hs (h.below hbb)
 rw [hv,hwb] at hvm
 have HM:Hid (∀ wX,Below wb.heap.size wb wX->MRow wX b (s.mv M) M):=fun wX hX=>h.below (hbb.trans (hX.mono (by omega)))
 have HCP:Hid (∀ wX,Below wb.heap.size wb wX->_):=fun wX hX=>copyM_any s M b wX hs (HM.out wX hX)
 have HWF:Hid (∀ wX,Calls Try.prog 82 #[.agg #[.slice s.a1 M.mem.length s.c1,.slice s.a2 M.pend.length s.c2,.slice s.a3 M.tlb.length s.c3,.slice s.a4 M.wc.length s.c4],.agg #[.int .i64 1,.int .i64 A,.int .i64 Bb,.int .u64 W]] wX fun e w'=>e=.returned (.bool (opB M ⟨1,A,Bb,W⟩))/\Below wX.heap.size wX w'):=fun wX=>wellS_any s M 1 A Bb W wX hs
 have HWB:Hid (wb=_):=hwb
 have HBB:Hid (Below _ w wb):=hbb
 have HZ:Hid (wb.heap.size=w.heap.size+3):=hzb
 have HVV:Hid (validB M=true):=hv
 clear hwb hbb hzb h hv
 go_enter Try.func29,Try.ntmps29
 go_wp2_with fail
 refine hvm.mono ?_
 rintro e w1 ⟨rfl,hb1'⟩
 have hb1:Below wb.heap.size wb w1:=by rw [HWB.out]; exact hb1'
 have HB1:Hid (Below wb.heap.size wb w1):=hb1
 clear hb1' hvm
 obtain ⟨⟨q0,q1,q2,q3⟩,_,_,_,N0,N1,N2⟩:=HBOX.out w1 hb1
 clear hb1
 go_wp2_with fail
 refine (HCP.out w1 HB1.out).mono ?_
 rintro e w2 ⟨s1,rfl,hr2,hap2,hb2⟩
 obtain ⟨wO,hwO⟩:∃ wO,wO=w2.alloc (.cells #[.slice s1.a1 M.mem.length s1.c1,.slice s1.a2 M.pend.length s1.c2,.slice s1.a3 M.tlb.length s1.c3,.slice s1.a4 M.wc.length s1.c4] 38):=⟨_,rfl⟩
 have hzO:wO.heap.size=w2.heap.size+1:=by rw [hwO]; simp
 have b2:Below wb.heap.size wb w2:=HB1.out.trans (hb2.mono HB1.out.size)
 have bO:Below wb.heap.size wb wO:=by rw [hwO]; exact b2.alloc b2.size _
 have rO:MRow wO w1.heap.size (s1.mv M) M:=by rw [hwO]; exact hr2.below ((Below.refl _ _).alloc (Nat.le_refl _) _)
 have HOB:Hid (∀ wX,Below wO.heap.size wO wX->(wX.cell? ⟨w2.heap.size,0,none⟩=some (.slice s1.a1 M.mem.length s1.c1)/\wX.cell? ⟨w2.heap.size,1,none⟩=some (.slice s1.a2 M.pend.length s1.c2)/\wX.cell? ⟨w2.heap.size,2,none⟩=some (.slice s1.a3 M.tlb.length s1.c3)/\wX.cell? ⟨w2.heap.size,3,none⟩=some (.slice s1.a4 M.wc.length s1.c4))/\(wX.frozen? ⟨w2.heap.size,0,none⟩=false/\wX.frozen? ⟨w2.heap.size,1,none⟩=false/\wX.frozen? ⟨w2.heap.size,2,none⟩=false/\wX.frozen? ⟨w2.heap.size,3,none⟩=false)):=fun wX hX=>by
  refine ⟨⟨?_,?_,?_,?_⟩,?_,?_,?_,?_⟩
  iterate 4 (exact (hX.cell (by simp; omega)).trans (by rw [hwO]; simp [go_sem]))
  iterate 4 (exact (hX.frozen (by simp; omega)).trans (by rw [hwO]; simp [go_sem]))
 obtain ⟨⟨q0,q1,q2,q3⟩,⟨p0,p1,p2,p3⟩,_,_,N0,N1,N2⟩:=HBOX.out w2 b2
 have hwf:=HWF.out wO
 rw [hop,hwO] at hwf
 have HWO:Hid (wO=_):=hwO
 have HRO:Hid (MRow wO w1.heap.size (s1.mv M) M):=rO
 have HO2:Hid (∀ k,(s1.mv M).owns k->w1.heap.size<=k/\k < w2.heap.size):=hr2.own
 have HAP:Hid ((s1.mv M).apart):=hap2
 have HBO:Hid (Below wb.heap.size wb wO):=bO
 have HZO:Hid (wO.heap.size=w2.heap.size+1):=hzO
 have HS12:Hid (w1.heap.size<=w2.heap.size):=hb2.size
 have N3:w.heap.size+2 < w2.heap.size:=N2
 clear hr2 hb2 hwO b2 bO rO hzO hap2
 go_wp2_with fail
 refine hwf.mono ?_
 rintro e w3 ⟨rfl,hb3'⟩
 have hb3:Below wO.heap.size wO w3:=by rw [HWO.out]; exact hb3'
 have b3:Below wb.heap.size wb w3:=HBO.out.trans (hb3.mono HBO.out.size)
 have HB3:Hid (Below wb.heap.size wb w3):=b3
 have HBO3:Hid (Below wO.heap.size wO w3):=hb3
 obtain ⟨⟨q0,q1,q2,q3⟩,⟨p0,p1,p2,p3⟩,⟨r0,r1,r2,r3⟩,⟨z0,z1,z2,z3⟩,N0,N1,N2⟩:=HBOX.out w3 b3
 obtain ⟨⟨o0,o1,o2,o3⟩,y0,y1,y2,y3⟩:=HOB.out w3 hb3
 clear hwf hb3' hb3 b3
 have hcc:=hcod w3 (HM.out w3 HB3.out)
 clear hcod
 go_wp2_with fail
 refine hcc.mono ?_
 rintro e w4 ⟨rfl,hb4⟩
 have HBN4:Hid (Below wb.heap.size wb w4):=HB3.out.trans (hb4.mono HB3.out.size)
 have HON4:Hid (Below wO.heap.size wO w4):=HBO3.out.trans (hb4.mono HBO3.out.size)
 obtain ⟨_,⟨p0,p1,p2,p3⟩,_,_,N0,N1,N2⟩:=HBOX.out w4 HBN4.out
 obtain ⟨⟨o0,o1,o2,o3⟩,y0,y1,y2,y3⟩:=HOB.out w4 HON4.out
 have HRN:Hid (MRow w4 w1.heap.size (s1.mv M) M):=HRO.out.below HON4.out
 have HOWN:Hid (w4.ownsRow w1.heap.size 147 2 (.slice s1.a2 M.pend.length s1.c2) M.pend.length (ecells eWrite M.pend)):=HRN.out.p
 have hsz4:w2.heap.size < w4.heap.size:=by have:=HON4.out.size; have:=HZO.out; omega
 have hs14:w1.heap.size<=w4.heap.size:=by have:=HS12.out; omega
 clear hcc hb4
 go_wp2_with (at_builtin; refine wpList_append_lies _ rfl (.tmp 36) (.tmp 42) 34 rfl w1.heap.size 147 iE _ 2 16 Try.underlying34 hiE hz0 hz1 hz2 rfl (by omega) _ _ _ rfl (World.ownsRow.alloc HOWN.out _) ⟨w4.heap.size,0,none⟩ 1 1 [.int .i64 A,.int .u64 W] rfl rfl ?c1 ?c2 (by omega) ?c3 ?c4 ?c5 (w4.heap.size+1) ?c6 ?_)
 case c1=>exact World.news_of_block (heap_alloc_new w4 (.cells #[.int .i64 A,.int .u64 W] 147))
 case c2=>intro u hu; simp at hu; rcases hu with rfl | rfl <;> rfl
 case c3=>unfold maxLen; omega
 case c4=>omega
 case c5=>simp; omega
 case c6=>simp
 intro g1 cap1 wn hown hgrow hat hlt3
 rw [own_slice] at hgrow hat
 obtain ⟨wA,hwA⟩:∃ wA,wA=w4.alloc (.cells #[.int .i64 A,.int .u64 W] 147):=⟨_,rfl⟩
 rw [<- hwA] at hgrow
 have hzA:wA.heap.size=w4.heap.size+1:=by rw [hwA]; simp
 have bA:Below w4.heap.size w4 wA:=by rw [hwA]; exact (Below.refl _ _).alloc (Nat.le_refl _) _
 have hol:∀ k,oOf s1.a2=some k->w1.heap.size<=k/\k < w2.heap.size:=fun k hk=>HO2.out k (.inr (.inl (by simp only [SV.mv,own_slice]; exact hk)))
 have hblk:∀ k,k < w4.heap.size->oOf s1.a2 ≠ some k->wn.heap[k]?=w4.heap[k]?:=fun k hk hn=>(hgrow.block k (by omega) (fun e=>hn e.symm)).trans (bA.block k hk)
 have c1n:wn.cell? ⟨w2.heap.size,1,none⟩=some (.slice s1.a2 M.pend.length s1.c2):=(World.cell?_of_block (hblk w2.heap.size hsz4 (fun e=>by have:=hol _ e; omega))).trans o1
 have c0n:wn.cell? ⟨w2.heap.size,0,none⟩=some (.slice s1.a1 M.mem.length s1.c1):=(World.cell?_of_block (hblk w2.heap.size hsz4 (fun e=>by have:=hol _ e; omega))).trans o0
 have c2n:wn.cell? ⟨w2.heap.size,2,none⟩=some (.slice s1.a3 M.tlb.length s1.c3):=(World.cell?_of_block (hblk w2.heap.size hsz4 (fun e=>by have:=hol _ e; omega))).trans o2
 have c3n:wn.cell? ⟨w2.heap.size,3,none⟩=some (.slice s1.a4 M.wc.length s1.c4):=(World.cell?_of_block (hblk w2.heap.size hsz4 (fun e=>by have:=hol _ e; omega))).trans o3
 have f1n:wn.frozen? ⟨w2.heap.size,1,none⟩=false:=(World.frozen?_of_block (hblk w2.heap.size hsz4 (fun e=>by have:=hol _ e; omega))).trans y1
 have hN0:wn.heap.size ≥ w4.heap.size:=by have:=hgrow.size; omega
 have bN:Below wb.heap.size wb wn:=⟨hgrow.os.trans (bA.os.trans HBN4.out.os),hgrow.tape.trans (bA.tape.trans HBN4.out.tape),hgrow.output.trans (bA.output.trans HBN4.out.output),by have:=HBN4.out.size; omega,fun k hk=>(hblk k (by have:=HBN4.out.size; omega) (fun e=>by have:=hol _ e; have:=HB1.out.size; omega)).trans (HBN4.out.block k hk)⟩
 obtain ⟨_,_,⟨r0,r1,r2,r3⟩,⟨z0,z1,z2,z3⟩,N0,N1,N2⟩:=HBOX.out wn bN
 have hnew:ERow eWrite wn w1.heap.size (.slice (some ⟨g1,0,none⟩) (M.pend.length+1) cap1) (M.pend ++ [⟨A,W⟩]):=ERow.snocL (m:=M.pend.length+1) rfl hown
 have hgne:¬ g1=w2.heap.size:=fun e=>by
  rcases hat with h' | h'
  ·have:=hol _ h'; omega
  ·omega
 have HNEW:Hid (ERow eWrite wn w1.heap.size _ _):=hnew
 have HTN:Hid (Touch (fun k=>oOf s1.a2=some k) w4 wn):=⟨hgrow.os.trans bA.os,hgrow.tape.trans bA.tape,hgrow.output.trans bA.output,hN0,hblk⟩
 have HGN:Hid (¬ g1=w2.heap.size):=hgne
 have HNB:Hid (Below wb.heap.size wb wn):=bN
 have HHAT:Hid (oOf s1.a2=some g1\/g1=w4.heap.size+1):=hat
 have N5:w2.heap.size < wn.heap.size:=by omega
 have N6:¬ w2.heap.size=w.heap.size+2:=by omega
 clear hown hgrow hat hwA hzA bA hblk hnew hgne bN o0 o1 o2 o3 y0 y1 y2 y3
 go_wp2_with fail
 obtain ⟨wM,hwM⟩:∃ wM,wM=wn.setCell ⟨w2.heap.size,1,none⟩ (.slice (some ⟨g1,0,none⟩) (M.pend.length+1) cap1):=⟨_,rfl⟩
 rw [<- hwM]
 have HBN:Hid (Below wb.heap.size wb wM):=by rw [hwM]; exact HNB.out.setCell (by have:=HZ.out; show wb.heap.size<=w2.heap.size; omega) _
 have HTM:Hid (Touch (fun k=>k=w2.heap.size) wn wM):=by rw [hwM]; exact ⟨rfl,rfl,rfl,by simp,fun k hk hn=>Below.heap_setCell _ _ _ _ hn⟩
 obtain ⟨_,_,⟨r0,r1,r2,r3⟩,_,_,_,_⟩:=HBOX.out wM HBN.out
 obtain ⟨wF,hwF⟩:∃ wF,wF=((((wM.setCell ⟨w.heap.size+1+1,0,none⟩ (.slice s1.a1 M.mem.length s1.c1)).setCell ⟨w.heap.size+1+1,1,none⟩ (.slice (some ⟨g1,0,none⟩) (M.pend.length+1) cap1)).setCell ⟨w.heap.size+1+1,2,none⟩ (.slice s1.a3 M.tlb.length s1.c3)).setCell ⟨w.heap.size+1+1,3,none⟩ (.slice s1.a4 M.wc.length s1.c4)):=⟨_,rfl⟩
 rw [<- hwF]
 have hTF:Touch (fun k=>k=w.heap.size+2) wM wF:=by
  rw [hwF]
  exact Touch.put (Touch.put (Touch.put (Touch.put (Touch.none _) _ _ (by rfl)) _ _ (by rfl)) _ _ (by rfl)) _ _ (by rfl)
 have f0:wF.cell? ⟨w.heap.size+1+1,0,none⟩=some (.slice s1.a1 M.mem.length s1.c1):=by rw [hwF]; simp [go_sem,r0]
 have f1:wF.cell? ⟨w.heap.size+1+1,1,none⟩=some (.slice (some ⟨g1,0,none⟩) (M.pend.length+1) cap1):=by rw [hwF]; simp [go_sem,r1]
 have f2:wF.cell? ⟨w.heap.size+1+1,2,none⟩=some (.slice s1.a3 M.tlb.length s1.c3):=by rw [hwF]; simp [go_sem,r2]
 have f3:wF.cell? ⟨w.heap.size+1+1,3,none⟩=some (.slice s1.a4 M.wc.length s1.c4):=by rw [hwF]; simp [go_sem,r3]
 have rF:MRow wF w1.heap.size ((⟨s1.a1,s1.c1,some ⟨g1,0,none⟩,cap1,s1.a3,s1.c3,s1.a4,s1.c4⟩:SV).mv (⟨M.mem,M.pend ++ [⟨A,W⟩],M.tlb,M.wc⟩:Mach)) (⟨M.mem,M.pend ++ [⟨A,W⟩],M.tlb,M.wc⟩:Mach):=by
  have e2:=HB1.out.size
  have e3:=HZ.out
  have e4:=HS12.out
  have hl:(M.pend ++ [(⟨A,W⟩:WriteE)]).length=M.pend.length+1:=by simp
  have hap:=HAP.out
  have key:∀ {α:Type} {E:Elt α} {v:Value} {xs:List α},ERow E w4 w1.heap.size v xs->(∀ k,v.ownBlock=some k->oOf s1.a2 ≠ some k/\k < w2.heap.size)->ERow E wF w1.heap.size v xs:=fun hr hk=>by
   refine ((hr.touch HTN.out (fun k h1 h2=>(hk k h1).1 h2)).touch HTM.out (fun k h1 h2=>by have:=(hk k h1).2; omega)).touch hTF (fun k h1 h2=>?_)
   have:=(hr.own k h1).1
   omega
  refine ⟨key HRN.out.w (fun k h1=>⟨fun h2=>(hap k).1 h1 |>.1 (by simp only [SV.mv,own_slice]; exact h2),(HO2.out k (.inl h1)).2⟩),?_,key HRN.out.t (fun k h1=>⟨fun h2=>((hap k).2.1 (by simp only [SV.mv,own_slice]; exact h2)).1 h1,(HO2.out k (.inr (.inr (.inl h1)))).2⟩),key HRN.out.c (fun k h1=>⟨fun h2=>((hap k).2.1 (by simp only [SV.mv,own_slice]; exact h2)).2 h1,(HO2.out k (.inr (.inr (.inr h1)))).2⟩)⟩
  show ERow eWrite wF w1.heap.size (.slice (some ⟨g1,0,none⟩) (M.pend ++ [(⟨A,W⟩:WriteE)]).length cap1) (M.pend ++ [⟨A,W⟩])
  rw [hl]
  refine (HNEW.out.touch HTM.out (fun k h1 h2=>?_)).touch hTF (fun k h1 h2=>?_)
  ·have:g1=k:=by simpa [Value.ownBlock] using h1
   exact HGN.out (this.trans h2)
  ·have:=(HNEW.out.own k h1).1
   omega
 have hbF:Below w.heap.size w wF:=Touch.below (HBB.out.trans (HBN.out.mono HBB.out.size)) hTF (by have:=HBN.out.size; have:=HZ.out; omega) (fun k hk=>by omega)
 exact bodyPost_ret (v:=.tuple #[.agg #[.slice s1.a1 M.mem.length s1.c1,.slice (some ⟨g1,0,none⟩) (M.pend.length+1) cap1,.slice s1.a3 M.tlb.length s1.c3,.slice s1.a4 M.wc.length s1.c4],.int .i64 0]) (by simp [results,Try.results29,go_sem,f0,f1,f2,f3]) rfl ⟨(⟨s1.a1,s1.c1,some ⟨g1,0,none⟩,cap1,s1.a3,s1.c3,s1.a4,s1.c4⟩:SV),by first | rfl | simp,rF.rebase (by have:=HB1.out.size; have:=HZ.out; omega),hbF⟩
end Go.Proofs.Ytnmhkgmmpkjjeaa
