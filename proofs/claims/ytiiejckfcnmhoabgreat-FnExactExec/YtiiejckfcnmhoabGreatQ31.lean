import Derived.Test.YtiiejckfcnmhoabGreatQ18
import Derived.Test.YtiiejckfcnmhoabGreatQ30
namespace Go.Proofs.YtiiejckfcnmhoabGreat
open Go.ChangeShapes Go.WideShapes Go.ChangeAt Go.RowKit
set_option linter.unusedVariables false
attribute [local go_sem ↓] Go.wp_at_zero Go.wp_at_succ
theorem Touch.drewP {S:Nat->Prop} {a w:World} (h:Touch S a w):Touch S a w.drew:=⟨h.os,h.tape,h.output,h.size,h.block⟩
set_option maxRecDepth 100000 in
set_option maxHeartbeats 8000000 in
theorem specAcc_any (s:SV) (M:Mach) (b:Nat) (page need choice:Int) (w:World) (hk:MOk M) (hs:M.Small) (h:MRow w b (s.mv M) M) :
  Calls Tryz.prog 7 #[.agg #[.slice s.a1 M.mem.length s.c1,.slice s.a2 M.pend.length s.c2,.slice s.a3 M.tlb.length s.c3,.slice s.a4 M.wc.length s.c4],.int .i64 page,.int .i64 need,.int .i64 choice] w fun e w'=>∃ s':SV,e=.returned (.tuple #[.agg #[.slice s'.a1 (accM M page need choice).1.mem.length s'.c1,.slice s'.a2 (accM M page need choice).1.pend.length s'.c2,.slice s'.a3 (accM M page need choice).1.tlb.length s'.c3,.slice s'.a4 (accM M page need choice).1.wc.length s'.c4],seenV (accM M page need choice).2])/\MRow w' w.heap.size (s'.mv (accM M page need choice).1) (accM M page need choice).1/\Below w.heap.size w w':=by
 obtain ⟨iT,hiT,hzT0,hzT1,hzT2⟩:=info_parts infoTlb
 obtain ⟨wb,hwb⟩:∃ wb,wb=((w.alloc (.cells #[.slice s.a1 M.mem.length s.c1,.slice s.a2 M.pend.length s.c2,.slice s.a3 M.tlb.length s.c3,.slice s.a4 M.wc.length s.c4] 36)).alloc (.cells #[.slice none 0 0,.slice none 0 0,.slice none 0 0,.slice none 0 0] 36)).alloc (.cells #[.int .i64 0,.int .i64 0,.int .i64 0,.int .i64 0] 38):=⟨_,rfl⟩
 have hbb:Below w.heap.size w wb:=by rw [hwb]; exact (bal.alloc (by simp) _).alloc (by simp <;> omega) _
 have hzb:wb.heap.size=w.heap.size+3:=by rw [hwb]; simp
 have HBOX:Hid (∀ wX,Below wb.heap.size wb wX->(wX.cell? ⟨w.heap.size,0,none⟩=some (.slice s.a1 M.mem.length s.c1)/\wX.cell? ⟨w.heap.size,1,none⟩=some (.slice s.a2 M.pend.length s.c2)/\wX.cell? ⟨w.heap.size,2,none⟩=some (.slice s.a3 M.tlb.length s.c3)/\wX.cell? ⟨w.heap.size,3,none⟩=some (.slice s.a4 M.wc.length s.c4))/\(wX.cell? ⟨w.heap.size+1,0,none⟩=some (.slice none 0 0)/\wX.cell? ⟨w.heap.size+1,1,none⟩=some (.slice none 0 0)/\wX.cell? ⟨w.heap.size+1,2,none⟩=some (.slice none 0 0)/\wX.cell? ⟨w.heap.size+1,3,none⟩=some (.slice none 0 0))/\(wX.frozen? ⟨w.heap.size+1,0,none⟩=false/\wX.frozen? ⟨w.heap.size+1,1,none⟩=false/\wX.frozen? ⟨w.heap.size+1,2,none⟩=false/\wX.frozen? ⟨w.heap.size+1,3,none⟩=false)/\(wX.cell? ⟨w.heap.size+1+1,0,none⟩=some (.int .i64 0)/\wX.cell? ⟨w.heap.size+1+1,1,none⟩=some (.int .i64 0)/\wX.cell? ⟨w.heap.size+1+1,2,none⟩=some (.int .i64 0)/\wX.cell? ⟨w.heap.size+1+1,3,none⟩=some (.int .i64 0))/\(wX.frozen? ⟨w.heap.size+1+1,0,none⟩=false/\wX.frozen? ⟨w.heap.size+1+1,1,none⟩=false/\wX.frozen? ⟨w.heap.size+1+1,2,none⟩=false/\wX.frozen? ⟨w.heap.size+1+1,3,none⟩=false)/\w.heap.size+1+1 < wX.heap.size):=fun wX hX=>by
  have hsz:=hX.size
  refine ⟨⟨?_,?_,?_,?_⟩,⟨?_,?_,?_,?_⟩,⟨?_,?_,?_,?_⟩,⟨?_,?_,?_,?_⟩,⟨?_,?_,?_,?_⟩,by omega⟩
  iterate 8 (exact (hX.cell (by simp; omega)).trans (by rw [hwb]; simp [go_sem]))
  iterate 4 (exact (hX.frozen (by simp; omega)).trans (by rw [hwb]; simp [go_sem]))
  iterate 4 (exact (hX.cell (by simp; omega)).trans (by rw [hwb]; simp [go_sem]))
  iterate 4 (exact (hX.frozen (by simp; omega)).trans (by rw [hwb]; simp [go_sem]))
 have HWB:Hid (wb=_):=hwb
 have HBB:Hid (Below _ w wb):=hbb
 have HZ:Hid (wb.heap.size=w.heap.size+3):=hzb
 have hvm:=specValid_any s M b wb hs (h.below hbb)
 rw [hwb] at hvm
 have hpk:=pageOk_any page
 have hck:=choiceOk_any choice
 have HM:Hid (∀ wX,Below wb.heap.size wb wX->MRow wX b (s.mv M) M):=fun wX hX=>h.below (hbb.trans (hX.mono (by omega)))
 have HPOST:Hid (∀ (M':Mach) (s':SV) (bb:Nat) (w0 wF:World),(wb.heap.size<=bb/\MRow w0 bb (s'.mv M') M')->Below wb.heap.size wb w0->Touch (fun k=>k=w.heap.size+1\/k=w.heap.size+1+1) w0 wF->MRow wF w.heap.size (s'.mv M') M'/\Below w.heap.size w wF):=by
  intro M' s' bb w0 wF h1 h2 hT
  refine ⟨MRow.rebase (base:=bb) (h1.2.touch hT (fun k hk hh=>?_)) (by omega),Touch.below (hbb.trans (h2.mono (by omega))) hT (by have:=h2.size; omega) (fun k hk=>by omega)⟩
  have:=(h1.2.own k hk).1
  omega
 have hno:accOk M page need choice=false->accM M page need choice=(zM,⟨0,0,0,0⟩):=fun e=>by unfold accM; rw [e]; rfl
 have hyes:accOk M page need choice=true->accM M page need choice=(accN M page choice,accS M page need choice):=fun e=>by unfold accM; rw [e]; rfl
 have hao:accOk M page need choice=(validB M && pageOk page && choiceOk choice && needOk need):=rfl
 clear hwb hbb hzb h
 cases hv:validB M
 ·rw [hno (by rw [hao,hv]; rfl)]
  rw [hv] at hvm
  clear hno hyes hao hv
  go_enter Tryz.func7,Tryz.ntmps7
  go_wp2_with fail
  refine hvm.mono ?_
  rintro e w1 ⟨rfl,hb1'⟩
  have hb1:Below wb.heap.size wb w1:=by rw [HWB.out]; exact hb1'
  obtain ⟨⟨q0,q1,q2,q3⟩,⟨r0,r1,r2,r3⟩,⟨z0,z1,z2,z3⟩,⟨p0,p1,p2,p3⟩,⟨x0,x1,x2,x3⟩,N1⟩:=HBOX.out w1 hb1
  have HB1:Hid (Below w.heap.size w w1):=HBB.out.trans (hb1.mono (by have:=HZ.out; omega))
  clear hb1' hb1 hvm
  go_wp2_with fail
  obtain ⟨wF,hwF⟩:∃ wF,wF=((((((((w1.setCell ⟨w.heap.size+1,0,none⟩ (.slice none 0 0)).setCell ⟨w.heap.size+1,1,none⟩ (.slice none 0 0)).setCell ⟨w.heap.size+1,2,none⟩ (.slice none 0 0)).setCell ⟨w.heap.size+1,3,none⟩ (.slice none 0 0)).setCell ⟨w.heap.size+1+1,0,none⟩ (.int .i64 0)).setCell ⟨w.heap.size+1+1,1,none⟩ (.int .i64 0)).setCell ⟨w.heap.size+1+1,2,none⟩ (.int .i64 0)).setCell ⟨w.heap.size+1+1,3,none⟩ (.int .i64 0)):=⟨_,rfl⟩
  rw [<- hwF]
  have hTF:Touch (fun k=>k=w.heap.size+1\/k=w.heap.size+1+1) w1 wF:=by
   rw [hwF]
   exact (Touch.put (Touch.put (Touch.put (Touch.put (Touch.put (Touch.put (Touch.put (Touch.put (Touch.none w1) _ _ (.inl rfl)) _ _ (.inl rfl)) _ _ (.inl rfl)) _ _ (.inl rfl)) _ _ (.inr rfl)) _ _ (.inr rfl)) _ _ (.inr rfl)) _ _ (.inr rfl))
  obtain ⟨f0,f1,f2,f3⟩:=put8a hwF r0 r1 r2 r3
  obtain ⟨g0,g1,g2,g3⟩:=put8b hwF p0 p1 p2 p3
  exact bodyPost_ret (v:=.tuple #[.agg #[.slice none 0 0,.slice none 0 0,.slice none 0 0,.slice none 0 0],.agg #[.int .i64 0,.int .i64 0,.int .i64 0,.int .i64 0]]) (by simp [results,Tryz.results7,go_sem,f0,f1,f2,f3,g0,g1,g2,g3]) rfl ⟨zS,rfl,zM_row _ _,Touch.below HB1.out hTF HB1.out.size (fun k hk=>by omega)⟩
 ·rw [hv] at hvm
  cases hp:pageOk page
  ·rw [hno (by rw [hao,hp]; simp)]
   rw [hp] at hpk
   clear hno hyes hao hv hp
   go_enter Tryz.func7,Tryz.ntmps7
   go_wp2_with fail
   refine hvm.mono ?_
   rintro e w1 ⟨rfl,hb1'⟩
   have hb1:Below wb.heap.size wb w1:=by rw [HWB.out]; exact hb1'
   obtain ⟨⟨q0,q1,q2,q3⟩,⟨r0,r1,r2,r3⟩,⟨z0,z1,z2,z3⟩,⟨p0,p1,p2,p3⟩,⟨x0,x1,x2,x3⟩,N1⟩:=HBOX.out w1 hb1
   have HB1:Hid (Below w.heap.size w w1):=HBB.out.trans (hb1.mono (by have:=HZ.out; omega))
   clear hb1' hb1 hvm
   go_wp2_with (first | (go_at_call 35; refine (hpk _).mono ?_; rintro e wE ⟨rfl,hwE⟩; obtain rfl:=hwE.symm))
   obtain ⟨wF,hwF⟩:∃ wF,wF=((((((((w1.setCell ⟨w.heap.size+1,0,none⟩ (.slice none 0 0)).setCell ⟨w.heap.size+1,1,none⟩ (.slice none 0 0)).setCell ⟨w.heap.size+1,2,none⟩ (.slice none 0 0)).setCell ⟨w.heap.size+1,3,none⟩ (.slice none 0 0)).setCell ⟨w.heap.size+1+1,0,none⟩ (.int .i64 0)).setCell ⟨w.heap.size+1+1,1,none⟩ (.int .i64 0)).setCell ⟨w.heap.size+1+1,2,none⟩ (.int .i64 0)).setCell ⟨w.heap.size+1+1,3,none⟩ (.int .i64 0)):=⟨_,rfl⟩
   rw [<- hwF]
   have hTF:Touch (fun k=>k=w.heap.size+1\/k=w.heap.size+1+1) w1 wF:=by
    rw [hwF]
    exact (Touch.put (Touch.put (Touch.put (Touch.put (Touch.put (Touch.put (Touch.put (Touch.put (Touch.none w1) _ _ (.inl rfl)) _ _ (.inl rfl)) _ _ (.inl rfl)) _ _ (.inl rfl)) _ _ (.inr rfl)) _ _ (.inr rfl)) _ _ (.inr rfl)) _ _ (.inr rfl))
   obtain ⟨f0,f1,f2,f3⟩:=put8a hwF r0 r1 r2 r3
   obtain ⟨g0,g1,g2,g3⟩:=put8b hwF p0 p1 p2 p3
   exact bodyPost_ret (v:=.tuple #[.agg #[.slice none 0 0,.slice none 0 0,.slice none 0 0,.slice none 0 0],.agg #[.int .i64 0,.int .i64 0,.int .i64 0,.int .i64 0]]) (by simp [results,Tryz.results7,go_sem,f0,f1,f2,f3,g0,g1,g2,g3]) rfl ⟨zS,rfl,zM_row _ _,Touch.below HB1.out hTF HB1.out.size (fun k hk=>by omega)⟩
  ·rw [hp] at hpk
   cases hc:choiceOk choice
   ·rw [hno (by rw [hao,hc]; simp)]
    rw [hc] at hck
    clear hno hyes hao hv hp hc
    go_enter Tryz.func7,Tryz.ntmps7
    go_wp2_with fail
    refine hvm.mono ?_
    rintro e w1 ⟨rfl,hb1'⟩
    have hb1:Below wb.heap.size wb w1:=by rw [HWB.out]; exact hb1'
    obtain ⟨⟨q0,q1,q2,q3⟩,⟨r0,r1,r2,r3⟩,⟨z0,z1,z2,z3⟩,⟨p0,p1,p2,p3⟩,⟨x0,x1,x2,x3⟩,N1⟩:=HBOX.out w1 hb1
    have HB1:Hid (Below w.heap.size w w1):=HBB.out.trans (hb1.mono (by have:=HZ.out; omega))
    clear hb1' hb1 hvm
    go_wp2_with (first | (go_at_call 35; refine (hpk _).mono ?_; rintro e wE ⟨rfl,hwE⟩; obtain rfl:=hwE.symm) | (go_at_call 36; refine (hck _).mono ?_; rintro e wE ⟨rfl,hwE⟩; obtain rfl:=hwE.symm))
    obtain ⟨wF,hwF⟩:∃ wF,wF=((((((((w1.setCell ⟨w.heap.size+1,0,none⟩ (.slice none 0 0)).setCell ⟨w.heap.size+1,1,none⟩ (.slice none 0 0)).setCell ⟨w.heap.size+1,2,none⟩ (.slice none 0 0)).setCell ⟨w.heap.size+1,3,none⟩ (.slice none 0 0)).setCell ⟨w.heap.size+1+1,0,none⟩ (.int .i64 0)).setCell ⟨w.heap.size+1+1,1,none⟩ (.int .i64 0)).setCell ⟨w.heap.size+1+1,2,none⟩ (.int .i64 0)).setCell ⟨w.heap.size+1+1,3,none⟩ (.int .i64 0)):=⟨_,rfl⟩
    rw [<- hwF]
    have hTF:Touch (fun k=>k=w.heap.size+1\/k=w.heap.size+1+1) w1 wF:=by
     rw [hwF]
     exact (Touch.put (Touch.put (Touch.put (Touch.put (Touch.put (Touch.put (Touch.put (Touch.put (Touch.none w1) _ _ (.inl rfl)) _ _ (.inl rfl)) _ _ (.inl rfl)) _ _ (.inl rfl)) _ _ (.inr rfl)) _ _ (.inr rfl)) _ _ (.inr rfl)) _ _ (.inr rfl))
    obtain ⟨f0,f1,f2,f3⟩:=put8a hwF r0 r1 r2 r3
    obtain ⟨g0,g1,g2,g3⟩:=put8b hwF p0 p1 p2 p3
    exact bodyPost_ret (v:=.tuple #[.agg #[.slice none 0 0,.slice none 0 0,.slice none 0 0,.slice none 0 0],.agg #[.int .i64 0,.int .i64 0,.int .i64 0,.int .i64 0]]) (by simp [results,Tryz.results7,go_sem,f0,f1,f2,f3,g0,g1,g2,g3]) rfl ⟨zS,rfl,zM_row _ _,Touch.below HB1.out hTF HB1.out.size (fun k hk=>by omega)⟩
   ·rw [hc] at hck
    cases hnd:needOk need
    ·rw [hno (by rw [hao,hnd]; simp)]
     have n1:(need != 1)=true:=by simp [needOk] at hnd; simp; omega
     have n2:(need != 2)=true:=by simp [needOk] at hnd; simp; omega
     have n4:(need != 4)=true:=by simp [needOk] at hnd; simp; omega
     clear hno hyes hao hv hp hc hnd
     go_enter Tryz.func7,Tryz.ntmps7
     go_wp2_with fail
     refine hvm.mono ?_
     rintro e w1 ⟨rfl,hb1'⟩
     have hb1:Below wb.heap.size wb w1:=by rw [HWB.out]; exact hb1'
     obtain ⟨⟨q0,q1,q2,q3⟩,⟨r0,r1,r2,r3⟩,⟨z0,z1,z2,z3⟩,⟨p0,p1,p2,p3⟩,⟨x0,x1,x2,x3⟩,N1⟩:=HBOX.out w1 hb1
     have HB1:Hid (Below w.heap.size w w1):=HBB.out.trans (hb1.mono (by have:=HZ.out; omega))
     clear hb1' hb1 hvm
     go_wp2_with (first | (go_at_call 35; refine (hpk _).mono ?_; rintro e wE ⟨rfl,hwE⟩; obtain rfl:=hwE.symm) | (go_at_call 36; refine (hck _).mono ?_; rintro e wE ⟨rfl,hwE⟩; obtain rfl:=hwE.symm))
     obtain ⟨wF,hwF⟩:∃ wF,wF=((((((((w1.setCell ⟨w.heap.size+1,0,none⟩ (.slice none 0 0)).setCell ⟨w.heap.size+1,1,none⟩ (.slice none 0 0)).setCell ⟨w.heap.size+1,2,none⟩ (.slice none 0 0)).setCell ⟨w.heap.size+1,3,none⟩ (.slice none 0 0)).setCell ⟨w.heap.size+1+1,0,none⟩ (.int .i64 0)).setCell ⟨w.heap.size+1+1,1,none⟩ (.int .i64 0)).setCell ⟨w.heap.size+1+1,2,none⟩ (.int .i64 0)).setCell ⟨w.heap.size+1+1,3,none⟩ (.int .i64 0)):=⟨_,rfl⟩
     rw [<- hwF]
     have hTF:Touch (fun k=>k=w.heap.size+1\/k=w.heap.size+1+1) w1 wF:=by
      rw [hwF]
      exact (Touch.put (Touch.put (Touch.put (Touch.put (Touch.put (Touch.put (Touch.put (Touch.put (Touch.none w1) _ _ (.inl rfl)) _ _ (.inl rfl)) _ _ (.inl rfl)) _ _ (.inl rfl)) _ _ (.inr rfl)) _ _ (.inr rfl)) _ _ (.inr rfl)) _ _ (.inr rfl))
     obtain ⟨f0,f1,f2,f3⟩:=put8a hwF r0 r1 r2 r3
     obtain ⟨g0,g1,g2,g3⟩:=put8b hwF p0 p1 p2 p3
     exact bodyPost_ret (v:=.tuple #[.agg #[.slice none 0 0,.slice none 0 0,.slice none 0 0,.slice none 0 0],.agg #[.int .i64 0,.int .i64 0,.int .i64 0,.int .i64 0]]) (by simp [results,Tryz.results7,go_sem,f0,f1,f2,f3,g0,g1,g2,g3]) rfl ⟨zS,rfl,zM_row _ _,Touch.below HB1.out hTF HB1.out.size (fun k hk=>by omega)⟩
    ·have hy:=hyes (by rw [hao,hv,hp,hc,hnd]; rfl)
     rw [hy]
     have hok:=WOk.of hk hv
     have hn:=hok.t
     have hpp:0<=page/\page < 4096:=by simpa [pageOk] using hp
     have hcc:0<=choice/\choice<=65535:=by simpa [choiceOk] using hc
     obtain ⟨R,hR⟩:∃ R,R=walkM M page choice:=⟨_,rfl⟩
     have HL:Hid (∀ (s1:SV) (b1:Nat) (wX:World),b1<=wX.heap.size->MRow wX b1 (s1.mv M) M->Calls Tryz.prog 42 #[.agg #[.slice s1.a1 M.mem.length s1.c1,.slice s1.a2 M.pend.length s1.c2,.slice s1.a3 M.tlb.length s1.c3,.slice s1.a4 M.wc.length s1.c4],.int .i64 page,.int .i64 choice] wX fun r w'=>∃ s':SV,r=.returned (.tuple #[.agg #[.slice s'.a1 R.1.mem.length s'.c1,.slice s'.a2 R.1.pend.length s'.c2,.slice s'.a3 R.1.tlb.length s'.c3,.slice s'.a4 R.1.wc.length s'.c4],.agg #[.int .i64 R.2.kind,.int .i64 R.2.out,.int .i64 R.2.perm,.int .i64 R.2.size]])/\MRow w' b1 (s'.mv R.1) R.1/\(∀ k,(s'.mv R.1).owns k->(s1.mv M).owns k\/wX.heap.size<=k)/\Below wX.heap.size wX w'):=fun s1 b1 wX hb1 h1=>by
      rw [hR]
      exact lwalk_any s1 M b1 page choice wX hok hv hpp.1 hpp.2 hcc.1 hcc.2 hb1 h1
     have HRP:Hid (0<=R.2.perm/\R.2.perm<=7):=by rw [hR]; exact walkM_perm M page choice
     have HCP:Hid (∀ wX,Below wb.heap.size wb wX->Calls Tryz.prog 40 #[.agg #[.slice s.a1 M.mem.length s.c1,.slice s.a2 M.pend.length s.c2,.slice s.a3 M.tlb.length s.c3,.slice s.a4 M.wc.length s.c4]] wX fun e w'=>∃ s':SV,e=.returned (.agg #[.slice s'.a1 M.mem.length s'.c1,.slice s'.a2 M.pend.length s'.c2,.slice s'.a3 M.tlb.length s'.c3,.slice s'.a4 M.wc.length s'.c4])/\MRow w' wX.heap.size (s'.mv M) M/\(s'.mv M).apart/\Below wX.heap.size wX w'):=fun wX hX=>copyM_any s M b wX hs (HM.out wX hX)
     have hcb:∀ w,Calls Tryz.prog 38 #[.int .i64 choice,.int .i64 7] w fun e w'=>e=.returned (.bool (bitI choice 7))/\w'=w:=fun w=>choiceBit_any choice 7 hcc.1 hcc.2 (by omega) w
     have HCOV:Hid (CovAll M page (covTo M page M.tlb.length)):=covAll M page
     have HENT:Hid (∀ i,i < M.tlb.length->TRng (eAt eTlb M.tlb i)/\(0<=(eAt eTlb M.tlb i).out/\(eAt eTlb M.tlb i).out < 65536)/\0<=(eAt eTlb M.tlb i).perm/\(eAt eTlb M.tlb i).perm<=7):=fun i hi=>by
      have h1:=valid_tlb hv i hi
      unfold tlbOkB at h1
      simp only [Bool.and_eq_true,Bool.or_eq_true,decide_eq_true_eq] at h1
      exact ⟨valid_trng hv i hi,⟨h1.1.1.2,h1.1.2⟩,by omega,h1.1.1.1.2⟩
     have HN:Hid (useT M page choice=false->accN M page choice=R.1/\accS M page need choice=seenH page need R.2):=fun hu=>by
      unfold accN accS
      rw [hu,hR]
      exact ⟨rfl,rfl⟩
     have HY:Hid (useT M page choice=true->accN M page choice=M/\accS M page need choice=seenH page need (lookUpM M page)):=fun hu=>by
      unfold accN accS
      rw [hu]
      exact ⟨rfl,rfl⟩
     have HUT:Hid (useT M page choice=(bitI choice 7 && decide (firstC M page < M.tlb.length))):=rfl
     have P0:=hpp.1
     have P1:=hpp.2
     have HND:Hid (need=1\/need=2\/need=4):=by
      show need=1\/need=2\/need=4
      unfold needOk at hnd
      simp only [Bool.or_eq_true,decide_eq_true_eq] at hnd
      omega
     clear hno hyes hao hy hok hR hv hp hc hpp hcc
     go_enter Tryz.func7,Tryz.ntmps7
     go_wp2_with fail
     refine hvm.mono ?_
     rintro e w1 ⟨rfl,hb1'⟩
     have hb1:Below wb.heap.size wb w1:=by rw [HWB.out]; exact hb1'
     have HB1:Hid (Below wb.heap.size wb w1):=hb1
     clear hb1' hb1 hvm
     go_upto_region 3 with (first | (go_at_call 35; refine (hpk _).mono ?_; rintro e wE ⟨rfl,hwE⟩; obtain rfl:=hwE.symm) | (go_at_call 36; refine (hck _).mono ?_; rintro e wE ⟨rfl,hwE⟩; obtain rfl:=hwE.symm))
     go_cut [39] (fun cv wv=>cv=.bool false/\wv=w1)
     case first =>
      by_cases h1:need=1
      ·have n1:(need != 1)=false:=by simp [h1]
       clear h1
       go_wp2_with fail
       go_meet
       case rel=>exact ⟨rfl,rfl⟩
      ·have n1:(need != 1)=true:=by simpa using h1
       by_cases h2:need=2
       ·have n2:(need != 2)=false:=by simp [h2]
        clear h1 h2
        go_wp2_with fail
        go_meet
        case rel=>exact ⟨rfl,rfl⟩
       ·have n2:(need != 2)=true:=by simpa using h2
        have n4:(need != 4)=false:=by have:=HND.out; simp; omega
        clear h1 h2
        go_wp2_with fail
        go_meet
        case rel=>exact ⟨rfl,rfl⟩
     case rest =>
      obtain ⟨rfl,hcw⟩:=hcut
      have hcw2:=hcw.symm
      subst hcw2
      go_wp2_with fail
      go_loopw [10,11] (fun vv iv wr=>∃ t gv cv:Nat,t<=M.tlb.length/\iv=.int .i64 t/\vv=.slice (some ⟨gv,0,none⟩) (covTo M page t).length cv/\ERow eTlb wr w1.heap.size (.slice (some ⟨gv,0,none⟩) (covTo M page t).length cv) (covTo M page t)/\Below w1.heap.size w1 wr) (fun _ iv _=>M.tlb.length - (intOf iv).toNat)
      case atStart=>exact ⟨0,w1.heap.size,0,Nat.zero_le _,rfl,rfl,ERow.empty eTlb w1 w1.heap.size (Nat.le_refl _),(Below.refl w1.heap.size w1).alloc (Nat.le_refl _) _⟩
      case round =>
       obtain ⟨t,gv,cv,ht,rfl,rfl,hrow,hb⟩:=hrel
       have hsz:=hb.size
       have bW:Below wb.heap.size wb wr:=HB1.out.trans (hb.mono HB1.out.size)
       obtain ⟨⟨q0,q1,q2,q3⟩,_⟩:=HBOX.out wr bW
       have hKL:=covTo_len M page t
       by_cases htl:t < M.tlb.length
       ·obtain ⟨ga,ca,hae,haf⟩:=(HM.out wr bW).t.form
        obtain ⟨g,N,f,hag,_,hr1,hN,hf⟩:=haf (by omega)
        have hga:s.a3=some ⟨g,0,none⟩:=by
         have h2:Value.slice s.a3 M.tlb.length s.c3=.slice ga M.tlb.length ca:=hae
         simp only [Value.slice.injEq] at h2
         exact h2.1.trans hag
        have hN':M.tlb.length * 5<=N:=hN
        have hgl:=hr1.lt
        have HCE:Hid (∀ wX,Below wr.heap.size wr wX->wX.cell? ⟨w.heap.size,2,none⟩=some (.slice (some ⟨g,0,none⟩) M.tlb.length s.c3)/\wX.cell? ⟨g,t * 5,none⟩=some (.int .i64 (eAt eTlb M.tlb t).page)/\wX.cell? ⟨g,t * 5+1,none⟩=some (.int .i64 (eAt eTlb M.tlb t).size)/\wX.cell? ⟨g,t * 5+2,none⟩=some (.int .i64 (eAt eTlb M.tlb t).out)/\wX.cell? ⟨g,t * 5+3,none⟩=some (.int .i64 (eAt eTlb M.tlb t).perm)/\wX.cell? ⟨g,t * 5+4,none⟩=some (.bool (eAt eTlb M.tlb t).doom)):=fun wX hX=>by
         have hrow2:wX.rowIs g 81 N f:=hr1.of_block (hX.block g hgl)
         refine ⟨?_,?_,?_,?_,?_,?_⟩
         ·rw [(HBOX.out wX (bW.trans (hX.mono bW.size))).1.2.2.1,hga]
         ·rw [hrow2.cell (i:=t * 5) (by omega)]; exact congrArg some (hf t htl 0 (by decide))
         ·rw [hrow2.cell (i:=t * 5+1) (by omega)]; exact congrArg some (hf t htl 1 (by decide))
         ·rw [hrow2.cell (i:=t * 5+2) (by omega)]; exact congrArg some (hf t htl 2 (by decide))
         ·rw [hrow2.cell (i:=t * 5+3) (by omega)]; exact congrArg some (hf t htl 3 (by decide))
         ·rw [hrow2.cell (i:=t * 5+4) (by omega)]; exact congrArg some (hf t htl 4 (by decide))
        have hcv:=fun w=>tlbCov_any (eAt eTlb M.tlb t) page P0 (by omega) (HENT.out t htl).1.s w
        have L1:(0:Int)<=(t:Int):=by omega
        have L2:(t:Int) < (M.tlb.length:Int):=by omega
        have HROW:Hid (ERow eTlb wr w1.heap.size (.slice (some ⟨gv,0,none⟩) (covTo M page t).length cv) (covTo M page t)):=hrow
        have HB:Hid (Below w1.heap.size w1 wr):=hb
        obtain ⟨k9,k0,k1,k2,k3,k4⟩:=HCE.out wr br
        have HEC:Hid (eTlb.enc (eAt eTlb M.tlb t)=[.int .i64 (eAt eTlb M.tlb t).page,.int .i64 (eAt eTlb M.tlb t).size,.int .i64 (eAt eTlb M.tlb t).out,.int .i64 (eAt eTlb M.tlb t).perm,.bool (eAt eTlb M.tlb t).doom]):=rfl
        clear hrow hb bW hae haf hr1 hf hN hga hag q0 q1 q2 q3
        cases hc:tlbCov (eAt eTlb M.tlb t) page
        ·rw [hc] at hcv
         have HKT:Hid _:=covTo_no hc
         clear hc
         generalize eAt eTlb M.tlb t=e at *
         go_wp2_with fail
         refine (hcv _).mono ?_
         rintro r w2 ⟨rfl,hb2⟩
         have HB2:Hid (Below w1.heap.size w1 w2):=HB.out.trans (hb2.mono HB.out.size)
         have HR2:Hid (ERow eTlb w2 w1.heap.size (.slice (some ⟨gv,0,none⟩) (covTo M page t).length cv) (covTo M page t)):=HROW.out.below hb2
         clear hb2 hcv k9 k0 k1 k2 k3 k4
         go_wp2_with fail
         go_roundw
         case rel =>
          refine ⟨t+1,gv,cv,by omega,by go_num,?_,?_,HB2.out⟩
          ·rw [HKT.out]
          ·rw [HKT.out]; exact HR2.out
         case measure=>simp [intOf]; omega
        ·rw [hc] at hcv
         have HKT:Hid _:=covTo_yes hc
         clear hc
         generalize eAt eTlb M.tlb t=e at *
         go_wp2_with fail
         refine (hcv _).mono ?_
         rintro r w2 ⟨rfl,hb2⟩
         have hs2:=hb2.size
         have HB2:Hid (Below w1.heap.size w1 w2):=HB.out.trans (hb2.mono HB.out.size)
         have HR2:Hid (ERow eTlb w2 w1.heap.size (.slice (some ⟨gv,0,none⟩) (covTo M page t).length cv) (covTo M page t)):=HROW.out.below hb2
         obtain ⟨j9,j0,j1,j2,j3,j4⟩:=HCE.out w2 hb2
         have HOWN:Hid (w2.ownsRow w1.heap.size 81 5 (.slice (some ⟨gv,0,none⟩) (covTo M page t).length cv) (covTo M page t).length (ecells eTlb (covTo M page t))):=HR2.out
         obtain ⟨A,hA⟩:∃ v,v=e.page:=⟨_,rfl⟩
         obtain ⟨B,hB⟩:∃ v,v=e.size:=⟨_,rfl⟩
         obtain ⟨C,hC⟩:∃ v,v=e.out:=⟨_,rfl⟩
         obtain ⟨D,hD⟩:∃ v,v=e.perm:=⟨_,rfl⟩
         obtain ⟨G,hG⟩:∃ v,v=e.doom:=⟨_,rfl⟩
         rw [<- hA] at j0
         rw [<- hB] at j1
         rw [<- hC] at j2
         rw [<- hD] at j3
         rw [<- hG] at j4
         have HVS:Hid (A=e.page/\B=e.size/\C=e.out/\D=e.perm/\G=e.doom):=⟨hA,hB,hC,hD,hG⟩
         obtain ⟨ys,hys⟩:∃ ys,ys=covTo M page t:=⟨_,rfl⟩
         rw [<- hys] at hKL HOWN HR2 HKT ⊢
         have hgl2:g < w2.heap.size:=by omega
         clear hb2 hcv k9 k0 k1 k2 k3 k4 hA hB hC hD hG hys
         go_wp2_with (at_builtin; refine wpList_append_lies _ rfl (.tmp 57) (.tmp 63) 33 rfl (w1.heap.size) 81 iT _ 5 40 Tryz.underlying33 hiT hzT0 hzT1 hzT2 rfl (by omega) _ _ _ rfl (World.ownsRow.alloc HOWN.out _) ⟨w2.heap.size,0,none⟩ 1 1 [.int .i64 A,.int .i64 B,.int .i64 C,.int .i64 D,.bool G] rfl rfl ?c1 ?c2 (by omega) ?c3 ?c4 ?c5 (w2.heap.size+1) ?c6 ?_)
         case c1=>exact World.news_of_block (heap_alloc_new w2 (.cells #[.int .i64 A,.int .i64 B,.int .i64 C,.int .i64 D,.bool G] 81))
         case c2=>intro u hu; simp at hu; rcases hu with rfl | rfl | rfl | rfl | rfl <;> rfl
         case c3=>unfold maxLen; omega
         case c4=>omega
         case c5=>simp; omega
         case c6=>simp
         intro g1 cap1 wn hown hgrow hat hlt3
         have hnew:ERow eTlb wn w1.heap.size (.slice (some ⟨g1,0,none⟩) (ys.length+1) cap1) (ys ++ [e]):=ERow.snocL (m:=ys.length+1) rfl (by
          obtain ⟨e1,e2,e3,e4,e5⟩:=HVS.out
          rw [HEC.out,<- e1,<- e2,<- e3,<- e4,<- e5]; exact hown)
         have hbn:Below w1.heap.size w1 wn:=((HB2.out.alloc (by omega) _).grown hgrow (by simp; omega) (fun q hq=>(HR2.out.own q hq).1))
         have HNEW:Hid (ERow _ wn _ _ _):=hnew
         have HBN:Hid (Below w1.heap.size w1 wn):=hbn
         clear hown hgrow hat hnew hbn j9 j0 j1 j2 j3 j4
         go_wp2_with fail
         go_roundw
         case rel =>
          refine ⟨t+1,g1,cap1,by omega,by go_num,?_,?_,HBN.out⟩
          ·rw [HKT.out,List.length_append]; rfl
          ·rw [HKT.out,List.length_append]; exact HNEW.out
         case measure=>simp [intOf]; omega
       ·have e:t=M.tlb.length:=by omega
        subst e
        have LF:¬ (M.tlb.length:Int) < (M.tlb.length:Int):=by omega
        obtain ⟨wC,rfl⟩:∃ wC:World,wC=wr:=⟨_,rfl⟩
        obtain ⟨gC,rfl⟩:∃ gC:Nat,gC=gv:=⟨_,rfl⟩
        obtain ⟨cC,rfl⟩:∃ cC:Nat,cC=cv:=⟨_,rfl⟩
        have BC:Hid (Below wb.heap.size wb wC):=bW
        have hcs:=HCOV.out
        obtain ⟨cs,hcse⟩:∃ cs,cs=covTo M page M.tlb.length:=⟨_,rfl⟩
        rw [<- hcse] at hrow hKL hcs ⊢
        have HCS:Hid (CovAll M page cs):=hcs
        have HRC:Hid (ERow eTlb wC w1.heap.size (.slice (some ⟨gC,0,none⟩) cs.length cC) cs):=hrow
        have HBC1:Hid (Below w1.heap.size w1 wC):=hb
        clear hcse hcs hrow hb bW htl
        cases hb7:bitI choice 7
        ·rw [hb7] at hcb
         have HNV:Hid _:=HN.out (by rw [HUT.out,hb7]; rfl)
         clear hb7
         go_upto_region 11 with fail
         go_wp2_with (go_at_call 38; refine (hcb _).mono ?_; rintro e wE ⟨rfl,hwE⟩; obtain rfl:=hwE.symm)
         refine (HCP.out wC BC.out).mono ?_
         rintro e w3 ⟨s1,rfl,hr3,_,hb3⟩
         have hl:=HL.out s1 wC.heap.size w3 hb3.size hr3
         have HB3:Hid (Below wb.heap.size wb w3):=BC.out.trans (hb3.mono BC.out.size)
         clear hr3 hb3 q0 q1 q2 q3
         go_wp2_with fail
         refine hl.mono ?_
         rintro e w4 ⟨s2,rfl,hr4,how4,hb4⟩
         have b4:Below wb.heap.size wb w4:=HB3.out.trans (hb4.mono HB3.out.size)
         obtain ⟨wH,hwH⟩:∃ wH,wH=(w4.alloc (.cells #[.slice s2.a1 R.1.mem.length s2.c1,.slice s2.a2 R.1.pend.length s2.c2,.slice s2.a3 R.1.tlb.length s2.c3,.slice s2.a4 R.1.wc.length s2.c4] 36)).alloc (.cells #[.int .i64 R.2.kind,.int .i64 R.2.out,.int .i64 R.2.perm,.int .i64 R.2.size] 87):=⟨_,rfl⟩
         have hzH:wH.heap.size=w4.heap.size+2:=by rw [hwH]; simp
         have b4H:Below w4.heap.size w4 wH:=by rw [hwH]; exact bal.alloc (by simp) _
         have bH:Below wb.heap.size wb wH:=b4.trans (b4H.mono b4.size)
         have rH:MRow wH wC.heap.size (s2.mv R.1) R.1:=hr4.below b4H
         have HSH:Hid (∀ wX,Below wH.heap.size wH wX->(wX.cell? ⟨w4.heap.size,0,none⟩=some (.slice s2.a1 R.1.mem.length s2.c1)/\wX.cell? ⟨w4.heap.size,1,none⟩=some (.slice s2.a2 R.1.pend.length s2.c2)/\wX.cell? ⟨w4.heap.size,2,none⟩=some (.slice s2.a3 R.1.tlb.length s2.c3)/\wX.cell? ⟨w4.heap.size,3,none⟩=some (.slice s2.a4 R.1.wc.length s2.c4))/\wX.cell? ⟨w4.heap.size+1,0,none⟩=some (.int .i64 R.2.kind)/\wX.cell? ⟨w4.heap.size+1,1,none⟩=some (.int .i64 R.2.out)/\wX.cell? ⟨w4.heap.size+1,2,none⟩=some (.int .i64 R.2.perm)/\wX.cell? ⟨w4.heap.size+1,3,none⟩=some (.int .i64 R.2.size)):=fun wX hX=>by
          refine ⟨⟨?_,?_,?_,?_⟩,?_,?_,?_,?_⟩
          iterate 8 (exact (hX.cell (by simp; omega)).trans (by rw [hwH]; simp [go_sem]))
         obtain ⟨⟨y0,y1,y2,y3⟩,y4,y5,y6,y7⟩:=HSH.out wH br
         have HWH:Hid (wH=_):=hwH
         have HZH:Hid (wH.heap.size=w4.heap.size+2):=hzH
         have HBH:Hid (Below wb.heap.size wb wH):=bH
         have HRH:Hid (MRow wH wC.heap.size (s2.mv R.1) R.1):=rH
         have HB4:Hid (w.heap.size+3<=w4.heap.size):=by have:=b4.size; have:=HZ.out; show w.heap.size+3<=w4.heap.size; omega
         clear hr4 how4 hb4 b4 hl hwH hzH b4H bH rH
         by_cases hk1:R.2.kind=1
         ·have k1:(R.2.kind != 1)=false:=by simp [hk1]
          have hlk:=fun wX=>look_any page need R.2.out R.2.perm HRP.out.1 HRP.out.2 hnd wX
          have hSe:seenH page need R.2=lookS page need R.2.out R.2.perm:=by unfold seenH; rw [if_pos hk1]
          obtain ⟨SX,hSX⟩:∃ SX,SX=lookS page need R.2.out R.2.perm:=⟨_,rfl⟩
          rw [<- hSX] at hlk
          have HSE:Hid (seenH page need R.2=SX):=hSe.trans hSX.symm
          unfold seenV at hlk
          clear hk1 hSe hSX
          go_upto_region 21 with fail
          rw [<- HWH.out]
          clear y0 y1 y2 y3 y4 y5 y6 y7
          refine wp_region_held_drew (S:=fun wX=>(wX.cell? ⟨w4.heap.size,0,none⟩=some (.slice s2.a1 R.1.mem.length s2.c1)/\wX.cell? ⟨w4.heap.size,1,none⟩=some (.slice s2.a2 R.1.pend.length s2.c2)/\wX.cell? ⟨w4.heap.size,2,none⟩=some (.slice s2.a3 R.1.tlb.length s2.c3)/\wX.cell? ⟨w4.heap.size,3,none⟩=some (.slice s2.a4 R.1.wc.length s2.c4))/\wX.cell? ⟨w4.heap.size+1,0,none⟩=some (.int .i64 R.2.kind)/\wX.cell? ⟨w4.heap.size+1,1,none⟩=some (.int .i64 R.2.out)/\wX.cell? ⟨w4.heap.size+1,2,none⟩=some (.int .i64 R.2.perm)/\wX.cell? ⟨w4.heap.size+1,3,none⟩=some (.int .i64 R.2.size)) (by kernel_rfl) (HSH.out _ br.drew) (fun hHeld=>?_)
          refine tk 0 ?_
          refine tk 1 ?_
          refine tk 2 ?_
          refine tk 3 ?_
          refine tk 4 ?_
          refine tk 5 ?_
          refine tk 6 ?_
          refine wpAnyH_ready (rs:=[7]) (by kernel_rfl) (by simp) ?_
          refine AllReadyH.cons rfl (fun K hK=>?_) AllReadyH.nil
          go_simp
          refine (hlk _).mono ?_; rintro r w5 ⟨rfl,hb5⟩
          go_wp2_with fail
          refine hK.out _ _ (HSH.out _ (br.drew.trans (hb5.mono (by simp)))) (fun hHeld2=>?_)
          clear hK K
          have bH5:Below wH.heap.size wH w5:=br.drew.trans (hb5.mono (by simp))
          have b5:Below wb.heap.size wb w5:=HBH.out.trans (bH5.mono HBH.out.size)
          obtain ⟨⟨q0,q1,q2,q3⟩,⟨r0,r1,r2,r3⟩,⟨z0,z1,z2,z3⟩,⟨p0,p1,p2,p3⟩,⟨x0,x1,x2,x3⟩,N1⟩:=HBOX.out w5 b5
          have HSF:Hid (∀ wX,Touch (fun k=>k=w.heap.size+1\/k=w.heap.size+1+1) w5 wX->(wX.cell? ⟨w4.heap.size,0,none⟩=some (.slice s2.a1 R.1.mem.length s2.c1)/\wX.cell? ⟨w4.heap.size,1,none⟩=some (.slice s2.a2 R.1.pend.length s2.c2)/\wX.cell? ⟨w4.heap.size,2,none⟩=some (.slice s2.a3 R.1.tlb.length s2.c3)/\wX.cell? ⟨w4.heap.size,3,none⟩=some (.slice s2.a4 R.1.wc.length s2.c4))/\wX.cell? ⟨w4.heap.size+1,0,none⟩=some (.int .i64 R.2.kind)/\wX.cell? ⟨w4.heap.size+1,1,none⟩=some (.int .i64 R.2.out)/\wX.cell? ⟨w4.heap.size+1,2,none⟩=some (.int .i64 R.2.perm)/\wX.cell? ⟨w4.heap.size+1,3,none⟩=some (.int .i64 R.2.size)):=fun wX hX=>by
           obtain ⟨⟨c0,c1,c2,c3⟩,c4,c5,c6,c7⟩:=HSH.out w5 bH5
           have hz4:=HB4.out
           have hz5:=bH5.size
           have hzh:=HZH.out
           have hb1:=hX.block w4.heap.size (by omega) (by omega)
           have hb2:=hX.block (w4.heap.size+1) (by omega) (by omega)
           exact ⟨⟨(cob hb1).trans c0,(cob hb1).trans c1,(cob hb1).trans c2,(cob hb1).trans c3⟩,(cob hb2).trans c4,(cob hb2).trans c5,(cob hb2).trans c6,(cob hb2).trans c7⟩
          have HR5:Hid (MRow w5 wC.heap.size (s2.mv R.1) R.1):=HRH.out.below bH5
          have HB5:Hid (Below wb.heap.size wb w5):=b5
          clear hb5 bH5 b5 q0 q1 q2 q3 hHeld2
          refine wpAnyH_ready (rs:=[8]) (by kernel_rfl) (by simp) ?_
          refine AllReadyH.cons rfl (fun K hK=>?_) AllReadyH.nil
          go_simp
          refine hK.out _ _ (HSF.out _ (Touch.put (Touch.put (Touch.put (Touch.put (Touch.none w5) _ _ (.inl rfl)) _ _ (.inl rfl)) _ _ (.inl rfl)) _ _ (.inl rfl))) (fun hHeld2=>?_)
          clear hK K
          refine wpAnyH_ready (rs:=[9]) (by kernel_rfl) (by simp) ?_
          refine AllReadyH.cons rfl (fun K hK=>?_) AllReadyH.nil
          go_simp
          refine hK.out _ _ (HSF.out _ (Touch.put (Touch.put (Touch.put (Touch.put (Touch.put (Touch.put (Touch.put (Touch.put (Touch.none w5) _ _ (.inl rfl)) _ _ (.inl rfl)) _ _ (.inl rfl)) _ _ (.inl rfl)) _ _ (.inr rfl)) _ _ (.inr rfl)) _ _ (.inr rfl)) _ _ (.inr rfl))) (fun hHeld3=>?_)
          clear hK K
          refine wpAnyH_done (by kernel_rfl) ?_ _
          go_wp2_with fail
          obtain ⟨wF,hwF⟩:∃ wF,wF=((((((((w5.setCell ⟨w.heap.size+1,0,none⟩ (.slice s2.a1 R.1.mem.length s2.c1)).setCell ⟨w.heap.size+1,1,none⟩ (.slice s2.a2 R.1.pend.length s2.c2)).setCell ⟨w.heap.size+1,2,none⟩ (.slice s2.a3 R.1.tlb.length s2.c3)).setCell ⟨w.heap.size+1,3,none⟩ (.slice s2.a4 R.1.wc.length s2.c4)).setCell ⟨w.heap.size+1+1,0,none⟩ (.int .i64 SX.page)).setCell ⟨w.heap.size+1+1,1,none⟩ (.int .i64 SX.need)).setCell ⟨w.heap.size+1+1,2,none⟩ (.int .i64 SX.kind)).setCell ⟨w.heap.size+1+1,3,none⟩ (.int .i64 SX.out)):=⟨_,rfl⟩
          obtain ⟨f0,f1,f2,f3⟩:=put8a hwF r0 r1 r2 r3
          obtain ⟨g0,g1,g2,g3⟩:=put8b hwF p0 p1 p2 p3
          have hTF:Touch (fun k=>k=w.heap.size+1\/k=w.heap.size+1+1) w5 wF:=by
           rw [hwF]
           exact (Touch.put (Touch.put (Touch.put (Touch.put (Touch.put (Touch.put (Touch.put (Touch.put (Touch.none w5) _ _ (.inl rfl)) _ _ (.inl rfl)) _ _ (.inl rfl)) _ _ (.inl rfl)) _ _ (.inr rfl)) _ _ (.inr rfl)) _ _ (.inr rfl)) _ _ (.inr rfl))
          rw [<- hwF]
          obtain ⟨k1,k2⟩:=HPOST.out R.1 s2 _ w5 wF ⟨BC.out.size,HR5.out⟩ HB5.out hTF
          refine bodyPost_ret (v:=.tuple #[.agg #[.slice s2.a1 R.1.mem.length s2.c1,.slice s2.a2 R.1.pend.length s2.c2,.slice s2.a3 R.1.tlb.length s2.c3,.slice s2.a4 R.1.wc.length s2.c4],.agg #[.int .i64 SX.page,.int .i64 SX.need,.int .i64 SX.kind,.int .i64 SX.out]]) (by simp [results,Tryz.results7,go_sem,f0,f1,f2,f3,g0,g1,g2,g3]) rfl ?_
          rw [HNV.out.1,HNV.out.2]
          exact ⟨s2,by rw [HSE.out]; rfl,k1,k2⟩
         ·have k1:(R.2.kind != 1)=true:=by simpa using hk1
          have hSe:seenH page need R.2=⟨page,need,R.2.kind,0⟩:=by unfold seenH; rw [if_neg hk1]
          have HSE:Hid (seenH page need R.2=⟨page,need,R.2.kind,0⟩):=hSe
          clear hk1 hSe
          go_upto_region 20 with fail
          rw [<- HWH.out]
          clear y0 y1 y2 y3 y4 y5 y6 y7
          obtain ⟨⟨q0,q1,q2,q3⟩,⟨r0,r1,r2,r3⟩,⟨z0,z1,z2,z3⟩,⟨p0,p1,p2,p3⟩,⟨x0,x1,x2,x3⟩,N1⟩:=HBOX.out wH HBH.out
          have HSF:Hid (∀ wX,Touch (fun k=>k=w.heap.size+1\/k=w.heap.size+1+1) wH wX->(wX.cell? ⟨w4.heap.size,0,none⟩=some (.slice s2.a1 R.1.mem.length s2.c1)/\wX.cell? ⟨w4.heap.size,1,none⟩=some (.slice s2.a2 R.1.pend.length s2.c2)/\wX.cell? ⟨w4.heap.size,2,none⟩=some (.slice s2.a3 R.1.tlb.length s2.c3)/\wX.cell? ⟨w4.heap.size,3,none⟩=some (.slice s2.a4 R.1.wc.length s2.c4))/\wX.cell? ⟨w4.heap.size+1,0,none⟩=some (.int .i64 R.2.kind)/\wX.cell? ⟨w4.heap.size+1,1,none⟩=some (.int .i64 R.2.out)/\wX.cell? ⟨w4.heap.size+1,2,none⟩=some (.int .i64 R.2.perm)/\wX.cell? ⟨w4.heap.size+1,3,none⟩=some (.int .i64 R.2.size)):=fun wX hX=>by
           obtain ⟨⟨c0,c1,c2,c3⟩,c4,c5,c6,c7⟩:=HSH.out wH br
           have hz4:=HB4.out
           have hzh:=HZH.out
           have hb1:=hX.block w4.heap.size (by omega) (by omega)
           have hb2:=hX.block (w4.heap.size+1) (by omega) (by omega)
           exact ⟨⟨(cob hb1).trans c0,(cob hb1).trans c1,(cob hb1).trans c2,(cob hb1).trans c3⟩,(cob hb2).trans c4,(cob hb2).trans c5,(cob hb2).trans c6,(cob hb2).trans c7⟩
          clear q0 q1 q2 q3
          refine wp_region_held_drew (S:=fun wX=>(wX.cell? ⟨w4.heap.size,0,none⟩=some (.slice s2.a1 R.1.mem.length s2.c1)/\wX.cell? ⟨w4.heap.size,1,none⟩=some (.slice s2.a2 R.1.pend.length s2.c2)/\wX.cell? ⟨w4.heap.size,2,none⟩=some (.slice s2.a3 R.1.tlb.length s2.c3)/\wX.cell? ⟨w4.heap.size,3,none⟩=some (.slice s2.a4 R.1.wc.length s2.c4))/\wX.cell? ⟨w4.heap.size+1,0,none⟩=some (.int .i64 R.2.kind)/\wX.cell? ⟨w4.heap.size+1,1,none⟩=some (.int .i64 R.2.out)/\wX.cell? ⟨w4.heap.size+1,2,none⟩=some (.int .i64 R.2.perm)/\wX.cell? ⟨w4.heap.size+1,3,none⟩=some (.int .i64 R.2.size)) (by kernel_rfl) (HSH.out _ br.drew) (fun hHeld=>?_)
          refine tk 0 ?_
          refine tk 1 ?_
          refine tk 2 ?_
          refine tk 3 ?_
          refine tk 4 ?_
          refine tk 5 ?_
          refine wpAnyH_ready (rs:=[6]) (by kernel_rfl) (by simp) ?_
          refine AllReadyH.cons rfl (fun K hK=>?_) AllReadyH.nil
          go_simp
          refine hK.out _ _ (HSF.out _ (Touch.drewP (Touch.put (Touch.put (Touch.put (Touch.put (Touch.none wH) _ _ (.inl rfl)) _ _ (.inl rfl)) _ _ (.inl rfl)) _ _ (.inl rfl)))) (fun hHeld2=>?_)
          clear hK K
          refine wpAnyH_ready (rs:=[7]) (by kernel_rfl) (by simp) ?_
          refine AllReadyH.cons rfl (fun K hK=>?_) AllReadyH.nil
          go_simp
          refine hK.out _ _ (HSF.out _ (Touch.drewP (Touch.put (Touch.put (Touch.put (Touch.put (Touch.put (Touch.put (Touch.put (Touch.put (Touch.none wH) _ _ (.inl rfl)) _ _ (.inl rfl)) _ _ (.inl rfl)) _ _ (.inl rfl)) _ _ (.inr rfl)) _ _ (.inr rfl)) _ _ (.inr rfl)) _ _ (.inr rfl)))) (fun hHeld3=>?_)
          clear hK K
          refine wpAnyH_done (by kernel_rfl) ?_ _
          go_wp2_with fail
          obtain ⟨wF,hwF⟩:∃ wF,wF=((((((((wH.setCell ⟨w.heap.size+1,0,none⟩ (.slice s2.a1 R.1.mem.length s2.c1)).setCell ⟨w.heap.size+1,1,none⟩ (.slice s2.a2 R.1.pend.length s2.c2)).setCell ⟨w.heap.size+1,2,none⟩ (.slice s2.a3 R.1.tlb.length s2.c3)).setCell ⟨w.heap.size+1,3,none⟩ (.slice s2.a4 R.1.wc.length s2.c4)).setCell ⟨w.heap.size+1+1,0,none⟩ (.int .i64 page)).setCell ⟨w.heap.size+1+1,1,none⟩ (.int .i64 need)).setCell ⟨w.heap.size+1+1,2,none⟩ (.int .i64 R.2.kind)).setCell ⟨w.heap.size+1+1,3,none⟩ (.int .i64 0)).drew:=⟨_,rfl⟩
          have f0:wF.cell? ⟨w.heap.size+1,0,none⟩=some (.slice s2.a1 R.1.mem.length s2.c1):=by rw [hwF]; simp [go_sem,r0]
          have f1:wF.cell? ⟨w.heap.size+1,1,none⟩=some (.slice s2.a2 R.1.pend.length s2.c2):=by rw [hwF]; simp [go_sem,r1]
          have f2:wF.cell? ⟨w.heap.size+1,2,none⟩=some (.slice s2.a3 R.1.tlb.length s2.c3):=by rw [hwF]; simp [go_sem,r2]
          have f3:wF.cell? ⟨w.heap.size+1,3,none⟩=some (.slice s2.a4 R.1.wc.length s2.c4):=by rw [hwF]; simp [go_sem,r3]
          have g0:wF.cell? ⟨w.heap.size+1+1,0,none⟩=some (.int .i64 page):=by rw [hwF]; simp [go_sem,p0]
          have g1:wF.cell? ⟨w.heap.size+1+1,1,none⟩=some (.int .i64 need):=by rw [hwF]; simp [go_sem,p1]
          have g2:wF.cell? ⟨w.heap.size+1+1,2,none⟩=some (.int .i64 R.2.kind):=by rw [hwF]; simp [go_sem,p2]
          have g3:wF.cell? ⟨w.heap.size+1+1,3,none⟩=some (.int .i64 0):=by rw [hwF]; simp [go_sem,p3]
          have hTF:Touch (fun k=>k=w.heap.size+1\/k=w.heap.size+1+1) wH wF:=by
           rw [hwF]
           exact (Touch.drewP (Touch.put (Touch.put (Touch.put (Touch.put (Touch.put (Touch.put (Touch.put (Touch.put (Touch.none wH) _ _ (.inl rfl)) _ _ (.inl rfl)) _ _ (.inl rfl)) _ _ (.inl rfl)) _ _ (.inr rfl)) _ _ (.inr rfl)) _ _ (.inr rfl)) _ _ (.inr rfl)))
          rw [<- hwF]
          obtain ⟨k1,k2⟩:=HPOST.out R.1 s2 _ wH wF ⟨BC.out.size,HRH.out⟩ HBH.out hTF
          refine bodyPost_ret (v:=.tuple #[.agg #[.slice s2.a1 R.1.mem.length s2.c1,.slice s2.a2 R.1.pend.length s2.c2,.slice s2.a3 R.1.tlb.length s2.c3,.slice s2.a4 R.1.wc.length s2.c4],.agg #[.int .i64 page,.int .i64 need,.int .i64 R.2.kind,.int .i64 0]]) (by simp [results,Tryz.results7,go_sem,f0,f1,f2,f3,g0,g1,g2,g3]) rfl ?_
          rw [HNV.out.1,HNV.out.2]
          exact ⟨s2,by rw [HSE.out]; rfl,k1,k2⟩
        ·rw [hb7] at hcb
         by_cases hl0:cs.length=0
         ·have HNV:Hid _:=HN.out (by rw [HUT.out,hb7,decide_eq_false (HCS.out.nil hl0)]; rfl)
          rw [hl0]
          clear hb7 hl0
          go_upto_region 11 with fail
          go_wp2_with (go_at_call 38; refine (hcb _).mono ?_; rintro e wE ⟨rfl,hwE⟩; obtain rfl:=hwE.symm)
          refine (HCP.out wC BC.out).mono ?_
          rintro e w3 ⟨s1,rfl,hr3,_,hb3⟩
          have hl:=HL.out s1 wC.heap.size w3 hb3.size hr3
          have HB3:Hid (Below wb.heap.size wb w3):=BC.out.trans (hb3.mono BC.out.size)
          clear hr3 hb3 q0 q1 q2 q3
          go_wp2_with fail
          refine hl.mono ?_
          rintro e w4 ⟨s2,rfl,hr4,how4,hb4⟩
          have b4:Below wb.heap.size wb w4:=HB3.out.trans (hb4.mono HB3.out.size)
          obtain ⟨wH,hwH⟩:∃ wH,wH=(w4.alloc (.cells #[.slice s2.a1 R.1.mem.length s2.c1,.slice s2.a2 R.1.pend.length s2.c2,.slice s2.a3 R.1.tlb.length s2.c3,.slice s2.a4 R.1.wc.length s2.c4] 36)).alloc (.cells #[.int .i64 R.2.kind,.int .i64 R.2.out,.int .i64 R.2.perm,.int .i64 R.2.size] 87):=⟨_,rfl⟩
          have hzH:wH.heap.size=w4.heap.size+2:=by rw [hwH]; simp
          have b4H:Below w4.heap.size w4 wH:=by rw [hwH]; exact bal.alloc (by simp) _
          have bH:Below wb.heap.size wb wH:=b4.trans (b4H.mono b4.size)
          have rH:MRow wH wC.heap.size (s2.mv R.1) R.1:=hr4.below b4H
          have HSH:Hid (∀ wX,Below wH.heap.size wH wX->(wX.cell? ⟨w4.heap.size,0,none⟩=some (.slice s2.a1 R.1.mem.length s2.c1)/\wX.cell? ⟨w4.heap.size,1,none⟩=some (.slice s2.a2 R.1.pend.length s2.c2)/\wX.cell? ⟨w4.heap.size,2,none⟩=some (.slice s2.a3 R.1.tlb.length s2.c3)/\wX.cell? ⟨w4.heap.size,3,none⟩=some (.slice s2.a4 R.1.wc.length s2.c4))/\wX.cell? ⟨w4.heap.size+1,0,none⟩=some (.int .i64 R.2.kind)/\wX.cell? ⟨w4.heap.size+1,1,none⟩=some (.int .i64 R.2.out)/\wX.cell? ⟨w4.heap.size+1,2,none⟩=some (.int .i64 R.2.perm)/\wX.cell? ⟨w4.heap.size+1,3,none⟩=some (.int .i64 R.2.size)):=fun wX hX=>by
           refine ⟨⟨?_,?_,?_,?_⟩,?_,?_,?_,?_⟩
           iterate 8 (exact (hX.cell (by simp; omega)).trans (by rw [hwH]; simp [go_sem]))
          obtain ⟨⟨y0,y1,y2,y3⟩,y4,y5,y6,y7⟩:=HSH.out wH br
          have HWH:Hid (wH=_):=hwH
          have HZH:Hid (wH.heap.size=w4.heap.size+2):=hzH
          have HBH:Hid (Below wb.heap.size wb wH):=bH
          have HRH:Hid (MRow wH wC.heap.size (s2.mv R.1) R.1):=rH
          have HB4:Hid (w.heap.size+3<=w4.heap.size):=by have:=b4.size; have:=HZ.out; show w.heap.size+3<=w4.heap.size; omega
          clear hr4 how4 hb4 b4 hl hwH hzH b4H bH rH
          by_cases hk1:R.2.kind=1
          ·have k1:(R.2.kind != 1)=false:=by simp [hk1]
           have hlk:=fun wX=>look_any page need R.2.out R.2.perm HRP.out.1 HRP.out.2 hnd wX
           have hSe:seenH page need R.2=lookS page need R.2.out R.2.perm:=by unfold seenH; rw [if_pos hk1]
           obtain ⟨SX,hSX⟩:∃ SX,SX=lookS page need R.2.out R.2.perm:=⟨_,rfl⟩
           rw [<- hSX] at hlk
           have HSE:Hid (seenH page need R.2=SX):=hSe.trans hSX.symm
           unfold seenV at hlk
           clear hk1 hSe hSX
           go_upto_region 21 with fail
           rw [<- HWH.out]
           clear y0 y1 y2 y3 y4 y5 y6 y7
           refine wp_region_held_drew (S:=fun wX=>(wX.cell? ⟨w4.heap.size,0,none⟩=some (.slice s2.a1 R.1.mem.length s2.c1)/\wX.cell? ⟨w4.heap.size,1,none⟩=some (.slice s2.a2 R.1.pend.length s2.c2)/\wX.cell? ⟨w4.heap.size,2,none⟩=some (.slice s2.a3 R.1.tlb.length s2.c3)/\wX.cell? ⟨w4.heap.size,3,none⟩=some (.slice s2.a4 R.1.wc.length s2.c4))/\wX.cell? ⟨w4.heap.size+1,0,none⟩=some (.int .i64 R.2.kind)/\wX.cell? ⟨w4.heap.size+1,1,none⟩=some (.int .i64 R.2.out)/\wX.cell? ⟨w4.heap.size+1,2,none⟩=some (.int .i64 R.2.perm)/\wX.cell? ⟨w4.heap.size+1,3,none⟩=some (.int .i64 R.2.size)) (by kernel_rfl) (HSH.out _ br.drew) (fun hHeld=>?_)
           refine tk 0 ?_
           refine tk 1 ?_
           refine tk 2 ?_
           refine tk 3 ?_
           refine tk 4 ?_
           refine tk 5 ?_
           refine tk 6 ?_
           refine wpAnyH_ready (rs:=[7]) (by kernel_rfl) (by simp) ?_
           refine AllReadyH.cons rfl (fun K hK=>?_) AllReadyH.nil
           go_simp
           refine (hlk _).mono ?_; rintro r w5 ⟨rfl,hb5⟩
           go_wp2_with fail
           refine hK.out _ _ (HSH.out _ (br.drew.trans (hb5.mono (by simp)))) (fun hHeld2=>?_)
           clear hK K
           have bH5:Below wH.heap.size wH w5:=br.drew.trans (hb5.mono (by simp))
           have b5:Below wb.heap.size wb w5:=HBH.out.trans (bH5.mono HBH.out.size)
           obtain ⟨⟨q0,q1,q2,q3⟩,⟨r0,r1,r2,r3⟩,⟨z0,z1,z2,z3⟩,⟨p0,p1,p2,p3⟩,⟨x0,x1,x2,x3⟩,N1⟩:=HBOX.out w5 b5
           have HSF:Hid (∀ wX,Touch (fun k=>k=w.heap.size+1\/k=w.heap.size+1+1) w5 wX->(wX.cell? ⟨w4.heap.size,0,none⟩=some (.slice s2.a1 R.1.mem.length s2.c1)/\wX.cell? ⟨w4.heap.size,1,none⟩=some (.slice s2.a2 R.1.pend.length s2.c2)/\wX.cell? ⟨w4.heap.size,2,none⟩=some (.slice s2.a3 R.1.tlb.length s2.c3)/\wX.cell? ⟨w4.heap.size,3,none⟩=some (.slice s2.a4 R.1.wc.length s2.c4))/\wX.cell? ⟨w4.heap.size+1,0,none⟩=some (.int .i64 R.2.kind)/\wX.cell? ⟨w4.heap.size+1,1,none⟩=some (.int .i64 R.2.out)/\wX.cell? ⟨w4.heap.size+1,2,none⟩=some (.int .i64 R.2.perm)/\wX.cell? ⟨w4.heap.size+1,3,none⟩=some (.int .i64 R.2.size)):=fun wX hX=>by
            obtain ⟨⟨c0,c1,c2,c3⟩,c4,c5,c6,c7⟩:=HSH.out w5 bH5
            have hz4:=HB4.out
            have hz5:=bH5.size
            have hzh:=HZH.out
            have hb1:=hX.block w4.heap.size (by omega) (by omega)
            have hb2:=hX.block (w4.heap.size+1) (by omega) (by omega)
            exact ⟨⟨(cob hb1).trans c0,(cob hb1).trans c1,(cob hb1).trans c2,(cob hb1).trans c3⟩,(cob hb2).trans c4,(cob hb2).trans c5,(cob hb2).trans c6,(cob hb2).trans c7⟩
           have HR5:Hid (MRow w5 wC.heap.size (s2.mv R.1) R.1):=HRH.out.below bH5
           have HB5:Hid (Below wb.heap.size wb w5):=b5
           clear hb5 bH5 b5 q0 q1 q2 q3 hHeld2
           refine wpAnyH_ready (rs:=[8]) (by kernel_rfl) (by simp) ?_
           refine AllReadyH.cons rfl (fun K hK=>?_) AllReadyH.nil
           go_simp
           refine hK.out _ _ (HSF.out _ (Touch.put (Touch.put (Touch.put (Touch.put (Touch.none w5) _ _ (.inl rfl)) _ _ (.inl rfl)) _ _ (.inl rfl)) _ _ (.inl rfl))) (fun hHeld2=>?_)
           clear hK K
           refine wpAnyH_ready (rs:=[9]) (by kernel_rfl) (by simp) ?_
           refine AllReadyH.cons rfl (fun K hK=>?_) AllReadyH.nil
           go_simp
           refine hK.out _ _ (HSF.out _ (Touch.put (Touch.put (Touch.put (Touch.put (Touch.put (Touch.put (Touch.put (Touch.put (Touch.none w5) _ _ (.inl rfl)) _ _ (.inl rfl)) _ _ (.inl rfl)) _ _ (.inl rfl)) _ _ (.inr rfl)) _ _ (.inr rfl)) _ _ (.inr rfl)) _ _ (.inr rfl))) (fun hHeld3=>?_)
           clear hK K
           refine wpAnyH_done (by kernel_rfl) ?_ _
           go_wp2_with fail
           obtain ⟨wF,hwF⟩:∃ wF,wF=((((((((w5.setCell ⟨w.heap.size+1,0,none⟩ (.slice s2.a1 R.1.mem.length s2.c1)).setCell ⟨w.heap.size+1,1,none⟩ (.slice s2.a2 R.1.pend.length s2.c2)).setCell ⟨w.heap.size+1,2,none⟩ (.slice s2.a3 R.1.tlb.length s2.c3)).setCell ⟨w.heap.size+1,3,none⟩ (.slice s2.a4 R.1.wc.length s2.c4)).setCell ⟨w.heap.size+1+1,0,none⟩ (.int .i64 SX.page)).setCell ⟨w.heap.size+1+1,1,none⟩ (.int .i64 SX.need)).setCell ⟨w.heap.size+1+1,2,none⟩ (.int .i64 SX.kind)).setCell ⟨w.heap.size+1+1,3,none⟩ (.int .i64 SX.out)):=⟨_,rfl⟩
           obtain ⟨f0,f1,f2,f3⟩:=put8a hwF r0 r1 r2 r3
           obtain ⟨g0,g1,g2,g3⟩:=put8b hwF p0 p1 p2 p3
           have hTF:Touch (fun k=>k=w.heap.size+1\/k=w.heap.size+1+1) w5 wF:=by
            rw [hwF]
            exact (Touch.put (Touch.put (Touch.put (Touch.put (Touch.put (Touch.put (Touch.put (Touch.put (Touch.none w5) _ _ (.inl rfl)) _ _ (.inl rfl)) _ _ (.inl rfl)) _ _ (.inl rfl)) _ _ (.inr rfl)) _ _ (.inr rfl)) _ _ (.inr rfl)) _ _ (.inr rfl))
           rw [<- hwF]
           obtain ⟨k1,k2⟩:=HPOST.out R.1 s2 _ w5 wF ⟨BC.out.size,HR5.out⟩ HB5.out hTF
           refine bodyPost_ret (v:=.tuple #[.agg #[.slice s2.a1 R.1.mem.length s2.c1,.slice s2.a2 R.1.pend.length s2.c2,.slice s2.a3 R.1.tlb.length s2.c3,.slice s2.a4 R.1.wc.length s2.c4],.agg #[.int .i64 SX.page,.int .i64 SX.need,.int .i64 SX.kind,.int .i64 SX.out]]) (by simp [results,Tryz.results7,go_sem,f0,f1,f2,f3,g0,g1,g2,g3]) rfl ?_
           rw [HNV.out.1,HNV.out.2]
           exact ⟨s2,by rw [HSE.out]; rfl,k1,k2⟩
          ·have k1:(R.2.kind != 1)=true:=by simpa using hk1
           have hSe:seenH page need R.2=⟨page,need,R.2.kind,0⟩:=by unfold seenH; rw [if_neg hk1]
           have HSE:Hid (seenH page need R.2=⟨page,need,R.2.kind,0⟩):=hSe
           clear hk1 hSe
           go_upto_region 20 with fail
           rw [<- HWH.out]
           clear y0 y1 y2 y3 y4 y5 y6 y7
           obtain ⟨⟨q0,q1,q2,q3⟩,⟨r0,r1,r2,r3⟩,⟨z0,z1,z2,z3⟩,⟨p0,p1,p2,p3⟩,⟨x0,x1,x2,x3⟩,N1⟩:=HBOX.out wH HBH.out
           have HSF:Hid (∀ wX,Touch (fun k=>k=w.heap.size+1\/k=w.heap.size+1+1) wH wX->(wX.cell? ⟨w4.heap.size,0,none⟩=some (.slice s2.a1 R.1.mem.length s2.c1)/\wX.cell? ⟨w4.heap.size,1,none⟩=some (.slice s2.a2 R.1.pend.length s2.c2)/\wX.cell? ⟨w4.heap.size,2,none⟩=some (.slice s2.a3 R.1.tlb.length s2.c3)/\wX.cell? ⟨w4.heap.size,3,none⟩=some (.slice s2.a4 R.1.wc.length s2.c4))/\wX.cell? ⟨w4.heap.size+1,0,none⟩=some (.int .i64 R.2.kind)/\wX.cell? ⟨w4.heap.size+1,1,none⟩=some (.int .i64 R.2.out)/\wX.cell? ⟨w4.heap.size+1,2,none⟩=some (.int .i64 R.2.perm)/\wX.cell? ⟨w4.heap.size+1,3,none⟩=some (.int .i64 R.2.size)):=fun wX hX=>by
            obtain ⟨⟨c0,c1,c2,c3⟩,c4,c5,c6,c7⟩:=HSH.out wH br
            have hz4:=HB4.out
            have hzh:=HZH.out
            have hb1:=hX.block w4.heap.size (by omega) (by omega)
            have hb2:=hX.block (w4.heap.size+1) (by omega) (by omega)
            exact ⟨⟨(cob hb1).trans c0,(cob hb1).trans c1,(cob hb1).trans c2,(cob hb1).trans c3⟩,(cob hb2).trans c4,(cob hb2).trans c5,(cob hb2).trans c6,(cob hb2).trans c7⟩
           clear q0 q1 q2 q3
           refine wp_region_held_drew (S:=fun wX=>(wX.cell? ⟨w4.heap.size,0,none⟩=some (.slice s2.a1 R.1.mem.length s2.c1)/\wX.cell? ⟨w4.heap.size,1,none⟩=some (.slice s2.a2 R.1.pend.length s2.c2)/\wX.cell? ⟨w4.heap.size,2,none⟩=some (.slice s2.a3 R.1.tlb.length s2.c3)/\wX.cell? ⟨w4.heap.size,3,none⟩=some (.slice s2.a4 R.1.wc.length s2.c4))/\wX.cell? ⟨w4.heap.size+1,0,none⟩=some (.int .i64 R.2.kind)/\wX.cell? ⟨w4.heap.size+1,1,none⟩=some (.int .i64 R.2.out)/\wX.cell? ⟨w4.heap.size+1,2,none⟩=some (.int .i64 R.2.perm)/\wX.cell? ⟨w4.heap.size+1,3,none⟩=some (.int .i64 R.2.size)) (by kernel_rfl) (HSH.out _ br.drew) (fun hHeld=>?_)
           refine tk 0 ?_
           refine tk 1 ?_
           refine tk 2 ?_
           refine tk 3 ?_
           refine tk 4 ?_
           refine tk 5 ?_
           refine wpAnyH_ready (rs:=[6]) (by kernel_rfl) (by simp) ?_
           refine AllReadyH.cons rfl (fun K hK=>?_) AllReadyH.nil
           go_simp
           refine hK.out _ _ (HSF.out _ (Touch.drewP (Touch.put (Touch.put (Touch.put (Touch.put (Touch.none wH) _ _ (.inl rfl)) _ _ (.inl rfl)) _ _ (.inl rfl)) _ _ (.inl rfl)))) (fun hHeld2=>?_)
           clear hK K
           refine wpAnyH_ready (rs:=[7]) (by kernel_rfl) (by simp) ?_
           refine AllReadyH.cons rfl (fun K hK=>?_) AllReadyH.nil
           go_simp
           refine hK.out _ _ (HSF.out _ (Touch.drewP (Touch.put (Touch.put (Touch.put (Touch.put (Touch.put (Touch.put (Touch.put (Touch.put (Touch.none wH) _ _ (.inl rfl)) _ _ (.inl rfl)) _ _ (.inl rfl)) _ _ (.inl rfl)) _ _ (.inr rfl)) _ _ (.inr rfl)) _ _ (.inr rfl)) _ _ (.inr rfl)))) (fun hHeld3=>?_)
           clear hK K
           refine wpAnyH_done (by kernel_rfl) ?_ _
           go_wp2_with fail
           obtain ⟨wF,hwF⟩:∃ wF,wF=((((((((wH.setCell ⟨w.heap.size+1,0,none⟩ (.slice s2.a1 R.1.mem.length s2.c1)).setCell ⟨w.heap.size+1,1,none⟩ (.slice s2.a2 R.1.pend.length s2.c2)).setCell ⟨w.heap.size+1,2,none⟩ (.slice s2.a3 R.1.tlb.length s2.c3)).setCell ⟨w.heap.size+1,3,none⟩ (.slice s2.a4 R.1.wc.length s2.c4)).setCell ⟨w.heap.size+1+1,0,none⟩ (.int .i64 page)).setCell ⟨w.heap.size+1+1,1,none⟩ (.int .i64 need)).setCell ⟨w.heap.size+1+1,2,none⟩ (.int .i64 R.2.kind)).setCell ⟨w.heap.size+1+1,3,none⟩ (.int .i64 0)).drew:=⟨_,rfl⟩
           have f0:wF.cell? ⟨w.heap.size+1,0,none⟩=some (.slice s2.a1 R.1.mem.length s2.c1):=by rw [hwF]; simp [go_sem,r0]
           have f1:wF.cell? ⟨w.heap.size+1,1,none⟩=some (.slice s2.a2 R.1.pend.length s2.c2):=by rw [hwF]; simp [go_sem,r1]
           have f2:wF.cell? ⟨w.heap.size+1,2,none⟩=some (.slice s2.a3 R.1.tlb.length s2.c3):=by rw [hwF]; simp [go_sem,r2]
           have f3:wF.cell? ⟨w.heap.size+1,3,none⟩=some (.slice s2.a4 R.1.wc.length s2.c4):=by rw [hwF]; simp [go_sem,r3]
           have g0:wF.cell? ⟨w.heap.size+1+1,0,none⟩=some (.int .i64 page):=by rw [hwF]; simp [go_sem,p0]
           have g1:wF.cell? ⟨w.heap.size+1+1,1,none⟩=some (.int .i64 need):=by rw [hwF]; simp [go_sem,p1]
           have g2:wF.cell? ⟨w.heap.size+1+1,2,none⟩=some (.int .i64 R.2.kind):=by rw [hwF]; simp [go_sem,p2]
           have g3:wF.cell? ⟨w.heap.size+1+1,3,none⟩=some (.int .i64 0):=by rw [hwF]; simp [go_sem,p3]
           have hTF:Touch (fun k=>k=w.heap.size+1\/k=w.heap.size+1+1) wH wF:=by
            rw [hwF]
            exact (Touch.drewP (Touch.put (Touch.put (Touch.put (Touch.put (Touch.put (Touch.put (Touch.put (Touch.put (Touch.none wH) _ _ (.inl rfl)) _ _ (.inl rfl)) _ _ (.inl rfl)) _ _ (.inl rfl)) _ _ (.inr rfl)) _ _ (.inr rfl)) _ _ (.inr rfl)) _ _ (.inr rfl)))
           rw [<- hwF]
           obtain ⟨k1,k2⟩:=HPOST.out R.1 s2 _ wH wF ⟨BC.out.size,HRH.out⟩ HBH.out hTF
           refine bodyPost_ret (v:=.tuple #[.agg #[.slice s2.a1 R.1.mem.length s2.c1,.slice s2.a2 R.1.pend.length s2.c2,.slice s2.a3 R.1.tlb.length s2.c3,.slice s2.a4 R.1.wc.length s2.c4],.agg #[.int .i64 page,.int .i64 need,.int .i64 R.2.kind,.int .i64 0]]) (by simp [results,Tryz.results7,go_sem,f0,f1,f2,f3,g0,g1,g2,g3]) rfl ?_
           rw [HNV.out.1,HNV.out.2]
           exact ⟨s2,by rw [HSE.out]; rfl,k1,k2⟩
         ·obtain ⟨hfl,he0⟩:=HCS.out.pos (by omega)
          have HNV:Hid _:=HY.out (by rw [HUT.out,hb7,decide_eq_true hfl]; rfl)
          have hl1:0 < cs.length:=by omega
          have hlpos:decide ((0:Int) < (cs.length:Int))=true:=by simp; omega
          have HE0:Hid (eAt eTlb cs 0=eAt eTlb M.tlb (firstC M page)):=he0
          have HFE:Hid (TRng (eAt eTlb cs 0)/\(0<=(eAt eTlb cs 0).out/\(eAt eTlb cs 0).out < 65536)/\0<=(eAt eTlb cs 0).perm/\(eAt eTlb cs 0).perm<=7):=by rw [he0]; exact HENT.out _ hfl
          obtain ⟨N,f,hrC,hN,hf⟩:∃ N f,wC.rowIs gC 81 N f/\cs.length * 5<=N/\∀ i,i < cs.length->∀ j,j < 5->f (i * 5+j)=eCell eTlb cs i j:=by
           obtain ⟨ga,ca,hae,haf⟩:=HRC.out.form
           obtain ⟨g',N,f,hag,_,hr,hN,hf⟩:=haf hl1
           have hga:some (⟨gC,0,none⟩:Addr)=some ⟨g',0,none⟩:=by
            simp only [Value.slice.injEq] at hae
            exact hae.1.trans hag
           have hg2:gC=g':=by simpa using hga
           subst hg2
           exact ⟨N,f,hr,hN,hf⟩
          have HCC:Hid (∀ wX,Below wC.heap.size wC wX->∀ t,t < cs.length->wX.cell? ⟨gC,t * 5,none⟩=some (.int .i64 (eAt eTlb cs t).page)/\wX.cell? ⟨gC,t * 5+1,none⟩=some (.int .i64 (eAt eTlb cs t).size)/\wX.cell? ⟨gC,t * 5+2,none⟩=some (.int .i64 (eAt eTlb cs t).out)/\wX.cell? ⟨gC,t * 5+3,none⟩=some (.int .i64 (eAt eTlb cs t).perm)/\wX.cell? ⟨gC,t * 5+4,none⟩=some (.bool (eAt eTlb cs t).doom)):=fun wX hX t ht=>by
           have hrow2:wX.rowIs gC 81 N f:=hrC.of_block (hX.block gC hrC.lt)
           refine ⟨?_,?_,?_,?_,?_⟩
           ·rw [hrow2.cell (i:=t * 5) (by omega)]; exact congrArg some (hf t ht 0 (by decide))
           ·rw [hrow2.cell (i:=t * 5+1) (by omega)]; exact congrArg some (hf t ht 1 (by decide))
           ·rw [hrow2.cell (i:=t * 5+2) (by omega)]; exact congrArg some (hf t ht 2 (by decide))
           ·rw [hrow2.cell (i:=t * 5+3) (by omega)]; exact congrArg some (hf t ht 3 (by decide))
           ·rw [hrow2.cell (i:=t * 5+4) (by omega)]; exact congrArg some (hf t ht 4 (by decide))
          have HC0:Hid (∀ wX,Below wC.heap.size wC wX->wX.cell? ⟨gC,0,none⟩=some (.int .i64 (eAt eTlb cs 0).page)/\wX.cell? ⟨gC,1,none⟩=some (.int .i64 (eAt eTlb cs 0).size)/\wX.cell? ⟨gC,2,none⟩=some (.int .i64 (eAt eTlb cs 0).out)/\wX.cell? ⟨gC,3,none⟩=some (.int .i64 (eAt eTlb cs 0).perm)/\wX.cell? ⟨gC,4,none⟩=some (.bool (eAt eTlb cs 0).doom)):=fun wX hX=>by
           have h0:=HCC.out wX hX 0 hl1
           simpa using h0
          have hgCl:=hrC.lt
          have I0:(0:Int) < (cs.length:Int):=by omega
          clear hb7 hl0 hfl he0 hrC hN hf
          go_upto_region 12 with (go_at_call 38; refine (hcb _).mono ?_; rintro e wE ⟨rfl,hwE⟩; obtain rfl:=hwE.symm)
          go_wp2_with fail
          clear q0 q1 q2 q3
          go_loopw [12] (fun iv wr=>∃ t:Nat,t<=cs.length/\iv=.int .i64 t/\(∀ j,j < t->sameB (eAt eTlb cs 0) (eAt eTlb cs j)=true)/\Below wC.heap.size wC wr) (fun iv _=>cs.length - (intOf iv).toNat)
          case atStart=>exact ⟨0,Nat.zero_le _,rfl,fun j hj=>by omega,Below.refl _ _⟩
          case round =>
           obtain ⟨t,ht,rfl,hsm,hb⟩:=hrel
           have hsz:=hb.size
           have bW:Below wb.heap.size wb wr:=BC.out.trans (hb.mono BC.out.size)
           by_cases htl:t < cs.length
           ·have L1:(0:Int)<=(t:Int):=by omega
            have L2:(t:Int) < (cs.length:Int):=by omega
            obtain ⟨x,hx⟩:∃ x,x=eAt eTlb cs 0:=⟨_,rfl⟩
            obtain ⟨y,hy⟩:∃ y,y=eAt eTlb cs t:=⟨_,rfl⟩
            have HS:Hid (∀ wX,Below wr.heap.size wr wX->(wX.cell? ⟨gC,0,none⟩=some (.int .i64 x.page)/\wX.cell? ⟨gC,1,none⟩=some (.int .i64 x.size)/\wX.cell? ⟨gC,2,none⟩=some (.int .i64 x.out)/\wX.cell? ⟨gC,3,none⟩=some (.int .i64 x.perm)/\wX.cell? ⟨gC,4,none⟩=some (.bool x.doom))/\wX.cell? ⟨gC,t * 5,none⟩=some (.int .i64 y.page)/\wX.cell? ⟨gC,t * 5+1,none⟩=some (.int .i64 y.size)/\wX.cell? ⟨gC,t * 5+2,none⟩=some (.int .i64 y.out)/\wX.cell? ⟨gC,t * 5+3,none⟩=some (.int .i64 y.perm)/\wX.cell? ⟨gC,t * 5+4,none⟩=some (.bool y.doom)):=fun wX hX=>by
             rw [hx,hy]
             exact ⟨HC0.out wX (hb.trans (hX.mono hb.size)),HCC.out wX (hb.trans (hX.mono hb.size)) t htl⟩
            have hse:=fun w=>sameEntry_any x y w
            have HBW:Hid (Below wb.heap.size wb wr):=bW
            have HB:Hid (Below wC.heap.size wC wr):=hb
            have HSM:Hid _:=hsm
            cases hsw:sameB x y
            ·rw [hsw] at hse
             have hcl:clashC M page=true:=HCS.out.bad t htl (by rw [<- hx,<- hy]; exact hsw)
             have HSE:Hid (seenH page need (lookUpM M page)=⟨page,need,4,0⟩):=by
              show seenH page need (lookUpM M page)=_
              unfold lookUpM
              rw [hcl]
              rfl
             clear hsw hcl hx hy hb bW hsm
             go_upto_region 15 with fail
             refine wp_region_held_drew (S:=fun wX=>(wX.cell? ⟨gC,0,none⟩=some (.int .i64 x.page)/\wX.cell? ⟨gC,1,none⟩=some (.int .i64 x.size)/\wX.cell? ⟨gC,2,none⟩=some (.int .i64 x.out)/\wX.cell? ⟨gC,3,none⟩=some (.int .i64 x.perm)/\wX.cell? ⟨gC,4,none⟩=some (.bool x.doom))/\wX.cell? ⟨gC,t * 5,none⟩=some (.int .i64 y.page)/\wX.cell? ⟨gC,t * 5+1,none⟩=some (.int .i64 y.size)/\wX.cell? ⟨gC,t * 5+2,none⟩=some (.int .i64 y.out)/\wX.cell? ⟨gC,t * 5+3,none⟩=some (.int .i64 y.perm)/\wX.cell? ⟨gC,t * 5+4,none⟩=some (.bool y.doom)) (by kernel_rfl) (HS.out _ br.drew) (fun hHeld=>?_)
             refine tk 0 ?_
             refine tk 1 ?_
             refine tk 2 ?_
             refine tk 3 ?_
             refine tk 4 ?_
             refine tk 5 ?_
             refine tk 6 ?_
             refine wpAnyH_ready (rs:=[7]) (by kernel_rfl) (by simp) ?_
             refine AllReadyH.cons rfl (fun K hK=>?_) AllReadyH.nil
             go_simp
             refine (hse _).mono ?_; rintro r w2 ⟨rfl,hb2⟩
             go_wp2_with fail
             refine hK.out _ _ (HS.out _ (br.drew.trans (hb2.mono (by simp)))) (fun hHeld2=>?_)
             clear hK K
             refine tk 8 ?_
             refine wpAnyH_done (by kernel_rfl) ?_ _
             have b2:Below wb.heap.size wb w2:=HBW.out.trans ((br.drew.trans (hb2.mono (by simp)):Below wr.heap.size wr w2).mono HBW.out.size)
             obtain ⟨⟨q0,q1,q2,q3⟩,_⟩:=HBOX.out w2 b2
             have HB2:Hid (Below wb.heap.size wb w2):=b2
             clear hb2 b2 hse
             go_wp2_with fail
             refine (HCP.out w2 HB2.out).mono ?_
             rintro e w5 ⟨s1,rfl,hr5,_,hb5⟩
             have b5:Below wb.heap.size wb w5:=HB2.out.trans (hb5.mono HB2.out.size)
             obtain ⟨⟨q0,q1,q2,q3⟩,⟨r0,r1,r2,r3⟩,⟨z0,z1,z2,z3⟩,⟨p0,p1,p2,p3⟩,⟨x0,x1,x2,x3⟩,N1⟩:=HBOX.out w5 b5
             have HR5:Hid (MRow w5 w2.heap.size (s1.mv M) M):=hr5
             have HB5:Hid (Below wb.heap.size wb w5):=b5
             clear hr5 hb5 b5 q0 q1 q2 q3
             go_wp2_with fail
             obtain ⟨wF,hwF⟩:∃ wF,wF=((((((((w5.setCell ⟨w.heap.size+1,0,none⟩ (.slice s1.a1 M.mem.length s1.c1)).setCell ⟨w.heap.size+1,1,none⟩ (.slice s1.a2 M.pend.length s1.c2)).setCell ⟨w.heap.size+1,2,none⟩ (.slice s1.a3 M.tlb.length s1.c3)).setCell ⟨w.heap.size+1,3,none⟩ (.slice s1.a4 M.wc.length s1.c4)).setCell ⟨w.heap.size+1+1,0,none⟩ (.int .i64 page)).setCell ⟨w.heap.size+1+1,1,none⟩ (.int .i64 need)).setCell ⟨w.heap.size+1+1,2,none⟩ (.int .i64 4)).setCell ⟨w.heap.size+1+1,3,none⟩ (.int .i64 0)):=⟨_,rfl⟩
             obtain ⟨f0,f1,f2,f3⟩:=put8a hwF r0 r1 r2 r3
             obtain ⟨g0,g1,g2,g3⟩:=put8b hwF p0 p1 p2 p3
             have hTF:Touch (fun k=>k=w.heap.size+1\/k=w.heap.size+1+1) w5 wF:=by
              rw [hwF]
              exact (Touch.put (Touch.put (Touch.put (Touch.put (Touch.put (Touch.put (Touch.put (Touch.put (Touch.none w5) _ _ (.inl rfl)) _ _ (.inl rfl)) _ _ (.inl rfl)) _ _ (.inl rfl)) _ _ (.inr rfl)) _ _ (.inr rfl)) _ _ (.inr rfl)) _ _ (.inr rfl))
             rw [<- hwF]
             obtain ⟨k1,k2⟩:=HPOST.out M s1 _ w5 wF ⟨HB2.out.size,HR5.out⟩ HB5.out hTF
             refine bodyPost_ret (v:=.tuple #[.agg #[.slice s1.a1 M.mem.length s1.c1,.slice s1.a2 M.pend.length s1.c2,.slice s1.a3 M.tlb.length s1.c3,.slice s1.a4 M.wc.length s1.c4],.agg #[.int .i64 page,.int .i64 need,.int .i64 4,.int .i64 0]]) (by simp [results,Tryz.results7,go_sem,f0,f1,f2,f3,g0,g1,g2,g3]) rfl ?_
             rw [HNV.out.1,HNV.out.2]
             exact ⟨s1,by rw [HSE.out]; rfl,k1,k2⟩
            ·rw [hsw] at hse
             have HSW:Hid (sameB (eAt eTlb cs 0) (eAt eTlb cs t)=true):=by rw [<- hx,<- hy]; exact hsw
             clear hsw hx hy hb bW hsm
             go_upto_region 15 with fail
             refine wp_region_held_drew (S:=fun wX=>(wX.cell? ⟨gC,0,none⟩=some (.int .i64 x.page)/\wX.cell? ⟨gC,1,none⟩=some (.int .i64 x.size)/\wX.cell? ⟨gC,2,none⟩=some (.int .i64 x.out)/\wX.cell? ⟨gC,3,none⟩=some (.int .i64 x.perm)/\wX.cell? ⟨gC,4,none⟩=some (.bool x.doom))/\wX.cell? ⟨gC,t * 5,none⟩=some (.int .i64 y.page)/\wX.cell? ⟨gC,t * 5+1,none⟩=some (.int .i64 y.size)/\wX.cell? ⟨gC,t * 5+2,none⟩=some (.int .i64 y.out)/\wX.cell? ⟨gC,t * 5+3,none⟩=some (.int .i64 y.perm)/\wX.cell? ⟨gC,t * 5+4,none⟩=some (.bool y.doom)) (by kernel_rfl) (HS.out _ br.drew) (fun hHeld=>?_)
             refine tk 0 ?_
             refine tk 1 ?_
             refine tk 2 ?_
             refine tk 3 ?_
             refine tk 4 ?_
             refine tk 5 ?_
             refine tk 6 ?_
             refine wpAnyH_ready (rs:=[7]) (by kernel_rfl) (by simp) ?_
             refine AllReadyH.cons rfl (fun K hK=>?_) AllReadyH.nil
             go_simp
             refine (hse _).mono ?_; rintro r w2 ⟨rfl,hb2⟩
             go_wp2_with fail
             refine hK.out _ _ (HS.out _ (br.drew.trans (hb2.mono (by simp)))) (fun hHeld2=>?_)
             clear hK K
             refine tk 8 ?_
             refine wpAnyH_done (by kernel_rfl) ?_ _
             have HB2:Hid (Below wC.heap.size wC w2):=HB.out.trans ((br.drew.trans (hb2.mono (by simp)):Below wr.heap.size wr w2).mono HB.out.size)
             clear hb2 hse
             go_wp2_with fail
             go_roundw
             case rel=>exact ⟨t+1,by omega,by go_num,fun j hj=>if e:j=t then by subst e; exact HSW.out else HSM.out j (by omega),HB2.out⟩
             case measure=>simp [intOf]; omega
           ·have e:t=cs.length:=by omega
            subst e
            have hcl:clashC M page=false:=HCS.out.good hsm hl1
            have hSe:seenH page need (lookUpM M page)=lookS page need ((eAt eTlb cs 0).out+page - (eAt eTlb cs 0).page) (eAt eTlb cs 0).perm:=by
             unfold lookUpM
             rw [hcl,HE0.out]
             rfl
            obtain ⟨SX,hSX⟩:∃ SX,SX=lookS page need ((eAt eTlb cs 0).out+page - (eAt eTlb cs 0).page) (eAt eTlb cs 0).perm:=⟨_,rfl⟩
            have hlk:=fun wX=>look_any page need ((eAt eTlb cs 0).out+page - (eAt eTlb cs 0).page) (eAt eTlb cs 0).perm HFE.out.2.2.1 HFE.out.2.2.2 hnd wX
            rw [<- hSX] at hlk
            have HSE:Hid (seenH page need (lookUpM M page)=SX):=hSe.trans hSX.symm
            unfold seenV at hlk
            have LF:¬ (cs.length:Int) < (cs.length:Int):=by omega
            obtain ⟨x,hx⟩:∃ x,x=eAt eTlb cs 0:=⟨_,rfl⟩
            have hfe:=HFE.out
            rw [<- hx] at hlk hfe
            have W1:IntKind.i64.wrap (x.out+page)=x.out+page:=by rw [IntKind.wrap_i64]; omega
            have W2:IntKind.i64.wrap (x.out+page - x.page)=x.out+page - x.page:=by rw [IntKind.wrap_i64]; have:=hfe.1.p0; have:=hfe.1.p1; omega
            have HBW:Hid (Below wb.heap.size wb wr):=bW
            have HS:Hid (∀ wX,Below wr.heap.size wr wX->(wX.cell? ⟨w.heap.size,0,none⟩=some (.slice s.a1 M.mem.length s.c1)/\wX.cell? ⟨w.heap.size,1,none⟩=some (.slice s.a2 M.pend.length s.c2)/\wX.cell? ⟨w.heap.size,2,none⟩=some (.slice s.a3 M.tlb.length s.c3)/\wX.cell? ⟨w.heap.size,3,none⟩=some (.slice s.a4 M.wc.length s.c4))/\wX.cell? ⟨gC,0,none⟩=some (.int .i64 x.page)/\wX.cell? ⟨gC,1,none⟩=some (.int .i64 x.size)/\wX.cell? ⟨gC,2,none⟩=some (.int .i64 x.out)/\wX.cell? ⟨gC,3,none⟩=some (.int .i64 x.perm)/\wX.cell? ⟨gC,4,none⟩=some (.bool x.doom)):=fun wX hX=>by
             rw [hx]
             exact ⟨(HBOX.out wX (bW.trans (hX.mono bW.size))).1,HC0.out wX (hb.trans (hX.mono hb.size))⟩
            have HGC:Hid (gC < wr.heap.size/\w.heap.size+3<=wr.heap.size/\w1.heap.size<=gC/\w.heap.size+3<=w1.heap.size):=⟨by omega,by have:=bW.size; have:=HZ.out; omega,(HRC.out.own gC rfl).1,by have:=HB1.out.size; have:=HZ.out; omega⟩
            clear hcl hSe hSX hx hfe hb bW hsm htl
            go_upto_region 17 with fail
            refine wp_region_held_drew (S:=fun wX=>(wX.cell? ⟨w.heap.size,0,none⟩=some (.slice s.a1 M.mem.length s.c1)/\wX.cell? ⟨w.heap.size,1,none⟩=some (.slice s.a2 M.pend.length s.c2)/\wX.cell? ⟨w.heap.size,2,none⟩=some (.slice s.a3 M.tlb.length s.c3)/\wX.cell? ⟨w.heap.size,3,none⟩=some (.slice s.a4 M.wc.length s.c4))/\wX.cell? ⟨gC,0,none⟩=some (.int .i64 x.page)/\wX.cell? ⟨gC,1,none⟩=some (.int .i64 x.size)/\wX.cell? ⟨gC,2,none⟩=some (.int .i64 x.out)/\wX.cell? ⟨gC,3,none⟩=some (.int .i64 x.perm)/\wX.cell? ⟨gC,4,none⟩=some (.bool x.doom)) (by kernel_rfl) (HS.out _ br.drew) (fun hHeld=>?_)
            refine tk 0 ?_
            refine tk 2 ?_
            refine tk 3 ?_
            refine tk 4 ?_
            refine tk 5 ?_
            refine tk 6 ?_
            refine tk 7 ?_
            refine tk 8 ?_
            refine tk 9 ?_
            refine tk 10 ?_
            refine tk 11 ?_
            refine tk 12 ?_
            refine tk 13 ?_
            refine tk 14 ?_
            refine tk 15 ?_
            refine tk 16 ?_
            refine tk 17 ?_
            refine tk 18 ?_
            refine wpAnyH_ready (rs:=[1]) (by kernel_rfl) (by simp) ?_
            refine AllReadyH.cons rfl (fun K hK=>?_) AllReadyH.nil
            go_simp
            refine (HCP.out _ HBW.out.drew).mono ?_; rintro r w5 ⟨s1,rfl,hr5,_,hb5⟩; have B5:Below wr.heap.size wr w5:=br.drew.trans (hb5.mono (by simp))
            go_wp2_with fail
            refine hK.out _ _ (HS.out _ B5) (fun hHeld2=>?_)
            clear hK K
            refine wpAnyH_ready (rs:=[19]) (by kernel_rfl) (by simp) ?_
            refine AllReadyH.cons rfl (fun K hK=>?_) AllReadyH.nil
            go_simp
            refine (hlk _).mono ?_; rintro r w6 ⟨rfl,hb6⟩; have B6:Below wr.heap.size wr w6:=B5.trans (hb6.mono B5.size)
            go_wp2_with fail
            refine hK.out _ _ (HS.out _ B6) (fun hHeld2=>?_)
            clear hK K
            have b6:Below wb.heap.size wb w6:=HBW.out.trans (B6.mono HBW.out.size)
            obtain ⟨⟨q0,q1,q2,q3⟩,⟨r0,r1,r2,r3⟩,⟨z0,z1,z2,z3⟩,⟨p0,p1,p2,p3⟩,⟨x0,x1,x2,x3⟩,N1⟩:=HBOX.out w6 b6
            have HSF:Hid (∀ wX,Touch (fun k=>k=w.heap.size+1\/k=w.heap.size+1+1) w6 wX->(wX.cell? ⟨w.heap.size,0,none⟩=some (.slice s.a1 M.mem.length s.c1)/\wX.cell? ⟨w.heap.size,1,none⟩=some (.slice s.a2 M.pend.length s.c2)/\wX.cell? ⟨w.heap.size,2,none⟩=some (.slice s.a3 M.tlb.length s.c3)/\wX.cell? ⟨w.heap.size,3,none⟩=some (.slice s.a4 M.wc.length s.c4))/\wX.cell? ⟨gC,0,none⟩=some (.int .i64 x.page)/\wX.cell? ⟨gC,1,none⟩=some (.int .i64 x.size)/\wX.cell? ⟨gC,2,none⟩=some (.int .i64 x.out)/\wX.cell? ⟨gC,3,none⟩=some (.int .i64 x.perm)/\wX.cell? ⟨gC,4,none⟩=some (.bool x.doom)):=fun wX hX=>by
             obtain ⟨⟨c0,c1,c2,c3⟩,c4,c5,c6,c7,c8⟩:=HS.out w6 B6
             obtain ⟨g1,g2,g3,g4⟩:=HGC.out
             have hz6:=B6.size
             have hb1:=hX.block w.heap.size (by omega) (by omega)
             have hb2:=hX.block gC (by omega) (by omega)
             exact ⟨⟨(cob hb1).trans c0,(cob hb1).trans c1,(cob hb1).trans c2,(cob hb1).trans c3⟩,(cob hb2).trans c4,(cob hb2).trans c5,(cob hb2).trans c6,(cob hb2).trans c7,(cob hb2).trans c8⟩
            have HR6:Hid (MRow w6 wr.heap.size (s1.mv M) M):=(hr5.below hb6).rebase (by simp)
            have HB6:Hid (Below wb.heap.size wb w6):=b6
            clear hr5 hb5 hb6 B5 B6 b6 q0 q1 q2 q3
            refine wpAnyH_ready (rs:=[20]) (by kernel_rfl) (by simp) ?_
            refine AllReadyH.cons rfl (fun K hK=>?_) AllReadyH.nil
            go_simp
            refine hK.out _ _ (HSF.out _ (Touch.put (Touch.put (Touch.put (Touch.put (Touch.none w6) _ _ (.inl rfl)) _ _ (.inl rfl)) _ _ (.inl rfl)) _ _ (.inl rfl))) (fun hHeld2=>?_)
            clear hK K
            refine wpAnyH_ready (rs:=[21]) (by kernel_rfl) (by simp) ?_
            refine AllReadyH.cons rfl (fun K hK=>?_) AllReadyH.nil
            go_simp
            refine hK.out _ _ (HSF.out _ (Touch.put (Touch.put (Touch.put (Touch.put (Touch.put (Touch.put (Touch.put (Touch.put (Touch.none w6) _ _ (.inl rfl)) _ _ (.inl rfl)) _ _ (.inl rfl)) _ _ (.inl rfl)) _ _ (.inr rfl)) _ _ (.inr rfl)) _ _ (.inr rfl)) _ _ (.inr rfl))) (fun hHeld3=>?_)
            clear hK K
            refine wpAnyH_done (by kernel_rfl) ?_ _
            go_wp2_with fail
            obtain ⟨wF,hwF⟩:∃ wF,wF=((((((((w6.setCell ⟨w.heap.size+1,0,none⟩ (.slice s1.a1 M.mem.length s1.c1)).setCell ⟨w.heap.size+1,1,none⟩ (.slice s1.a2 M.pend.length s1.c2)).setCell ⟨w.heap.size+1,2,none⟩ (.slice s1.a3 M.tlb.length s1.c3)).setCell ⟨w.heap.size+1,3,none⟩ (.slice s1.a4 M.wc.length s1.c4)).setCell ⟨w.heap.size+1+1,0,none⟩ (.int .i64 SX.page)).setCell ⟨w.heap.size+1+1,1,none⟩ (.int .i64 SX.need)).setCell ⟨w.heap.size+1+1,2,none⟩ (.int .i64 SX.kind)).setCell ⟨w.heap.size+1+1,3,none⟩ (.int .i64 SX.out)):=⟨_,rfl⟩
            obtain ⟨f0,f1,f2,f3⟩:=put8a hwF r0 r1 r2 r3
            obtain ⟨g0,g1,g2,g3⟩:=put8b hwF p0 p1 p2 p3
            have hTF:Touch (fun k=>k=w.heap.size+1\/k=w.heap.size+1+1) w6 wF:=by
             rw [hwF]
             exact (Touch.put (Touch.put (Touch.put (Touch.put (Touch.put (Touch.put (Touch.put (Touch.put (Touch.none w6) _ _ (.inl rfl)) _ _ (.inl rfl)) _ _ (.inl rfl)) _ _ (.inl rfl)) _ _ (.inr rfl)) _ _ (.inr rfl)) _ _ (.inr rfl)) _ _ (.inr rfl))
            rw [<- hwF]
            obtain ⟨k1,k2⟩:=HPOST.out M s1 _ w6 wF ⟨HBW.out.size,HR6.out⟩ HB6.out hTF
            refine bodyPost_ret (v:=.tuple #[.agg #[.slice s1.a1 M.mem.length s1.c1,.slice s1.a2 M.pend.length s1.c2,.slice s1.a3 M.tlb.length s1.c3,.slice s1.a4 M.wc.length s1.c4],.agg #[.int .i64 SX.page,.int .i64 SX.need,.int .i64 SX.kind,.int .i64 SX.out]]) (by simp [results,Tryz.results7,go_sem,f0,f1,f2,f3,g0,g1,g2,g3]) rfl ?_
            rw [HNV.out.1,HNV.out.2]
            exact ⟨s1,by rw [HSE.out]; rfl,k1,k2⟩
end Go.Proofs.YtiiejckfcnmhoabGreat
