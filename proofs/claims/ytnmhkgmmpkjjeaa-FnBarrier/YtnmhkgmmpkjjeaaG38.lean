import Derived.Test.YtnmhkgmmpkjjeaaG17
import Derived.Test.YtnmhkgmmpkjjeaaG19
import Derived.Test.YtnmhkgmmpkjjeaaG34
import Derived.Test.YtnmhkgmmpkjjeaaG30
import Derived.Test.YtnmhkgmmpkjjeaaG15
import Derived.Test.YtnmhkgmmpkjjeaaG11
import Derived.Deep.DeepCutAuto
namespace Go.Proofs.Ytnmhkgmmpkjjeaa
open Go.ChangeShapes Go.WideShapes Go.ChangeAt Go.RowKit
set_option linter.unusedVariables false
set_option maxRecDepth 100000
attribute [local go_sem ↓] Go.wp_at_zero Go.wp_at_succ
set_option maxHeartbeats 8000000 in
theorem drawOp_any (a:Option Addr) (cap:Nat) (cs:List Int) (p:Nat) (s:SV) (M:Mach) (b:Nat) (w:World) (hc:Byt cs) (hp:p<=800000) (hs:BAt w a cs) (hsm:M.Small) (hok:OkMem M.mem) (hk:MOk M) (h:MRow w b (s.mv M) M) :
  Calls Try.prog 78 #[.slice a cs.length cap,.int .i64 (p:Int),.agg #[.slice s.a1 M.mem.length s.c1,.slice s.a2 M.pend.length s.c2,.slice s.a3 M.tlb.length s.c3,.slice s.a4 M.wc.length s.c4]] w fun e w'=>∃ o:OpE,OpOk o/\e=.returned (.tuple #[.agg #[.int .i64 o.kind,.int .i64 o.a,.int .i64 o.b,.int .u64 o.word],.int .i64 ((p:Int)+1+1+1+1)])/\Below w.heap.size w w':=by
 have y1:=hsm.w
 have hml:16<=M.mem.length:=by have:=nfr_mul _ hok.n0; omega
 obtain ⟨gm,ea,hcm⟩:=MRow.memc h (by omega)
 obtain ⟨wb,hwb⟩:∃ wb,wb=(w.alloc (.cells #[.slice (some ⟨gm,0,none⟩) M.mem.length s.c1,.slice s.a2 M.pend.length s.c2,.slice s.a3 M.tlb.length s.c3,.slice s.a4 M.wc.length s.c4] 38)).alloc (.cells #[.int .i64 0,.int .i64 0,.int .i64 0,.int .u64 0] 65):=⟨_,rfl⟩
 have hbb:Below w.heap.size w wb:=by rw [hwb]; exact ((Below.refl _ _).alloc (Nat.le_refl _) _).alloc (by simp) _
 have hzb:wb.heap.size=w.heap.size+2:=by rw [hwb]; simp
 have HQ:Hid (∀ wX,Below wb.heap.size wb wX->(wX.cell? ⟨w.heap.size,0,none⟩=some (.slice (some ⟨gm,0,none⟩) M.mem.length s.c1)/\wX.cell? ⟨w.heap.size,1,none⟩=some (.slice s.a2 M.pend.length s.c2)/\wX.cell? ⟨w.heap.size,2,none⟩=some (.slice s.a3 M.tlb.length s.c3)/\wX.cell? ⟨w.heap.size,3,none⟩=some (.slice s.a4 M.wc.length s.c4))/\(wX.cell? ⟨w.heap.size+1,0,none⟩=some (.int .i64 0)/\wX.cell? ⟨w.heap.size+1,1,none⟩=some (.int .i64 0)/\wX.cell? ⟨w.heap.size+1,2,none⟩=some (.int .i64 0)/\wX.cell? ⟨w.heap.size+1,3,none⟩=some (.int .u64 0))/\wX.frozen? ⟨w.heap.size+1,0,none⟩=false/\wX.frozen? ⟨w.heap.size+1,1,none⟩=false/\wX.frozen? ⟨w.heap.size+1,2,none⟩=false/\wX.frozen? ⟨w.heap.size+1,3,none⟩=false):=hidP fun wX hX=>by
  refine ⟨⟨?_,?_,?_,?_⟩,⟨?_,?_,?_,?_⟩,?_,?_,?_,?_⟩
  iterate 8 (exact (hX.cell (by simp; omega)).trans (by rw [hwb]; simp [go_sem]))
  iterate 4 (exact (hX.frozen (by simp; omega)).trans (by rw [hwb]; simp [go_sem]))
 have HCR:Hid (∀ wX,Below wb.heap.size wb wX->CRow wX gm M.mem):=hidP fun wX hX=>hcm.below (hbb.trans (hX.mono (by omega))) hcm.lt
 have HMR:Hid (∀ wX,Below wb.heap.size wb wX->MRow wX b (s.mv M) M):=hidP fun wX hX=>h.below (hbb.trans (hX.mono (by omega)))
 have t1:=take_any a cap cs p 16 wb hc (by omega) (by omega) (hs.below hbb)
 have HT2:Hid (∀ wX,Below wb.heap.size wb wX->Calls Try.prog 37 #[.slice a cs.length cap,.int .i64 ((p:Int)+1),.int .i64 64] wX fun e w'=>e=.returned (.tuple #[.int .i64 (tkV cs (p+1) 64),.int .i64 ((p:Int)+1+1)])/\Below wX.heap.size wX w'):=hidP fun wX hX=>take_any a cap cs (p+1) 64 wX hc (by omega) (by omega) (hs.below (hbb.trans (hX.mono (by omega))))
 have HT3:Hid (∀ wX,Below wb.heap.size wb wX->Calls Try.prog 139 #[.slice a cs.length cap,.int .i64 ((p:Int)+1+1),.agg #[.slice (some ⟨gm,0,none⟩) M.mem.length s.c1]] wX fun e w'=>e=.returned (.tuple #[.int .i64 (pageD cs (p+2) M.mem),.int .i64 ((p:Int)+1+1+1+1)])/\Below wX.heap.size wX w'):=hidP fun wX hX=>drawPage_any a cap cs (p+2) gm s.c1 M.mem wX hc (by omega) (hs.below (hbb.trans (hX.mono (by omega)))) (HCR.out wX hX) (by omega) hok.rng
 have HT4:Hid (∀ wX,Calls Try.prog 39 #[.agg #[.slice (some ⟨gm,0,none⟩) M.mem.length s.c1]] wX fun e w'=>e=.returned (.int .i64 (nfr M.mem.length))/\Below wX.heap.size wX w'):=hidP fun wX=>frames_any _ M.mem.length _ (by omega) wX
 have HVA:Hid (∀ wX,Below wb.heap.size wb wX->Calls Try.prog 80 #[.agg #[.slice (some ⟨gm,0,none⟩) M.mem.length s.c1,.slice s.a2 M.pend.length s.c2,.slice s.a3 M.tlb.length s.c3,.slice s.a4 M.wc.length s.c4]] wX fun e w'=>e=.returned (.bool (validB M))/\Below wX.heap.size wX w'):=hidP fun wX hX=>by rw [<- ea]; exact specValid_any s M b wX hsm (HMR.out wX hX)
 obtain ⟨bK0,bK1⟩:=tkV_bd cs p 16 (by omega) hc (by omega)
 obtain ⟨bA0,bA1⟩:=tkV_bd cs (p+1) 64 (by omega) hc (by omega)
 obtain ⟨bP0,bP1⟩:=pageD_bd cs (p+2) M.mem hc (by omega)
 have bN0:1<=nfr M.mem.length:=by have:=nfr_mul _ hok.n0; omega
 have bN1:nfr M.mem.length<=512:=by have:=nfr_le M.mem.length; omega
 generalize tkV cs p 16=K at *
 generalize tkV cs (p+1) 64=A at *
 generalize pageD cs (p+2) M.mem=PG at *
 have HAD:Hid (∀ g c (zs:List Int) wX,OkMem zs->CRow wX g zs->Calls Try.prog 79 #[.agg #[.slice (some ⟨g,0,none⟩) zs.length c],.int .i64 PG] wX fun e w'=>e=.returned (.int .i64 (addrD zs PG))/\Below wX.heap.size wX w'):=hidP fun g c zs wX h1 h2=>addrS_any g c zs PG wX bP0 bP1 h1 h2
 have HAB:Hid (∀ zs:List Int,nfr zs.length ≠ 0->0<=addrD zs PG/\addrD zs PG < (zs.length:Int)):=hidP fun zs h1=>addrD_bd zs PG bP0 bP1 h1
 have HOM:Hid (OkMem M.mem):=hok
 have HLA:Hid (validB M=true->OkMem (lateL M)/\(lateL M).length=M.mem.length/\∀ wX,Below wb.heap.size wb wX->Calls Try.prog 85 #[.agg #[.slice (some ⟨gm,0,none⟩) M.mem.length s.c1,.slice s.a2 M.pend.length s.c2,.slice s.a3 M.tlb.length s.c3,.slice s.a4 M.wc.length s.c4]] wX fun e w'=>∃ g c,e=.returned (.agg #[.slice (some ⟨g,0,none⟩) M.mem.length c])/\CRow w' g (lateL M)/\Below wX.heap.size wX w'):=hidP fun hv=>by
  have hvm:=VM.of hk hv
  have hpa:∀ i,i < M.pend.length->0<=(eAt eWrite M.pend i).addr/\(eAt eWrite M.pend i).addr < M.mem.length:=fun i hi=>(hvm.pend _ (eAt_in eWrite hi)).1
  refine ⟨late_ok hvm.wok (fun i hi=>(hpa i hi).1),lateL_length M,fun wX hX=>?_⟩
  rw [<- ea]
  refine (latest_any s M b wX hsm (by omega) hpa (HMR.out wX hX)).mono ?_
  rintro e w' ⟨g,c,rfl,hr,hb⟩
  have e2:ERow eWord w' wX.heap.size (.slice (some ⟨g,0,none⟩) (lateL M).length c) (lateL M):=by rw [lateL_length]; exact hr
  obtain ⟨g',eg,hcr,_⟩:=eWord_c e2 (by rw [lateL_length]; omega)
  have:g=g':=by simpa using eg
  exact ⟨g,c,rfl,this ▸ hcr,hb⟩
 generalize nfr M.mem.length=N at *
 generalize validB M=V at *
 have HEN:Hid (∀ l k o q wX,Calls Try.prog 34 #[.int .i64 l,.agg #[.int .i64 k,.int .i64 o,.int .i64 q]] wX fun e w'=>e=.returned (.int .u64 (encI l k o q))/\Below wX.heap.size wX w'):=hidP fun l k o q wX=>specEncode_any l k o q wX
 have HWB:Hid (wb=_):=hwb
 have HBB:Hid (Below w.heap.size w wb):=hbb
 have HZB:Hid (w.heap.size<=wb.heap.size):=hidP (by omega)
 have HEA:Hid (s.a1=some ⟨gm,0,none⟩):=ea
 rw [hwb] at t1
 rw [ea]
 clear hc hs hwb hbb h hok hcm ea
 have W1:IntKind.i64.wrap (N+1)=N+1:=by rw [IntKind.wrap_i64]; omega
 go_enter Try.func78,Try.ntmps78
 go_wp2_with fail
 refine t1.mono ?_
 rintro e w2 ⟨rfl,hb2'⟩
 have hB2:Below wb.heap.size wb w2:=by rw [HWB.out]; exact hb2'
 have t2:=HT2.out w2 hB2
 have HB2:Hid (Below wb.heap.size wb w2):=hB2
 clear t1 hb2' hB2
 go_wp2_with fail
 refine t2.mono ?_
 rintro e w3 ⟨rfl,hb3'⟩
 have hB3:Below wb.heap.size wb w3:=HB2.out.trans (hb3'.mono HB2.out.size)
 have t3:=HT3.out w3 hB3
 obtain ⟨⟨k0,_,_,_⟩,_⟩:=HQ.out w3 hB3
 have HB3:Hid (Below wb.heap.size wb w3):=hB3
 clear t2 hb3' hB3
 go_wp2_with fail
 refine t3.mono ?_
 rintro e w4 ⟨rfl,hb4'⟩
 have hB4:Below wb.heap.size wb w4:=HB3.out.trans (hb4'.mono HB3.out.size)
 have t4:=HT4.out w4
 obtain ⟨⟨k0,_,_,_⟩,_⟩:=HQ.out w4 hB4
 have HB4:Hid (Below wb.heap.size wb w4):=hB4
 clear t3 hb4' hB4
 go_wp2_with fail
 refine t4.mono ?_
 rintro e w5 ⟨rfl,hb5'⟩
 have hB5:Below wb.heap.size wb w5:=HB4.out.trans (hb5'.mono HB4.out.size)
 have HB5:Hid (Below wb.heap.size wb w5):=hB5
 have N5:w.heap.size+1 < w5.heap.size:=by have:=hB5.size; omega
 clear t4 hb5' hB5 k0
 by_cases h3:K < 3
 ·have h3b:decide (K < 3)=true:=by simpa using h3
  obtain ⟨_,⟨r0,r1,r2,r3⟩,f0,f1,f2,f3⟩:=HQ.out w5 HB5.out
  have HF:Hid (Below w.heap.size w ((((w5.setCell ⟨w.heap.size+1,0,none⟩ (.int .i64 2)).setCell ⟨w.heap.size+1,1,none⟩ (.int .i64 0)).setCell ⟨w.heap.size+1,2,none⟩ (.int .i64 0)).setCell ⟨w.heap.size+1,3,none⟩ (.int .u64 0))):=hidP (((((HBB.out.trans (HB5.out.mono HZB.out)).setCell (by simp) _).setCell (by simp) _).setCell (by simp) _).setCell (by simp) _)
  obtain ⟨wF,hwF⟩:∃ wF,wF=((((w5.setCell ⟨w.heap.size+1,0,none⟩ (.int .i64 2)).setCell ⟨w.heap.size+1,1,none⟩ (.int .i64 0)).setCell ⟨w.heap.size+1,2,none⟩ (.int .i64 0)).setCell ⟨w.heap.size+1,3,none⟩ (.int .u64 0)):=⟨_,rfl⟩
  rw [<- hwF] at HF
  have HWF:Hid (wF=_):=hwF
  clear hwF
  go_wp2_with fail
  have e1:=HWF.out
  rw [<- e1]
  obtain ⟨p0,p1,p2,p3⟩:=put4c e1 r0 r1 r2 r3
  exact bodyPost_ret (v:=.tuple #[.agg #[.int .i64 2,.int .i64 0,.int .i64 0,.int .u64 0],.int .i64 ((p:Int)+1+1+1+1)]) (by simp [results,Try.results78,go_sem,p0,p1,p2,p3]) rfl ⟨⟨2,0,0,0⟩,⟨by dsimp only; omega,by dsimp only; omega,by dsimp only; omega,by dsimp only; omega⟩,rfl,HF.out⟩
 ·have h3b:decide (K < 3)=false:=by simpa using h3
  by_cases h6:K < 6
  ·have h6b:decide (K < 6)=true:=by simpa using h6
   obtain ⟨A3,hA3⟩:∃ A3,A3=A % 3:=⟨_,rfl⟩
   have eA3:A.tmod 3=A3:=by rw [Int.tmod_eq_emod_of_nonneg bA0]; exact hA3.symm
   obtain ⟨A5,hA5⟩:∃ A5,A5=A % 5:=⟨_,rfl⟩
   have eA5:A.tmod 5=A5:=by rw [Int.tmod_eq_emod_of_nonneg bA0]; exact hA5.symm
   obtain ⟨P6,hP6⟩:∃ P6,P6=PG % 16:=⟨_,rfl⟩
   have eP6:PG.tmod 16=P6:=by rw [Int.tmod_eq_emod_of_nonneg bP0]; exact hP6.symm
   obtain ⟨PQ,hPQ⟩:∃ PQ,PQ=PG - P6:=⟨_,rfl⟩
   have W2:IntKind.i64.wrap (PG - P6)=PQ:=by rw [IntKind.wrap_i64]; omega
   obtain ⟨BQ,hBQ⟩:∃ BQ,BQ=16 * (A5+1):=⟨_,rfl⟩
   have W3:IntKind.i64.wrap (A5+1)=A5+1:=by rw [IntKind.wrap_i64]; omega
   have W4:IntKind.i64.wrap (16 * (A5+1))=BQ:=by rw [IntKind.wrap_i64]; omega
   have W5:IntKind.i64.wrap (PQ+BQ)=PQ+BQ:=by rw [IntKind.wrap_i64]; omega
   have W6:IntKind.i64.wrap (PG+1)=PG+1:=by rw [IntKind.wrap_i64]; omega
   have b1:0<=PQ/\PQ < 4096:=by omega
   have b2:0<=BQ/\BQ < 4096:=by omega
   clear hA5 hP6 hPQ hBQ hA3
   by_cases hA:A3=0
   ·have hAb:(A3 == 0)=true:=by simpa using hA
    by_cases hg:4096 < PQ+BQ
    ·have hgb:decide (4096 < PQ+BQ)=true:=by simpa using hg
     clear h3 h6 hA
     obtain ⟨_,⟨r0,r1,r2,r3⟩,f0,f1,f2,f3⟩:=HQ.out w5 HB5.out
     have HF:Hid (Below w.heap.size w ((((w5.setCell ⟨w.heap.size+1,0,none⟩ (.int .i64 3)).setCell ⟨w.heap.size+1,1,none⟩ (.int .i64 PQ)).setCell ⟨w.heap.size+1,2,none⟩ (.int .i64 1)).setCell ⟨w.heap.size+1,3,none⟩ (.int .u64 0))):=hidP (((((HBB.out.trans (HB5.out.mono HZB.out)).setCell (by simp) _).setCell (by simp) _).setCell (by simp) _).setCell (by simp) _)
     obtain ⟨wF,hwF⟩:∃ wF,wF=((((w5.setCell ⟨w.heap.size+1,0,none⟩ (.int .i64 3)).setCell ⟨w.heap.size+1,1,none⟩ (.int .i64 PQ)).setCell ⟨w.heap.size+1,2,none⟩ (.int .i64 1)).setCell ⟨w.heap.size+1,3,none⟩ (.int .u64 0)):=⟨_,rfl⟩
     rw [<- hwF] at HF
     have HWF:Hid (wF=_):=hwF
     clear hwF
     go_wp2_with fail
     have e1:=HWF.out
     rw [<- e1]
     obtain ⟨p0,p1,p2,p3⟩:=put4c e1 r0 r1 r2 r3
     exact bodyPost_ret (v:=.tuple #[.agg #[.int .i64 3,.int .i64 PQ,.int .i64 1,.int .u64 0],.int .i64 ((p:Int)+1+1+1+1)]) (by simp [results,Try.results78,go_sem,p0,p1,p2,p3]) rfl ⟨⟨3,PQ,1,0⟩,⟨by dsimp only; omega,by dsimp only; omega,by dsimp only; omega,by dsimp only; omega⟩,rfl,HF.out⟩
    ·have hgb:decide (4096 < PQ+BQ)=false:=by simpa using hg
     clear h3 h6 hA
     obtain ⟨_,⟨r0,r1,r2,r3⟩,f0,f1,f2,f3⟩:=HQ.out w5 HB5.out
     have HF:Hid (Below w.heap.size w ((((w5.setCell ⟨w.heap.size+1,0,none⟩ (.int .i64 3)).setCell ⟨w.heap.size+1,1,none⟩ (.int .i64 PQ)).setCell ⟨w.heap.size+1,2,none⟩ (.int .i64 BQ)).setCell ⟨w.heap.size+1,3,none⟩ (.int .u64 0))):=hidP (((((HBB.out.trans (HB5.out.mono HZB.out)).setCell (by simp) _).setCell (by simp) _).setCell (by simp) _).setCell (by simp) _)
     obtain ⟨wF,hwF⟩:∃ wF,wF=((((w5.setCell ⟨w.heap.size+1,0,none⟩ (.int .i64 3)).setCell ⟨w.heap.size+1,1,none⟩ (.int .i64 PQ)).setCell ⟨w.heap.size+1,2,none⟩ (.int .i64 BQ)).setCell ⟨w.heap.size+1,3,none⟩ (.int .u64 0)):=⟨_,rfl⟩
     rw [<- hwF] at HF
     have HWF:Hid (wF=_):=hwF
     clear hwF
     go_wp2_with fail
     have e1:=HWF.out
     rw [<- e1]
     obtain ⟨p0,p1,p2,p3⟩:=put4c e1 r0 r1 r2 r3
     exact bodyPost_ret (v:=.tuple #[.agg #[.int .i64 3,.int .i64 PQ,.int .i64 BQ,.int .u64 0],.int .i64 ((p:Int)+1+1+1+1)]) (by simp [results,Try.results78,go_sem,p0,p1,p2,p3]) rfl ⟨⟨3,PQ,BQ,0⟩,⟨by dsimp only; omega,by dsimp only; omega,by dsimp only; omega,by dsimp only; omega⟩,rfl,HF.out⟩
   ·have hAb:(A3 == 0)=false:=by simpa using hA
    have hgb:decide (4096 < PG+1)=false:=by simp; omega
    have hg:¬ 4096 < PG+1:=by omega
    clear h3 h6 hA
    obtain ⟨_,⟨r0,r1,r2,r3⟩,f0,f1,f2,f3⟩:=HQ.out w5 HB5.out
    have HF:Hid (Below w.heap.size w ((((w5.setCell ⟨w.heap.size+1,0,none⟩ (.int .i64 3)).setCell ⟨w.heap.size+1,1,none⟩ (.int .i64 PG)).setCell ⟨w.heap.size+1,2,none⟩ (.int .i64 1)).setCell ⟨w.heap.size+1,3,none⟩ (.int .u64 0))):=hidP (((((HBB.out.trans (HB5.out.mono HZB.out)).setCell (by simp) _).setCell (by simp) _).setCell (by simp) _).setCell (by simp) _)
    obtain ⟨wF,hwF⟩:∃ wF,wF=((((w5.setCell ⟨w.heap.size+1,0,none⟩ (.int .i64 3)).setCell ⟨w.heap.size+1,1,none⟩ (.int .i64 PG)).setCell ⟨w.heap.size+1,2,none⟩ (.int .i64 1)).setCell ⟨w.heap.size+1,3,none⟩ (.int .u64 0)):=⟨_,rfl⟩
    rw [<- hwF] at HF
    have HWF:Hid (wF=_):=hwF
    clear hwF
    go_wp2_with fail
    have e1:=HWF.out
    rw [<- e1]
    obtain ⟨p0,p1,p2,p3⟩:=put4c e1 r0 r1 r2 r3
    exact bodyPost_ret (v:=.tuple #[.agg #[.int .i64 3,.int .i64 PG,.int .i64 1,.int .u64 0],.int .i64 ((p:Int)+1+1+1+1)]) (by simp [results,Try.results78,go_sem,p0,p1,p2,p3]) rfl ⟨⟨3,PG,1,0⟩,⟨by dsimp only; omega,by dsimp only; omega,by dsimp only; omega,by dsimp only; omega⟩,rfl,HF.out⟩
  ·have h6b:decide (K < 6)=false:=by simpa using h6
   by_cases h8:K < 8
   ·have h8b:decide (K < 8)=true:=by simpa using h8
    have hn0:(N+1 == 0)=false:=by simp; omega
    obtain ⟨AX,hAX⟩:∃ AX,AX=A % (N+1):=⟨_,rfl⟩
    have eAX:A.tmod (N+1)=AX:=by rw [Int.tmod_eq_emod_of_nonneg bA0]; exact hAX.symm
    have b1:0<=AX/\AX < N+1:=by rw [hAX]; exact ⟨Int.emod_nonneg _ (by omega),Int.emod_lt_of_pos _ (by omega)⟩
    clear h3 h6 h8 hAX
    obtain ⟨_,⟨r0,r1,r2,r3⟩,f0,f1,f2,f3⟩:=HQ.out w5 HB5.out
    have HF:Hid (Below w.heap.size w ((((w5.setCell ⟨w.heap.size+1,0,none⟩ (.int .i64 4)).setCell ⟨w.heap.size+1,1,none⟩ (.int .i64 AX)).setCell ⟨w.heap.size+1,2,none⟩ (.int .i64 0)).setCell ⟨w.heap.size+1,3,none⟩ (.int .u64 0))):=hidP (((((HBB.out.trans (HB5.out.mono HZB.out)).setCell (by simp) _).setCell (by simp) _).setCell (by simp) _).setCell (by simp) _)
    obtain ⟨wF,hwF⟩:∃ wF,wF=((((w5.setCell ⟨w.heap.size+1,0,none⟩ (.int .i64 4)).setCell ⟨w.heap.size+1,1,none⟩ (.int .i64 AX)).setCell ⟨w.heap.size+1,2,none⟩ (.int .i64 0)).setCell ⟨w.heap.size+1,3,none⟩ (.int .u64 0)):=⟨_,rfl⟩
    rw [<- hwF] at HF
    have HWF:Hid (wF=_):=hwF
    clear hwF
    go_wp2_with fail
    have e1:=HWF.out
    rw [<- e1]
    obtain ⟨p0,p1,p2,p3⟩:=put4c e1 r0 r1 r2 r3
    exact bodyPost_ret (v:=.tuple #[.agg #[.int .i64 4,.int .i64 AX,.int .i64 0,.int .u64 0],.int .i64 ((p:Int)+1+1+1+1)]) (by simp [results,Try.results78,go_sem,p0,p1,p2,p3]) rfl ⟨⟨4,AX,0,0⟩,⟨by dsimp only; omega,by dsimp only; omega,by dsimp only; omega,by dsimp only; omega⟩,rfl,HF.out⟩
   ·have h8b:decide (K < 8)=false:=by simpa using h8
    by_cases h15:K=15
    ·have h15b:(K == 15)=true:=by simpa using h15
     obtain ⟨A6,hA6⟩:∃ A6,A6=A % 6:=⟨_,rfl⟩
     have eA6:A.tmod 6=A6:=by rw [Int.tmod_eq_emod_of_nonneg bA0]; exact hA6.symm
     obtain ⟨A3,hA3⟩:∃ A3,A3=A % 3:=⟨_,rfl⟩
     have eA3:A.tmod 3=A3:=by rw [Int.tmod_eq_emod_of_nonneg bA0]; exact hA3.symm
     obtain ⟨A2,hA2⟩:∃ A2,A2=A % 2:=⟨_,rfl⟩
     have eA2:A.tmod 2=A2:=by rw [Int.tmod_eq_emod_of_nonneg bA0]; exact hA2.symm
     have W2:IntKind.i64.wrap (PG * 2)=PG * 2:=by rw [IntKind.wrap_i64]; omega
     have W3:IntKind.i64.wrap (PG * 2 - 8)=PG * 2 - 8:=by rw [IntKind.wrap_i64]; omega
     have W4:IntKind.i64.wrap (A3 - 1)=A3 - 1:=by rw [IntKind.wrap_i64]; omega
     have b2:0<=A2/\A2 < 2:=by omega
     have W5:IntKind.u64.wrap A2=A2:=by rw [IntKind.wrap_u64]; omega
     have b6:0<=A6/\A6 < 6:=by omega
     have b3:0<=A3/\A3 < 3:=by omega
     clear h3 h6 h8 h15 hA6 hA3 hA2
     obtain ⟨_,⟨r0,r1,r2,r3⟩,f0,f1,f2,f3⟩:=HQ.out w5 HB5.out
     have HF:Hid (Below w.heap.size w ((((w5.setCell ⟨w.heap.size+1,0,none⟩ (.int .i64 A6)).setCell ⟨w.heap.size+1,1,none⟩ (.int .i64 (PG * 2 - 8))).setCell ⟨w.heap.size+1,2,none⟩ (.int .i64 (A3 - 1))).setCell ⟨w.heap.size+1,3,none⟩ (.int .u64 A2))):=hidP (((((HBB.out.trans (HB5.out.mono HZB.out)).setCell (by simp) _).setCell (by simp) _).setCell (by simp) _).setCell (by simp) _)
     obtain ⟨wF,hwF⟩:∃ wF,wF=((((w5.setCell ⟨w.heap.size+1,0,none⟩ (.int .i64 A6)).setCell ⟨w.heap.size+1,1,none⟩ (.int .i64 (PG * 2 - 8))).setCell ⟨w.heap.size+1,2,none⟩ (.int .i64 (A3 - 1))).setCell ⟨w.heap.size+1,3,none⟩ (.int .u64 A2)):=⟨_,rfl⟩
     rw [<- hwF] at HF
     have HWF:Hid (wF=_):=hwF
     clear hwF
     go_wp2_with fail
     have e1:=HWF.out
     rw [<- e1]
     obtain ⟨p0,p1,p2,p3⟩:=put4c e1 r0 r1 r2 r3
     exact bodyPost_ret (v:=.tuple #[.agg #[.int .i64 A6,.int .i64 (PG * 2 - 8),.int .i64 (A3 - 1),.int .u64 A2],.int .i64 ((p:Int)+1+1+1+1)]) (by simp [results,Try.results78,go_sem,p0,p1,p2,p3]) rfl ⟨⟨A6,(PG * 2 - 8),(A3 - 1),A2⟩,⟨by dsimp only; omega,by dsimp only; omega,by dsimp only; omega,by dsimp only; omega⟩,rfl,HF.out⟩
    ·have h15b:(K == 15)=false:=by simpa using h15
     have hNb:(N == 0)=false:=by simp; omega
     obtain ⟨⟨k0,k1,k2,k3⟩,_⟩:=HQ.out w5 HB5.out
     have tA:=HAD.out gm s.c1 M.mem w5 HOM.out (HCR.out w5 HB5.out)
     obtain ⟨bD0,bD1⟩:=HAB.out M.mem HOM.out.n0
     generalize addrD M.mem PG=AD at tA bD0 bD1
     clear h3 h6 h8 h15
     go_wp2_with fail
     refine tA.mono ?_
     rintro e w6 ⟨rfl,hb6'⟩
     have hB6:Below wb.heap.size wb w6:=HB5.out.trans (hb6'.mono HB5.out.size)
     have tV:=HVA.out w6 hB6
     obtain ⟨⟨k0,k1,k2,k3⟩,_⟩:=HQ.out w6 hB6
     have HB6:Hid (Below wb.heap.size wb w6):=hB6
     clear tA hb6' hB6
     go_wp2_with fail
     refine tV.mono ?_
     rintro e w7 ⟨rfl,hb7'⟩
     have hB7:Below wb.heap.size wb w7:=HB6.out.trans (hb7'.mono HB6.out.size)
     obtain ⟨⟨k0,k1,k2,k3⟩,_⟩:=HQ.out w7 hB7
     have HB7:Hid (Below wb.heap.size wb w7):=hB7
     clear tV hb7' hB7
     go_upto_if 95 with fail
     go_cut [13] (fun v wz=>∃ AD:Int,v=.int .i64 AD/\0<=AD/\AD < (M.mem.length:Int)/\Below wb.heap.size wb wz)
     case first =>
      cases V
      ·go_wp2_with fail
       go_meet
       case rel=>exact ⟨AD,rfl,bD0,bD1,HB7.out⟩
      ·obtain ⟨l1,l2,l3⟩:=HLA.out rfl
       have tL:=l3 w7 HB7.out
       have HL1:Hid (OkMem (lateL M)):=l1
       have HL2:Hid ((lateL M).length=M.mem.length):=l2
       clear l1 l2 l3
       go_wp2_with fail
       refine tL.mono ?_
       rintro e w8 ⟨gl,cl,rfl,hcl,hb8'⟩
       have hB8:Below wb.heap.size wb w8:=HB7.out.trans (hb8'.mono HB7.out.size)
       have tA:=HAD.out gl cl (lateL M) w8 HL1.out hcl
       rw [HL2.out] at tA
       obtain ⟨bE0,bE1⟩:=HAB.out (lateL M) HL1.out.n0
       rw [HL2.out] at bE1
       generalize addrD (lateL M) PG=AE at tA bE0 bE1
       have HB8:Hid (Below wb.heap.size wb w8):=hB8
       clear tL hb8' hB8 hcl
       go_wp2_with fail
       refine tA.mono ?_
       rintro e w9 ⟨rfl,hb9'⟩
       have HB9:Hid (Below wb.heap.size wb w9):=hidP (HB8.out.trans (hb9'.mono HB8.out.size))
       clear tA hb9'
       go_wp2_with fail
       go_meet
       case rel=>exact ⟨AE,rfl,bE0,bE1,HB9.out⟩
     case rest =>
      clear bD0 bD1 k0 k1 k2 k3
      obtain ⟨AD,rfl,bD0,bD1,hBc⟩:=hcut
      obtain ⟨⟨k0,k1,k2,k3⟩,_⟩:=HQ.out wc hBc
      have HBc:Hid (Below wb.heap.size wb wc):=hBc
      clear hBc
      go_upto_if 101 with fail
      go_cut [13] (fun v wz=>∃ AD:Int,v=.int .i64 AD/\0<=AD/\AD < (M.mem.length:Int)/\Below wb.heap.size wb wz)
      case first =>
       by_cases h8e:K=8
       ·have h8q:(K == 8)=true:=by simpa using h8e
        obtain ⟨PD,hPD⟩:∃ PD,PD=PG / 256:=⟨_,rfl⟩
        have ePD:PG.tdiv 256=PD:=by rw [Int.tdiv_eq_ediv_of_nonneg bP0]; exact hPD.symm
        have bQ:0<=PD/\PD < (M.mem.length:Int):=by omega
        have W2:IntKind.i64.wrap PD=PD:=by rw [IntKind.wrap_i64]; omega
        clear h8e hPD
        go_wp2_with fail
        go_meet
        case rel=>exact ⟨PD,rfl,bQ.1,bQ.2,HBc.out⟩
       ·have h8q:(K == 8)=false:=by simpa using h8e
        clear h8e
        go_wp2_with fail
        go_meet
        case rel=>exact ⟨AD,rfl,bD0,bD1,HBc.out⟩
      case rest =>
       clear bD0 bD1 k0 k1 k2 k3
       obtain ⟨AD,rfl,bD0,bD1,hBd⟩:=hcut
       obtain ⟨⟨k0,k1,k2,k3⟩,_⟩:=HQ.out _ hBd
       have HBd:Hid (Below wb.heap.size wb _):=hBd
       clear hBd
       go_upto_if 105 with fail
       go_cut [13] (fun v wz=>∃ AD:Int,v=.int .i64 AD/\0<=AD/\AD < (M.mem.length:Int)/\Below wb.heap.size wb wz)
       case first =>
        by_cases h9e:K=9
        ·have h9q:(K == 9)=true:=by simpa using h9e
         obtain ⟨PD,hPD⟩:∃ PD,PD=(AD+A) % (M.mem.length:Int):=⟨_,rfl⟩
         have W2:IntKind.i64.wrap (AD+A)=AD+A:=by rw [IntKind.wrap_i64]; omega
         have ePD:(AD+A).tmod (M.mem.length:Int)=PD:=by rw [Int.tmod_eq_emod_of_nonneg (by omega)]; exact hPD.symm
         have hl0:((M.mem.length:Int) == 0)=false:=beq_eq_false_iff_ne.2 (by omega)
         have bQ:0<=PD/\PD < (M.mem.length:Int):=by rw [hPD]; exact ⟨Int.emod_nonneg _ (by omega),Int.emod_lt_of_pos _ (by omega)⟩
         clear h9e hPD
         go_wp2_with fail
         go_meet
         case rel=>exact ⟨PD,rfl,bQ.1,bQ.2,HBd.out⟩
        ·have h9q:(K == 9)=false:=by simpa using h9e
         clear h9e
         go_wp2_with fail
         go_meet
         case rel=>exact ⟨AD,rfl,bD0,bD1,HBd.out⟩
       case rest =>
        clear bD0 bD1 k0 k1 k2 k3
        obtain ⟨AD0,rfl,bD0,bD1,hBe⟩:=hcut
        obtain ⟨AD,rfl⟩:=Int.eq_ofNat_of_zero_le bD0
        obtain ⟨⟨k0,k1,k2,k3⟩,_⟩:=HQ.out _ hBe
        obtain ⟨we,hwe⟩:∃ we,we=wc:=⟨_,rfl⟩
        have hcell:=(HCR.out _ hBe).cell (i:=AD) (by omega)
        have bW:=HOM.out.rng AD
        generalize M.mem.getD AD 0=WD at hcell bW
        have HBe:Hid (Below wb.heap.size wb _):=hBe
        have N6:w.heap.size+1 < wc.heap.size:=by have:=hBe.size; omega
        clear hBe hwe
        obtain ⟨A4,hA4⟩:∃ A4,A4=A % 4:=⟨_,rfl⟩
        have eA4:A.tmod 4=A4:=by rw [Int.tmod_eq_emod_of_nonneg bA0]; exact hA4.symm
        obtain ⟨A8,hA8⟩:∃ A8,A8=A % 8:=⟨_,rfl⟩
        have eA8:A.tmod 8=A8:=by rw [Int.tmod_eq_emod_of_nonneg bA0]; exact hA8.symm
        have hA43:(A4=0\/A4=3)\/A4=1\/(A4=2/\A8=2)\/(A4=2/\A8=6):=by omega
        have g2:(A8 == 2)=decide (A8=2):=by cases h:(A8 == 2) <;> simp_all
        rcases hA43 with h4 | h4 | ⟨h4,h8⟩ | ⟨h4,h8⟩
        ·have q2:(A8 == 2)=false:=by simp; omega
         have q1:(A4 == 1)=false:=by simp; omega
         obtain ⟨A7,hA7⟩:∃ A7,A7=A % 7:=⟨_,rfl⟩
         have eA7:A.tmod 7=A7:=by rw [Int.tmod_eq_emod_of_nonneg bA0]; exact hA7.symm
         have W2:IntKind.i64.wrap (A * 7)=A * 7:=by rw [IntKind.wrap_i64]; omega
         have W3:IntKind.i64.wrap (A7+1)=A7+1:=by rw [IntKind.wrap_i64]; omega
         have tE:=HEN.out 3 3 (A * 7) (A7+1) wc
         obtain ⟨bE0,bE1⟩:=encI_bd 3 3 (A * 7) (A7+1)
         generalize encI 3 3 (A * 7) (A7+1)=EV at tE bE0 bE1
         clear hA4 hA8 hA7 g2
         rcases h4 with h4 | h4
         ·have q0:(A4 == 0)=true:=by simpa using h4
          clear h4
          go_wp2_with fail
          refine tE.mono ?_
          rintro e w9 ⟨rfl,hb9'⟩
          have HB9:Hid (Below wb.heap.size wb w9):=hidP (HBe.out.trans (hb9'.mono HBe.out.size))
          have N7:=hb9'.size
          clear tE hb9'
          obtain ⟨_,⟨r0,r1,r2,r3⟩,f0,f1,f2,f3⟩:=HQ.out w9 HB9.out
          have HF:Hid (Below w.heap.size w ((((w9.setCell ⟨w.heap.size+1,0,none⟩ (.int .i64 1)).setCell ⟨w.heap.size+1,1,none⟩ (.int .i64 (AD:Int))).setCell ⟨w.heap.size+1,2,none⟩ (.int .i64 0)).setCell ⟨w.heap.size+1,3,none⟩ (.int .u64 EV))):=hidP (((((HBB.out.trans (HB9.out.mono HZB.out)).setCell (by simp) _).setCell (by simp) _).setCell (by simp) _).setCell (by simp) _)
          obtain ⟨wF,hwF⟩:∃ wF,wF=((((w9.setCell ⟨w.heap.size+1,0,none⟩ (.int .i64 1)).setCell ⟨w.heap.size+1,1,none⟩ (.int .i64 (AD:Int))).setCell ⟨w.heap.size+1,2,none⟩ (.int .i64 0)).setCell ⟨w.heap.size+1,3,none⟩ (.int .u64 EV)):=⟨_,rfl⟩
          rw [<- hwF] at HF
          have HWF:Hid (wF=_):=hwF
          clear hwF
          go_wp2_with fail
          have e1:=HWF.out
          rw [<- e1]
          obtain ⟨p0,p1,p2,p3⟩:=put4c e1 r0 r1 r2 r3
          exact bodyPost_ret (v:=.tuple #[.agg #[.int .i64 1,.int .i64 (AD:Int),.int .i64 0,.int .u64 EV],.int .i64 ((p:Int)+1+1+1+1)]) (by simp [results,Try.results78,go_sem,p0,p1,p2,p3]) rfl ⟨⟨1,(AD:Int),0,EV⟩,⟨by dsimp only; omega,by dsimp only; omega,by dsimp only; omega,by dsimp only; omega⟩,rfl,HF.out⟩
         ·have q0:(A4 == 0)=false:=by simp; omega
          have q3:(A4 == 3)=true:=by simpa using h4
          clear h4
          go_wp2_with fail
          refine tE.mono ?_
          rintro e w9 ⟨rfl,hb9'⟩
          have HB9:Hid (Below wb.heap.size wb w9):=hidP (HBe.out.trans (hb9'.mono HBe.out.size))
          have N7:=hb9'.size
          clear tE hb9'
          obtain ⟨_,⟨r0,r1,r2,r3⟩,f0,f1,f2,f3⟩:=HQ.out w9 HB9.out
          have HF:Hid (Below w.heap.size w ((((w9.setCell ⟨w.heap.size+1,0,none⟩ (.int .i64 1)).setCell ⟨w.heap.size+1,1,none⟩ (.int .i64 (AD:Int))).setCell ⟨w.heap.size+1,2,none⟩ (.int .i64 0)).setCell ⟨w.heap.size+1,3,none⟩ (.int .u64 EV))):=hidP (((((HBB.out.trans (HB9.out.mono HZB.out)).setCell (by simp) _).setCell (by simp) _).setCell (by simp) _).setCell (by simp) _)
          obtain ⟨wF,hwF⟩:∃ wF,wF=((((w9.setCell ⟨w.heap.size+1,0,none⟩ (.int .i64 1)).setCell ⟨w.heap.size+1,1,none⟩ (.int .i64 (AD:Int))).setCell ⟨w.heap.size+1,2,none⟩ (.int .i64 0)).setCell ⟨w.heap.size+1,3,none⟩ (.int .u64 EV)):=⟨_,rfl⟩
          rw [<- hwF] at HF
          have HWF:Hid (wF=_):=hwF
          clear hwF
          go_wp2_with fail
          have e1:=HWF.out
          rw [<- e1]
          obtain ⟨p0,p1,p2,p3⟩:=put4c e1 r0 r1 r2 r3
          exact bodyPost_ret (v:=.tuple #[.agg #[.int .i64 1,.int .i64 (AD:Int),.int .i64 0,.int .u64 EV],.int .i64 ((p:Int)+1+1+1+1)]) (by simp [results,Try.results78,go_sem,p0,p1,p2,p3]) rfl ⟨⟨1,(AD:Int),0,EV⟩,⟨by dsimp only; omega,by dsimp only; omega,by dsimp only; omega,by dsimp only; omega⟩,rfl,HF.out⟩
        ·have q0:(A4 == 0)=false:=by simp; omega
         have q3:(A4 == 3)=false:=by simp; omega
         have q1:(A4 == 1)=true:=by simpa using h4
         have q2:(A8 == 2)=false:=by simp; omega
         have L0:(0:Int)<=(AD:Int):=by omega
         obtain ⟨bE0,bE1⟩:=bW
         clear hA4 hA8 h4 g2
         obtain ⟨_,⟨r0,r1,r2,r3⟩,f0,f1,f2,f3⟩:=HQ.out wc HBe.out
         have HF:Hid (Below w.heap.size w ((((wc.setCell ⟨w.heap.size+1,0,none⟩ (.int .i64 1)).setCell ⟨w.heap.size+1,1,none⟩ (.int .i64 (AD:Int))).setCell ⟨w.heap.size+1,2,none⟩ (.int .i64 0)).setCell ⟨w.heap.size+1,3,none⟩ (.int .u64 WD))):=hidP (((((HBB.out.trans (HBe.out.mono HZB.out)).setCell (by simp) _).setCell (by simp) _).setCell (by simp) _).setCell (by simp) _)
         obtain ⟨wF,hwF⟩:∃ wF,wF=((((wc.setCell ⟨w.heap.size+1,0,none⟩ (.int .i64 1)).setCell ⟨w.heap.size+1,1,none⟩ (.int .i64 (AD:Int))).setCell ⟨w.heap.size+1,2,none⟩ (.int .i64 0)).setCell ⟨w.heap.size+1,3,none⟩ (.int .u64 WD)):=⟨_,rfl⟩
         rw [<- hwF] at HF
         have HWF:Hid (wF=_):=hwF
         clear hwF
         go_wp2_with fail
         have e1:=HWF.out
         rw [<- e1]
         obtain ⟨p0,p1,p2,p3⟩:=put4c e1 r0 r1 r2 r3
         exact bodyPost_ret (v:=.tuple #[.agg #[.int .i64 1,.int .i64 (AD:Int),.int .i64 0,.int .u64 WD],.int .i64 ((p:Int)+1+1+1+1)]) (by simp [results,Try.results78,go_sem,p0,p1,p2,p3]) rfl ⟨⟨1,(AD:Int),0,WD⟩,⟨by dsimp only; omega,by dsimp only; omega,by dsimp only; omega,by dsimp only; omega⟩,rfl,HF.out⟩
        ·have q0:(A4 == 0)=false:=by simp; omega
         have q3:(A4 == 3)=false:=by simp; omega
         have q1:(A4 == 1)=false:=by simp; omega
         have q2:(A8 == 2)=true:=by simpa using h8
         have hNb2:(N == 0)=false:=hNb
         obtain ⟨AX,hAX⟩:∃ AX,AX=A % N:=⟨_,rfl⟩
         have eAX:A.tmod N=AX:=by rw [Int.tmod_eq_emod_of_nonneg bA0]; exact hAX.symm
         have tE:=HEN.out 2 1 AX 0 wc
         obtain ⟨bE0,bE1⟩:=encI_bd 2 1 AX 0
         generalize encI 2 1 AX 0=EV at tE bE0 bE1
         clear hA4 hA8 hAX h4 h8 g2
         go_wp2_with fail
         refine tE.mono ?_
         rintro e w9 ⟨rfl,hb9'⟩
         have HB9:Hid (Below wb.heap.size wb w9):=hidP (HBe.out.trans (hb9'.mono HBe.out.size))
         have N7:=hb9'.size
         clear tE hb9'
         obtain ⟨_,⟨r0,r1,r2,r3⟩,f0,f1,f2,f3⟩:=HQ.out w9 HB9.out
         have HF:Hid (Below w.heap.size w ((((w9.setCell ⟨w.heap.size+1,0,none⟩ (.int .i64 1)).setCell ⟨w.heap.size+1,1,none⟩ (.int .i64 (AD:Int))).setCell ⟨w.heap.size+1,2,none⟩ (.int .i64 0)).setCell ⟨w.heap.size+1,3,none⟩ (.int .u64 EV))):=hidP (((((HBB.out.trans (HB9.out.mono HZB.out)).setCell (by simp) _).setCell (by simp) _).setCell (by simp) _).setCell (by simp) _)
         obtain ⟨wF,hwF⟩:∃ wF,wF=((((w9.setCell ⟨w.heap.size+1,0,none⟩ (.int .i64 1)).setCell ⟨w.heap.size+1,1,none⟩ (.int .i64 (AD:Int))).setCell ⟨w.heap.size+1,2,none⟩ (.int .i64 0)).setCell ⟨w.heap.size+1,3,none⟩ (.int .u64 EV)):=⟨_,rfl⟩
         rw [<- hwF] at HF
         have HWF:Hid (wF=_):=hwF
         clear hwF
         go_wp2_with fail
         have e1:=HWF.out
         rw [<- e1]
         obtain ⟨p0,p1,p2,p3⟩:=put4c e1 r0 r1 r2 r3
         exact bodyPost_ret (v:=.tuple #[.agg #[.int .i64 1,.int .i64 (AD:Int),.int .i64 0,.int .u64 EV],.int .i64 ((p:Int)+1+1+1+1)]) (by simp [results,Try.results78,go_sem,p0,p1,p2,p3]) rfl ⟨⟨1,(AD:Int),0,EV⟩,⟨by dsimp only; omega,by dsimp only; omega,by dsimp only; omega,by dsimp only; omega⟩,rfl,HF.out⟩
        ·have q0:(A4 == 0)=false:=by simp; omega
         have q3:(A4 == 3)=false:=by simp; omega
         have q1:(A4 == 1)=false:=by simp; omega
         have q2:(A8 == 2)=false:=by simp; omega
         clear hA4 hA8 h4 h8 g2
         obtain ⟨_,⟨r0,r1,r2,r3⟩,f0,f1,f2,f3⟩:=HQ.out wc HBe.out
         have HF:Hid (Below w.heap.size w ((((wc.setCell ⟨w.heap.size+1,0,none⟩ (.int .i64 1)).setCell ⟨w.heap.size+1,1,none⟩ (.int .i64 (AD:Int))).setCell ⟨w.heap.size+1,2,none⟩ (.int .i64 0)).setCell ⟨w.heap.size+1,3,none⟩ (.int .u64 0))):=hidP (((((HBB.out.trans (HBe.out.mono HZB.out)).setCell (by simp) _).setCell (by simp) _).setCell (by simp) _).setCell (by simp) _)
         obtain ⟨wF,hwF⟩:∃ wF,wF=((((wc.setCell ⟨w.heap.size+1,0,none⟩ (.int .i64 1)).setCell ⟨w.heap.size+1,1,none⟩ (.int .i64 (AD:Int))).setCell ⟨w.heap.size+1,2,none⟩ (.int .i64 0)).setCell ⟨w.heap.size+1,3,none⟩ (.int .u64 0)):=⟨_,rfl⟩
         rw [<- hwF] at HF
         have HWF:Hid (wF=_):=hwF
         clear hwF
         go_wp2_with fail
         have e1:=HWF.out
         rw [<- e1]
         obtain ⟨p0,p1,p2,p3⟩:=put4c e1 r0 r1 r2 r3
         exact bodyPost_ret (v:=.tuple #[.agg #[.int .i64 1,.int .i64 (AD:Int),.int .i64 0,.int .u64 0],.int .i64 ((p:Int)+1+1+1+1)]) (by simp [results,Try.results78,go_sem,p0,p1,p2,p3]) rfl ⟨⟨1,(AD:Int),0,0⟩,⟨by dsimp only; omega,by dsimp only; omega,by dsimp only; omega,by dsimp only; omega⟩,rfl,HF.out⟩
end Go.Proofs.Ytnmhkgmmpkjjeaa
