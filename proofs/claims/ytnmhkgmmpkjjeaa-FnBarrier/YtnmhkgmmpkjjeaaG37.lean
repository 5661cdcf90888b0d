import Derived.Test.YtnmhkgmmpkjjeaaG35
import Derived.Test.YtnmhkgmmpkjjeaaG36
namespace Go.Proofs.Ytnmhkgmmpkjjeaa
open Go.ChangeShapes Go.WideShapes Go.ChangeAt Go.RowKit
set_option linter.unusedVariables false
set_option maxRecDepth 100000
attribute [local go_sem ↓] Go.wp_at_zero Go.wp_at_succ
set_option maxHeartbeats 8000000 in
theorem drawMach_any (a:Option Addr) (cap:Nat) (cs:List Int) (p:Nat) (w:World) (hc:Byt cs) (hp:p<=90000) (hs:BAt w a cs) :
  Calls Try.prog 76 #[.slice a cs.length cap,.int .i64 (p:Int)] w fun e w'=>∃ s:SV,e=.returned (.tuple #[.agg #[.slice s.a1 (drawMa cs p).1.mem.length s.c1,.slice s.a2 (drawMa cs p).1.pend.length s.c2,.slice s.a3 (drawMa cs p).1.tlb.length s.c3,.slice s.a4 (drawMa cs p).1.wc.length s.c4],.int .i64 ((drawMa cs p).2:Int)])/\MRow w' w.heap.size (s.mv (drawMa cs p).1) (drawMa cs p).1/\Below w.heap.size w w':=by
 obtain ⟨iP,hiP,hp0,hp1,hp2⟩:=info_parts infoWrite
 obtain ⟨wb,hwb⟩:∃ wb,wb=w.alloc (.cells #[.slice none 0 0,.slice none 0 0,.slice none 0 0,.slice none 0 0] 38):=⟨_,rfl⟩
 have hbb:Below w.heap.size w wb:=by rw [hwb]; exact bal
 have hzb:wb.heap.size=w.heap.size+1:=by rw [hwb]; simp
 have HQ:Hid (∀ wX,Below wb.heap.size wb wX->(wX.cell? ⟨w.heap.size,0,none⟩=some (.slice none 0 0)/\wX.cell? ⟨w.heap.size,1,none⟩=some (.slice none 0 0)/\wX.cell? ⟨w.heap.size,2,none⟩=some (.slice none 0 0)/\wX.cell? ⟨w.heap.size,3,none⟩=some (.slice none 0 0))/\wX.frozen? ⟨w.heap.size,0,none⟩=false/\wX.frozen? ⟨w.heap.size,1,none⟩=false/\wX.frozen? ⟨w.heap.size,2,none⟩=false/\wX.frozen? ⟨w.heap.size,3,none⟩=false):=hidP fun wX hX=>by
  refine ⟨⟨?_,?_,?_,?_⟩,?_,?_,?_,?_⟩
  iterate 4 (exact (hX.cell (by simp; omega)).trans (by rw [hwb]; simp [go_sem]))
  iterate 4 (exact (hX.frozen (by simp; omega)).trans (by rw [hwb]; simp [go_sem]))
 have t1:=drawMem_any a cap cs p wb hc hp (hs.below hbb)
 obtain ⟨ho1,ho2,ho3⟩:=drawM_ok cs p hc hp
 have HTK:Hid (∀ (P:Nat) (n:Int) wX,P<=1000000->n<=1000000->Below wb.heap.size wb wX->Calls Try.prog 37 #[.slice a cs.length cap,.int .i64 (P:Int),.int .i64 n] wX fun e w'=>e=.returned (.tuple #[.int .i64 (tkV cs P n),.int .i64 ((P:Int)+1)])/\Below wX.heap.size wX w'):=hidP fun P n wX h1 h2 hX=>take_any a cap cs P n wX hc h1 h2 (hs.below (hbb.trans (hX.mono (by omega))))
 have HPG:Hid (∀ (P g c:Nat) wX,P<=900000->CRow wX g (drawM cs p).1->Below wb.heap.size wb wX->Calls Try.prog 139 #[.slice a cs.length cap,.int .i64 (P:Int),.agg #[.slice (some ⟨g,0,none⟩) (drawM cs p).1.length c]] wX fun e w'=>e=.returned (.tuple #[.int .i64 (pageD cs P (drawM cs p).1),.int .i64 ((P:Int)+1+1)])/\Below wX.heap.size wX w'):=hidP fun P g c wX h1 h2 hX=>drawPage_any a cap cs P g c (drawM cs p).1 wX hc h1 (hs.below (hbb.trans (hX.mono (by omega)))) h2 (by omega) ho1
 have HSZ:Hid (∀ wX,Calls Try.prog 138 #[.slice a cs.length cap,.int .i64 8,.int .i64 3,.int .i64 12] wX fun e w'=>e=.returned (.int .i64 (dmN cs:Int))/\Below wX.heap.size wX w'):=hidP fun wX=>by
  have h:=size_any a cap cs 8 3 12 wX hc.1 (by omega) (by omega) (by omega)
  have e:(if (12:Int) < 3+(cs.length:Int) / 8 then 12 else 3+(cs.length:Int) / 8)=(dmN cs:Int):=by unfold dmN; split <;> split <;> omega
  rw [e] at h
  exact h
 have HFR:Hid (∀ g c wX,Calls Try.prog 39 #[.agg #[.slice g (drawM cs p).1.length c]] wX fun e w'=>e=.returned (.int .i64 (nfr (drawM cs p).1.length))/\Below wX.heap.size wX w'):=hidP fun g c wX=>frames_any g (drawM cs p).1.length c (by omega) wX
 have HOK:Hid (nfr (drawM cs p).1.length ≠ 0->∀ k,k<=1000->VM (dmS cs (drawM cs p).1 (drawM cs p).2 k)/\(dmS cs (drawM cs p).1 (drawM cs p).2 k).mem=(drawM cs p).1/\(dmS cs (drawM cs p).1 (drawM cs p).2 k).pend.length<=k):=hidP fun hn=>dmS_ok cs _ _ hc (by omega) hn ho1
 have HBD:Hid ((∀ (P:Nat) (n:Int),1<=n->P<=1000000->0<=tkV cs P n/\tkV cs P n < n)/\(∀ P:Nat,P<=900000->0<=pageD cs P (drawM cs p).1/\pageD cs P (drawM cs p).1 < 4096)):=hidP ⟨fun P n h1 h2=>tkV_bd cs P n h1 hc h2,fun P h1=>pageD_bd cs P _ hc h1⟩
 have HD:Hid (drawMa cs p=if nfr (drawM cs p).1.length=0 then (⟨(drawM cs p).1,[],[],[]⟩,(drawM cs p).2) else (dmS cs (drawM cs p).1 (drawM cs p).2 (dmN cs),(drawM cs p).2+4 * dmN cs)):=hidP rfl
 have hN:=dmN_bd cs
 generalize drawMa cs p=R at *
 generalize drawM cs p=D at *
 obtain ⟨zs,q⟩:=D
 dsimp only at *
 generalize hNN:dmN cs=N at *
 have HWB:Hid (wb=_):=hwb
 have HBB:Hid (Below w.heap.size w wb):=hbb
 rw [hwb] at t1
 clear hc hs hwb hbb ho1
 go_enter Try.func76,Try.ntmps76
 go_wp2_with fail
 refine t1.mono ?_
 rintro e w2 ⟨g2,c2,rfl,hrow2',hb2'⟩
 have hb2:Below wb.heap.size wb w2:=by rw [HWB.out]; exact hb2'
 have hrow2:ERow eWord w2 wb.heap.size (.slice (some ⟨g2,0,none⟩) zs.length c2) zs:=by rw [HWB.out]; exact hrow2'
 have s2:=hb2.size
 obtain ⟨hgo,hgl⟩:=hrow2.own g2 rfl
 obtain ⟨w3,hw3⟩:∃ w3,w3=w2.alloc (.cells #[.slice (some ⟨g2,0,none⟩) zs.length c2] 25):=⟨_,rfl⟩
 have z3:w3.heap.size=w2.heap.size+1:=by rw [hw3]; simp
 have hb3:Below w2.heap.size w2 w3:=by rw [hw3]; exact bal
 have hrow3:ERow eWord w3 wb.heap.size (.slice (some ⟨g2,0,none⟩) zs.length c2) zs:=hrow2.below hb3
 have hc3:w3.cell? ⟨w2.heap.size,0,none⟩=some (.slice (some ⟨g2,0,none⟩) zs.length c2):=by rw [hw3]; simp [go_sem]
 obtain ⟨w4,hw4⟩:∃ w4,w4=w3.alloc (.cells #[.slice (some ⟨g2,0,none⟩) zs.length c2,.slice none 0 0,.slice none 0 0,.slice none 0 0] 38):=⟨_,rfl⟩
 have hb4:Below w3.heap.size w3 w4:=by rw [hw4]; exact bal
 have z4:w4.heap.size=w2.heap.size+2:=by rw [hw4]; simp [z3]
 have hd4:DMS w3 w4 w3.heap.size w3.heap.size wb.heap.size (fun k=>k=g2) ⟨some ⟨g2,0,none⟩,c2,none,0,none,0,none,0⟩ ⟨zs,[],[],[]⟩:=by
  refine ⟨?_,?_,?_,?_,fun i hi=>?_,⟨hrow3.below hb4,ERow.nilz _ _ _,ERow.nilz _ _ _,ERow.nilz _ _ _⟩,fun k hk=>?_,hb4,by rw [z4,z3]; omega,Nat.le_refl _,Nat.le_refl _,fun k hk=>?_⟩
  iterate 4 (rw [hw4]; simp [go_sem])
  ·rcases (show i=0\/i=1\/i=2\/i=3 by omega) with rfl | rfl | rfl | rfl <;> (rw [hw4]; simp [go_sem])
  ·rcases hk with hk | hk | hk | hk
   ·left
    have:g2=k:=by simpa [SV.mv,Value.ownBlock] using hk
    exact this.symm
   ·cases hk
   ·cases hk
   ·cases hk
  ·subst hk
   refine ⟨by omega,fun T cur hT=>?_⟩
   obtain ⟨c,hcc⟩:=hrow3.typ (k:=k) rfl
   rw [hcc] at hT
   injection hT with e3
   injection e3 with _ e4
   exact e4.symm
 have HW4:Hid (w4=(w2.alloc (.cells #[.slice (some ⟨g2,0,none⟩) zs.length c2] 25)).alloc (.cells #[.slice (some ⟨g2,0,none⟩) zs.length c2,.slice none 0 0,.slice none 0 0,.slice none 0 0] 38)):=hidP (by rw [hw4,hw3])
 have HB3:Hid (Below wb.heap.size wb w3):=hidP (hb2.trans (hb3.mono s2))
 have HK:Hid (∀ {s M wX},DMS w3 wX w3.heap.size w3.heap.size wb.heap.size (fun k=>k=g2) s M->Below wb.heap.size wb wX/\wX.cell? ⟨w2.heap.size,0,none⟩=some (.slice (some ⟨g2,0,none⟩) zs.length c2)/\CRow wX g2 zs):=hidP fun hX=>by
  refine ⟨HB3.out.trans (hX.bel.mono (by omega)),(hX.bel.cell (by simp; omega)).trans hc3,?_⟩
  have h5:ERow eWord w3 wb.heap.size (.slice (some ⟨g2,0,none⟩) zs.length c2) zs:=hrow3
  obtain ⟨aa,cc,ee,hf⟩:=eWord_form h5
  refine ⟨Nat.lt_of_lt_of_le (show g2 < w3.heap.size by omega) hX.bel.size,fun i hi=>?_⟩
  obtain ⟨g',NN,f,rfl,_,hrr,hNN,hff⟩:=hf (by omega)
  simp only [Value.slice.injEq,Option.some.injEq,Addr.mk.injEq,and_true] at ee
  rw [ee.1]
  have:=(hrr.of_block (hX.bel.block g' (by omega))).cell (i:=i) (by omega)
  rw [hff i hi] at this
  exact this
 have HFIN:Hid (∀ (s:SV) (M:Mach) (wX:World),DMS w3 wX w3.heap.size w3.heap.size wb.heap.size (fun k=>k=g2) s M->∃ wF,wF=((((wX.setCell ⟨w.heap.size,0,none⟩ (.slice s.a1 M.mem.length s.c1)).setCell ⟨w.heap.size,1,none⟩ (.slice s.a2 M.pend.length s.c2)).setCell ⟨w.heap.size,2,none⟩ (.slice s.a3 M.tlb.length s.c3)).setCell ⟨w.heap.size,3,none⟩ (.slice s.a4 M.wc.length s.c4))/\MRow wF w.heap.size (s.mv M) M/\Below w.heap.size w wF):=hidP fun s M wX hX=>by
  obtain ⟨hB,_⟩:=HK.out hX
  refine ⟨_,rfl,?_,?_⟩
  ·refine MRow.rebase (base:=wb.heap.size) (hX.row.touch (S:=fun k=>k=w.heap.size) ⟨rfl,rfl,rfl,by simp,fun k hk hn=>?_⟩ (fun k hk e=>?_)) (by omega)
   ·rw [Below.heap_setCell _ _ _ _ hn,Below.heap_setCell _ _ _ _ hn,Below.heap_setCell _ _ _ _ hn,Below.heap_setCell _ _ _ _ hn]
   ·have:=(hX.row.own k hk).1
    omega
  ·have h:=HBB.out.trans (hB.mono (by omega))
   exact (((h.setCell (by simp) _).setCell (by simp) _).setCell (by simp) _).setCell (by simp) _
 have hfr:=HFR.out (some ⟨g2,0,none⟩) c2 w4
 have N1:w2.heap.size < w4.heap.size:=by omega
 have N2:w3.heap.size < w4.heap.size:=by omega
 have N3:w.heap.size < w2.heap.size:=by omega
 have HD4:Hid (DMS _ _ _ _ _ _ _ _):=hd4
 have HZ3:Hid (w3.heap.size=w2.heap.size+1):=z3
 rw [HW4.out] at hfr
 clear t1 hb2' hrow2' hb2 hrow2 hw3 hb3 hrow3 hc3 hw4 hb4 hd4
 go_wp2_with fail
 refine hfr.mono ?_
 rintro e w5 ⟨rfl,hb5'⟩
 have hb5:Below w4.heap.size w4 w5:=by rw [HW4.out]; exact hb5'
 have hd5:=HD4.out.below hb5
 have HD5:Hid (DMS _ _ _ _ _ _ _ _):=hd5
 obtain ⟨hB5,m0,_⟩:=HK.out hd5
 obtain ⟨⟨r0,r1,r2,r3⟩,f0,f1,f2,f3⟩:=HQ.out w5 hB5
 have k0:=hd5.c0
 have k1:=hd5.c1
 have k2:=hd5.c2
 have k3:=hd5.c3
 rw [HZ3.out] at k0 k1 k2 k3
 dsimp only [List.length_nil] at k0 k1 k2 k3
 have s5:=hb5.size
 clear hb5' hfr hb5 hd5 hB5
 by_cases hn0:nfr zs.length=0
 ·have hn0b:(nfr zs.length == 0)=true:=by simpa using hn0
  have HR:Hid (R=(⟨zs,[],[],[]⟩,q)):=hidP (by rw [HD.out,if_pos hn0])
  obtain ⟨wF,hwF,hm,hb⟩:=HFIN.out _ _ w5 HD5.out
  have HM:Hid (MRow _ _ _ _):=hm
  have HB:Hid (Below _ w wF):=hb
  have HWF:Hid (wF=_):=hwF
  clear hn0 HD hm hb hwF
  go_wp2_with fail
  rw [HR.out]
  have e1:=HWF.out
  dsimp only [List.length_nil] at e1
  rw [<- e1]
  obtain ⟨p0,p1,p2,p3⟩:=put4c e1 r0 r1 r2 r3
  exact bodyPost_ret (v:=.tuple #[.agg #[.slice (some ⟨g2,0,none⟩) zs.length c2,.slice none 0 0,.slice none 0 0,.slice none 0 0],.int .i64 (q:Int)]) (by simp [results,Try.results76,go_sem,p0,p1,p2,p3]) rfl ⟨⟨some ⟨g2,0,none⟩,c2,none,0,none,0,none,0⟩,rfl,HM.out,HB.out⟩
 ·have hn0b:(nfr zs.length == 0)=false:=by simpa using hn0
  have HR:Hid (R=(dmS cs zs q N,q+4 * N)):=hidP (by rw [HD.out,if_neg hn0])
  have hok:=HOK.out hn0
  have HOK2:Hid (∀ k,k<=1000->VM (dmS cs zs q k)/\(dmS cs zs q k).mem=zs/\(dmS cs zs q k).pend.length<=k):=hok
  have hsz:=HSZ.out w5
  clear HD hok HOK k0 k1 k2 k3 r0 r1 r2 r3 f0 f1 f2 f3 m0
  go_wp2_with fail
  refine hsz.mono ?_
  rintro e w6 ⟨rfl,hb6⟩
  have HD6:Hid (DMS _ _ _ _ _ _ _ _):=hidP (HD5.out.below hb6)
  clear hb6 hsz
  go_wp2_with fail
  go_loopw [1,13] (fun pv iv wr=>∃ (k:Nat) (s:SV),k<=N/\pv=.int .i64 ((q+4 * k:Nat):Int)/\iv=.int .i64 (k:Int)/\DMS w3 wr w3.heap.size w3.heap.size wb.heap.size (fun k=>k=g2) s (dmS cs zs q k)) (fun _ iv _=>N - (intOf iv).toNat)
  case atStart=>exact ⟨0,_,by omega,rfl,rfl,HD6.out⟩
  case round =>
   obtain ⟨k,s,hk,rfl,rfl,hd⟩:=hrel
   by_cases hlt:k < N
   ·have K1:(k:Int) < (N:Int):=by omega
    obtain ⟨hvm,hmem,hpl⟩:=HOK2.out k (by omega)
    have HPN:Hid (((q+4 * (k+1):Nat):Int)=((q+4 * k:Nat):Int)+1+1+1+1):=hidP (by omega)
    have HST:Hid (dmS cs zs q (k+1)=dmStep (tkV cs (q+4 * k) 8) (pageD cs (q+4 * k+1) zs) (tkV cs (q+4 * k+3) 256) (dmS cs zs q k)):=hidP rfl
    generalize dmS cs zs q k=M at *
    have HVM:Hid (VM M):=hvm
    have HMEM:Hid (M.mem=zs):=hmem
    clear hvm hmem
    obtain ⟨P,hP⟩:∃ P,q+4 * k=P:=⟨_,rfl⟩
    have hPl:P<=100000:=by omega
    rw [hP] at HPN HST ⊢
    obtain ⟨bA0,bA1⟩:=HBD.out.1 P 8 (by omega) (by omega)
    obtain ⟨bC0,bC1⟩:=HBD.out.1 (P+3) 256 (by omega) (by omega)
    obtain ⟨bG0,bG1⟩:=HBD.out.2 (P+1) (by omega)
    obtain ⟨hBr,m0,hcr⟩:=HK.out hd
    have t1:=HTK.out P 8 wr (by omega) (by omega) hBr
    have HT2:Hid (∀ wX,CRow wX g2 zs->Below wb.heap.size wb wX->Calls Try.prog 139 #[.slice a cs.length cap,.int .i64 ((P:Int)+1),.agg #[.slice (some ⟨g2,0,none⟩) zs.length c2]] wX fun e w'=>e=.returned (.tuple #[.int .i64 (pageD cs (P+1) zs),.int .i64 ((P:Int)+1+1+1)])/\Below wX.heap.size wX w'):=hidP fun wX h1 h2=>HPG.out (P+1) g2 c2 wX (by omega) h1 h2
    have HT3:Hid (∀ wX,Below wb.heap.size wb wX->Calls Try.prog 37 #[.slice a cs.length cap,.int .i64 ((P:Int)+1+1+1),.int .i64 256] wX fun e w'=>e=.returned (.tuple #[.int .i64 (tkV cs (P+3) 256),.int .i64 ((P:Int)+1+1+1+1)])/\Below wX.heap.size wX w'):=hidP fun wX h1=>by
     have h:=HTK.out (P+3) 256 wX (by omega) (by omega) h1
     rw [show ((P+3:Nat):Int)=(P:Int)+1+1+1 by omega] at h
     exact h
    generalize tkV cs P 8=A at *
    generalize pageD cs (P+1) zs=PG at *
    generalize tkV cs (P+3) 256=C at *
    have HDr:Hid (DMS _ wr _ _ _ _ _ _):=hd
    clear hd hBr hcr hP
    go_wp2_with fail
    refine t1.mono ?_
    rintro e w7 ⟨rfl,hb7⟩
    have hd7:=HDr.out.below hb7
    obtain ⟨hB7,m7,hc7⟩:=HK.out hd7
    have t2:=HT2.out w7 hc7 hB7
    have HD7:Hid (DMS _ _ _ _ _ _ _ _):=hd7
    clear t1 hb7 hd7 hB7 hc7 m0
    go_wp2_with fail
    refine t2.mono ?_
    rintro e w8 ⟨rfl,hb8⟩
    have hd8:=HD7.out.below hb8
    obtain ⟨hB8,m8,hc8⟩:=HK.out hd8
    have t3:=HT3.out w8 hB8
    have HD8:Hid (DMS _ _ _ _ _ _ _ _):=hd8
    clear t2 hb8 hd8 hB8 hc8 m7
    go_wp2_with fail
    refine t3.mono ?_
    rintro e w9 ⟨rfl,hb9⟩
    have hd9:=HD8.out.below hb9
    obtain ⟨hB9,m9,hc9⟩:=HK.out hd9
    have HD9:Hid (DMS _ _ _ _ _ _ _ _):=hd9
    have k0:=hd9.c0
    have k1:=hd9.c1
    have k2:=hd9.c2
    have k3:=hd9.c3
    have fz0:=hd9.fz 0 (by omega)
    have fz1:=hd9.fz 1 (by omega)
    have fz2:=hd9.fz 2 (by omega)
    have fz3:=hd9.fz 3 (by omega)
    rw [HZ3.out] at k0 k1 k2 k3 fz0 fz1 fz2 fz3
    have l9:=hd9.lt
    rw [HZ3.out] at l9
    have hs9:=HVM.out.small
    have y2:=hs9.p
    have y3:=hs9.t
    have y4:=hs9.c
    clear t3 hb9 m8 hs9
    by_cases h5:A < 5
    ·have h5b:decide (A < 5)=true:=by simpa using h5
     have hwk:=lwalk_any s M wb.heap.size PG (chO C) w9 HVM.out.wok HVM.out.valid bG0 bG1 (chO_bd C bC0 bC1).1 (chO_bd C bC0 bC1).2 (by have:=hB9.size; omega) hd9.row
     have HVN:Hid (dmS cs zs q (k+1)=(walkM M PG (chO C)).1):=hidP (by rw [HST.out]; unfold dmStep; rw [if_pos h5])
     unfold chO at hwk
     have HCO:Hid (chO C=bits .or .i64 (bits .or .i64 C 64) 16):=hidP rfl
     rw [<- HCO.out] at hwk
     generalize hWR:walkM M PG (chO C)=WR at *
     rw [HCO.out] at hwk
     clear h5 hd9 hB9 hc9
     go_wp2_with fail
     refine hwk.mono ?_
     rintro e w10 ⟨s',rfl,hm10,ho10,hb10⟩
     have hdn:=HD9.out.swap hb10 hm10 ho10
     have hd10:=HD9.out.below hb10
     have q0:=hd10.c0
     have q1:=hd10.c1
     have q2:=hd10.c2
     have q3:=hd10.c3
     have e0:=hd10.fz 0 (by omega)
     have e1:=hd10.fz 1 (by omega)
     have e2:=hd10.fz 2 (by omega)
     have e3:=hd10.fz 3 (by omega)
     rw [HZ3.out] at q0 q1 q2 q3 e0 e1 e2 e3
     have HDN:Hid (DMS _ _ _ _ _ _ _ _):=hdn
     have e5:w3.heap.size=w2.heap.size+1:=HZ3.out
     clear hwk hm10 ho10 hb10 hdn hd10 k0 k1 k2 k3 fz0 fz1 fz2 fz3
     go_wp2_with fail
     go_roundw
     case rel=>exact ⟨k+1,s',by omega,by rw [HPN.out],by go_num,by rw [HVN.out,<- e5]; exact HDN.out⟩
     case measure=>first | (simp [intOf]; done) | (simp [intOf]; omega)
    ·have h5b:decide (A < 5)=false:=by simpa using h5
     by_cases h5e:A=5
     ·have h5q:(A == 5)=true:=by simpa using h5e
      have HVN0:Hid (dmS cs zs q (k+1)=⟨M.mem,M.pend ++ [pnD M PG C],M.tlb,M.wc⟩):=hidP (by rw [HST.out]; unfold dmStep; rw [if_neg h5,if_pos h5e])
      obtain ⟨gm,ea,hcm⟩:=MRow.memc hd9.row (by have:=nfr_mul _ HVM.out.n0; omega)
      have hadr:=addrS_any gm s.c1 M.mem PG w9 bG0 bG1 ⟨HVM.out.n0,HVM.out.wok.word⟩ hcm
      obtain ⟨bD0,bD1⟩:=addrD_bd M.mem PG bG0 bG1 HVM.out.n0
      generalize hAD:addrD M.mem PG=AD at hadr bD0 bD1
      have HAE:Hid (addrD M.mem PG=AD):=hAD
      have y1:=HVM.out.small.w
      have hml:0 < M.mem.length:=by have:=nfr_mul _ HVM.out.n0; omega
      rw [ea] at k0
      have HCM:Hid (CRow w9 gm M.mem):=hcm
      have HEA:Hid (s.a1=some ⟨gm,0,none⟩):=ea
      clear hd9 hB9 hc9 hAD ea hcm
      go_wp2_with fail
      refine hadr.mono ?_
      rintro e w10 ⟨rfl,hb10⟩
      have hdx:=HD9.out.below hb10
      have hcm:=HCM.out.below hb10 HCM.out.lt
      have k0:=hdx.c0
      have k1:=hdx.c1
      have fz1:=hdx.fz 1 (by omega)
      rw [HZ3.out] at k0 k1 fz1
      rw [HEA.out] at k0
      have l10:=hdx.lt
      rw [HZ3.out] at l10
      have HDX:Hid (DMS _ _ _ _ _ _ _ _):=hdx
      have W1:IntKind.i64.wrap (AD+C)=AD+C:=by rw [IntKind.wrap_i64]; omega
      clear hadr hb10 hdx
      by_cases hC:C % 2=0
      ·have eC:C.tmod 2=0:=by rw [Int.tmod_eq_emod_of_nonneg bC0]; exact hC
       obtain ⟨IX,hIX⟩:∃ IX:Nat,(IX:Int)=(AD+C) % (M.mem.length:Int):=⟨((AD+C) % (M.mem.length:Int)).toNat,Int.toNat_of_nonneg (Int.emod_nonneg (AD+C) (show (M.mem.length:Int) ≠ 0 by omega))⟩
       have hI2:(IX:Int) < (M.mem.length:Int):=by rw [hIX]; exact Int.emod_lt_of_pos _ (by omega)
       have eI:(AD+C).tmod (M.mem.length:Int)=(IX:Int):=by rw [Int.tmod_eq_emod_of_nonneg (by omega)]; exact hIX.symm
       have hl0:((M.mem.length:Int) == 0)=false:=beq_eq_false_iff_ne.2 (by omega)
       have hI0:(0:Int)<=(IX:Int):=by omega
       have hcell:=hcm.cell (i:=IX) (by omega)
       have HWD:Hid (M.mem.getD ((AD+C) % (M.mem.length:Int)).toNat 0=M.mem.getD IX 0):=hidP (by rw [<- hIX]; rfl)
       generalize M.mem.getD IX 0=WD at *
       clear hIX hcm
       have HPD:Hid (pnD M PG C=⟨AD,WD⟩):=hidP (by unfold pnD; rw [HAE.out,if_pos hC,HWD.out])
       have HYW:Hid (wb.heap.size<=w10.heap.size):=hidP (HK.out HDX.out).1.size
       go_wp2_with fail
       go_quiet (fail)
       have HDY:Hid (DMS _ (w10.drewN _) _ _ _ _ s M):=hidP (HDX.out.below (bDrewN (Below.refl _ _) nq))
       have HRD:Hid (ERow eWrite ((w10.drewN nq).alloc (.cells #[.int .i64 AD,.int .u64 WD] 147)) wb.heap.size (.slice s.a2 M.pend.length s.c2) M.pend):=hidP (HDY.out.row.p.below bal)
       have hyw:wb.heap.size<=(w10.drewN nq).heap.size:=HYW.out
       clear h5 h5e hC
       go_wp2_with (at_builtin; refine wpList_append_lies _ rfl (.tmp 94) (.tmp 98) 34 rfl wb.heap.size 147 iP _ 2 16 Try.underlying34 hiP hp0 hp1 hp2 rfl (by omega) _ _ _ rfl HRD.out ⟨_,0,none⟩ 1 1 [.int .i64 AD,.int .u64 WD] rfl rfl ?c1 ?c2 (by omega) ?c3 ?c4 ?c5 _ rfl ?_)
       case c1=>exact World.news_of_block (heap_alloc_new _ _)
       case c2=>intro u hu; simp at hu; rcases hu with rfl | rfl <;> rfl
       case c3=>unfold maxLen; first | omega | (simp; done) | (simp; omega)
       case c4=>first | omega | (simp; done) | (simp; omega)
       case c5=>first | omega | (simp; omega)
       intro gn cn wn hown hgrow hat hlt3
       rw [own_slice] at hgrow hat
       have hT:Touch (fun k'=>oOf s.a2=some k') (w10.drewN nq) wn:=(Touch.of_below (bal (w:=(w10.drewN nq)) (o:=.cells #[.int .i64 AD,.int .u64 WD] 147))).trans (Touch.of_grown hgrow (fun k' hk'=>hk'))
       have hnew:ERow eWrite wn wb.heap.size (.slice (some ⟨gn,0,none⟩) (M.pend ++ [(⟨AD,WD⟩:WriteE)]).length cn) (M.pend ++ [(⟨AD,WD⟩:WriteE)]):=by
        rw [List.length_append,List.length_singleton,hzb]
        exact erow_push rfl hown
       have hDN:=HDY.out.newP hT (some ⟨gn,0,none⟩) cn _ hnew (fun k' hk'=>by
        have e1:gn=k':=by simpa [oOf,Value.ownBlock] using hk'
        rw [<- e1]
        rcases hat with h' | h'
        ·exact .inl h'
        ·right
         first | omega | (show w10.heap.size<=gn; omega) | (simp at h'; omega))
       rw [List.length_append,List.length_singleton] at hDN
       have HDN:Hid (DMS _ _ _ _ _ _ _ _):=hDN
       have HVN:Hid (dmS cs zs q (k+1)=⟨M.mem,M.pend ++ [(⟨AD,WD⟩:WriteE)],M.tlb,M.wc⟩):=hidP (by rw [HVN0.out,HPD.out])
       obtain ⟨tc,tf,_,tl⟩:=HDY.out.tw hT (fun k' hk'=>HDY.out.far k' (.inl hk'))
       have x1:=(tc 1).trans HDY.out.c1
       have x2:=(tf 1).trans (HDY.out.fz 1 (by omega))
       rw [HZ3.out] at x1 x2 tl
       have e5:w3.heap.size=w2.heap.size+1:=HZ3.out
       clear hown hgrow hat hlt3 hT hnew hDN tc tf
       go_wp2_with fail
       go_roundw
       case rel=>exact ⟨k+1,_,by omega,by rw [HPN.out],by go_num,by rw [HVN.out,<- e5]; exact HDN.out⟩
       case measure=>first | (simp [intOf]; done) | (simp [intOf]; omega)
      ·obtain ⟨C2,hC2⟩:∃ C2,C2=C % 2:=⟨_,rfl⟩
       have eC:C.tmod 2=C2:=by rw [Int.tmod_eq_emod_of_nonneg bC0]; exact hC2.symm
       have hCb:(C2 == 0)=false:=by simp; omega
       have HPD:Hid (pnD M PG C=⟨AD,0⟩):=hidP (by unfold pnD; rw [HAE.out,if_neg hC])
       have HYW:Hid (wb.heap.size<=w10.heap.size):=hidP (HK.out HDX.out).1.size
       have HDY:Hid (DMS _ w10 _ _ _ _ s M):=HDX
       clear hC2 hcm
       have HRD:Hid (ERow eWrite (w10.alloc (.cells #[.int .i64 AD,.int .u64 0] 147)) wb.heap.size (.slice s.a2 M.pend.length s.c2) M.pend):=hidP (HDY.out.row.p.below bal)
       have hyw:wb.heap.size<=w10.heap.size:=HYW.out
       clear h5 h5e hC
       go_wp2_with (at_builtin; refine wpList_append_lies _ rfl (.tmp 94) (.tmp 98) 34 rfl wb.heap.size 147 iP _ 2 16 Try.underlying34 hiP hp0 hp1 hp2 rfl (by omega) _ _ _ rfl HRD.out ⟨_,0,none⟩ 1 1 [.int .i64 AD,.int .u64 0] rfl rfl ?c1 ?c2 (by omega) ?c3 ?c4 ?c5 _ rfl ?_)
       case c1=>exact World.news_of_block (heap_alloc_new _ _)
       case c2=>intro u hu; simp at hu; rcases hu with rfl | rfl <;> rfl
       case c3=>unfold maxLen; first | omega | (simp; done) | (simp; omega)
       case c4=>first | omega | (simp; done) | (simp; omega)
       case c5=>first | omega | (simp; omega)
       intro gn cn wn hown hgrow hat hlt3
       rw [own_slice] at hgrow hat
       have hT:Touch (fun k'=>oOf s.a2=some k') w10 wn:=(Touch.of_below (bal (w:=w10) (o:=.cells #[.int .i64 AD,.int .u64 0] 147))).trans (Touch.of_grown hgrow (fun k' hk'=>hk'))
       have hnew:ERow eWrite wn wb.heap.size (.slice (some ⟨gn,0,none⟩) (M.pend ++ [(⟨AD,0⟩:WriteE)]).length cn) (M.pend ++ [(⟨AD,0⟩:WriteE)]):=by
        rw [List.length_append,List.length_singleton,hzb]
        exact erow_push rfl hown
       have hDN:=HDY.out.newP hT (some ⟨gn,0,none⟩) cn _ hnew (fun k' hk'=>by
        have e1:gn=k':=by simpa [oOf,Value.ownBlock] using hk'
        rw [<- e1]
        rcases hat with h' | h'
        ·exact .inl h'
        ·right
         first | omega | (show w10.heap.size<=gn; omega) | (simp at h'; omega))
       rw [List.length_append,List.length_singleton] at hDN
       have HDN:Hid (DMS _ _ _ _ _ _ _ _):=hDN
       have HVN:Hid (dmS cs zs q (k+1)=⟨M.mem,M.pend ++ [(⟨AD,0⟩:WriteE)],M.tlb,M.wc⟩):=hidP (by rw [HVN0.out,HPD.out])
       obtain ⟨tc,tf,_,tl⟩:=HDY.out.tw hT (fun k' hk'=>HDY.out.far k' (.inl hk'))
       have x1:=(tc 1).trans HDY.out.c1
       have x2:=(tf 1).trans (HDY.out.fz 1 (by omega))
       rw [HZ3.out] at x1 x2 tl
       have e5:w3.heap.size=w2.heap.size+1:=HZ3.out
       clear hown hgrow hat hlt3 hT hnew hDN tc tf
       go_wp2_with fail
       go_roundw
       case rel=>exact ⟨k+1,_,by omega,by rw [HPN.out],by go_num,by rw [HVN.out,<- e5]; exact HDN.out⟩
       case measure=>first | (simp [intOf]; done) | (simp [intOf]; omega)
     ·have h5q:(A == 5)=false:=by simpa using h5e
      obtain ⟨A3,hA3⟩:∃ A3,A3=A % 3:=⟨_,rfl⟩
      obtain ⟨A2,hA2⟩:∃ A2,A2=A % 2:=⟨_,rfl⟩
      have eA3:A.tmod 3=A3:=by rw [Int.tmod_eq_emod_of_nonneg bA0]; exact hA3.symm
      have eA2:A.tmod 2=A2:=by rw [Int.tmod_eq_emod_of_nonneg bA0]; exact hA2.symm
      have HVN:Hid (dmS cs zs q (k+1)=⟨M.mem,M.pend,dmT A3 M.tlb M.tlb.length,dmW A2 M.wc M.wc.length⟩):=hidP (by rw [HST.out]; unfold dmStep; rw [if_neg h5,if_neg h5e,hA3,hA2])
      clear hA3 hA2 h5 h5e hd9 hB9 hc9
      go_wp2_with fail
      go_loopw [16] (fun jv wr=>∃ j:Nat,j<=M.tlb.length/\jv=.int .i64 (j:Int)/\DMS w3 wr w3.heap.size w3.heap.size wb.heap.size (fun k=>k=g2) s ⟨M.mem,M.pend,dmT A3 M.tlb j,M.wc⟩) (fun jv _=>M.tlb.length - (intOf jv).toNat)
      case atStart=>exact ⟨0,by omega,rfl,HD9.out⟩
      case round =>
       clear k0 k1 k2 k3 fz0 fz1 fz2 fz3 l9
       obtain ⟨j,hj,rfl,hdj⟩:=hrel
       have hTl:=(dmT_ok A3 M.tlb j hj).1
       have HTS:Hid (dmT A3 M.tlb (j+1)=if (j:Int) % 3=A3 then (dmT A3 M.tlb j).set j (dT1 (eAt eTlb (dmT A3 M.tlb j) j)) else dmT A3 M.tlb j):=hidP rfl
       obtain ⟨T,hT⟩:∃ T,dmT A3 M.tlb j=T:=⟨_,rfl⟩
       rw [hT] at hdj hTl HTS
       have HT:Hid (dmT A3 M.tlb j=T):=hT
       have k2:=hdj.c2
       have k3:=hdj.c3
       dsimp only at k2 k3
       rw [HZ3.out] at k2 k3
       rw [hTl] at k2
       have lj:=hdj.lt
       rw [HZ3.out] at lj
       have HDJ:Hid (DMS _ _ _ _ _ _ _ _):=hdj
       clear hT
       by_cases hjl:j < M.tlb.length
       ·have J1:(j:Int) < (M.tlb.length:Int):=by omega
        have J0:(0:Int)<=(j:Int):=by omega
        obtain ⟨J3,hJ3⟩:∃ J3,J3=(j:Int) % 3:=⟨_,rfl⟩
        have eJ3:(j:Int).tmod 3=J3:=by rw [Int.tmod_eq_emod_of_nonneg J0]; exact hJ3.symm
        rw [<- hJ3] at HTS
        clear hJ3
        by_cases hJ:J3=A3
        ·have hJb:(J3 == A3)=true:=by simpa using hJ
         obtain ⟨E0,hE⟩:∃ E0,eAt eTlb T j=E0:=⟨_,rfl⟩
         obtain ⟨P,S,O,R,D⟩:=E0
         have hrow:ERow eTlb wr wb.heap.size (.slice s.a3 T.length s.c3) T:=hdj.row.t
         obtain ⟨g,hg1,hg2⟩:=tlbS_cells hrow
         obtain ⟨hae,hgl⟩:=hg1 (by omega)
         obtain ⟨d0,d1,d2,d3,d4⟩:=hg2 j P S O R D (by omega) hE wr rfl
         rw [hae] at hrow k2
         have u0:=hrow.frz (j * 5)
         have u1:=hrow.frz (j * 5+1)
         have u2:=hrow.frz (j * 5+2)
         have u3:=hrow.frz (j * 5+3)
         have u4:=hrow.frz (j * 5+4)
         have HTN:Hid (dmT A3 M.tlb (j+1)=T.set j ⟨P,S,O,R,true⟩):=hidP (by rw [HTS.out,if_pos hJ,hE]; rfl)
         have hdn:=(DMS.inT (m:=j) ⟨P,S,O,R,true⟩ hdj (Below.refl _ _) hae (by show j < T.length; omega)).below (bal (o:=.cells #[.int .i64 P,.int .i64 S,.int .i64 O,.int .i64 R,.bool true] 72))
         have HDN:Hid (DMS _ _ _ _ _ _ _ _):=hdn
         clear hdn hdj hrow hg1 hg2 hae hE HTS
         go_wp2_with fail
         go_roundw
         case rel=>exact ⟨j+1,by omega,by go_num,by rw [HTN.out]; exact HDN.out⟩
         case measure=>first | (simp [intOf]; done) | (simp [intOf]; omega)
        ·have hJb:(J3 == A3)=false:=by simpa using hJ
         have HTN:Hid (dmT A3 M.tlb (j+1)=T):=hidP (by rw [HTS.out,if_neg hJ])
         clear hdj HTS
         go_wp2_with fail
         go_roundw
         case rel=>exact ⟨j+1,by omega,by go_num,by rw [HTN.out]; exact HDJ.out⟩
         case measure=>first | (simp [intOf]; done) | (simp [intOf]; omega)
       ·obtain rfl:j=M.tlb.length:=by omega
        have J1:¬ (M.tlb.length:Int) < (M.tlb.length:Int):=by omega
        clear hdj HTS hj hjl
        go_wp2_with fail
        go_loopw [18] (fun jv wr=>∃ j:Nat,j<=M.wc.length/\jv=.int .i64 (j:Int)/\DMS w3 wr w3.heap.size w3.heap.size wb.heap.size (fun k=>k=g2) s ⟨M.mem,M.pend,T,dmW A2 M.wc j⟩) (fun jv _=>M.wc.length - (intOf jv).toNat)
        case atStart=>exact ⟨0,by omega,rfl,HDJ.out⟩
        case round =>
         clear k2 k3 lj
         obtain ⟨j,hj,rfl,hdj⟩:=hrel
         have hTl:=(dmW_ok A2 0 M.wc j hj).1
         have HTS:Hid (dmW A2 M.wc (j+1)=if (j:Int) % 2=A2 then (dmW A2 M.wc j).set j (dW1 (eAt eWc (dmW A2 M.wc j) j)) else dmW A2 M.wc j):=hidP rfl
         obtain ⟨U,hU⟩:∃ U,dmW A2 M.wc j=U:=⟨_,rfl⟩
         rw [hU] at hdj hTl HTS
         have HU:Hid (dmW A2 M.wc j=U):=hU
         have k3:=hdj.c3
         dsimp only at k3
         rw [HZ3.out] at k3
         rw [hTl] at k3
         have lj:=hdj.lt
         rw [HZ3.out] at lj
         have HDK:Hid (DMS _ _ _ _ _ _ _ _):=hdj
         clear hU
         by_cases hjl:j < M.wc.length
         ·have J1:(j:Int) < (M.wc.length:Int):=by omega
          have J0:(0:Int)<=(j:Int):=by omega
          obtain ⟨J3,hJ3⟩:∃ J3,J3=(j:Int) % 2:=⟨_,rfl⟩
          have eJ3:(j:Int).tmod 2=J3:=by rw [Int.tmod_eq_emod_of_nonneg J0]; exact hJ3.symm
          rw [<- hJ3] at HTS
          clear hJ3
          by_cases hJ:J3=A2
          ·have hJb:(J3 == A2)=true:=by simpa using hJ
           obtain ⟨E0,hE⟩:∃ E0,eAt eWc U j=E0:=⟨_,rfl⟩
           obtain ⟨L,P,O,D⟩:=E0
           have hrow:ERow eWc wr wb.heap.size (.slice s.a4 U.length s.c4) U:=hdj.row.c
           obtain ⟨g,hg1,hg2⟩:=wcS_cells hrow
           obtain ⟨hae,hgl⟩:=hg1 (by omega)
           obtain ⟨d0,d1,d2,d3⟩:=hg2 j L P O D (by omega) hE wr rfl
           rw [hae] at hrow k3
           have u0:=hrow.frz (j * 4)
           have u1:=hrow.frz (j * 4+1)
           have u2:=hrow.frz (j * 4+2)
           have u3:=hrow.frz (j * 4+3)
           have HTN:Hid (dmW A2 M.wc (j+1)=U.set j ⟨L,P,O,true⟩):=hidP (by rw [HTS.out,if_pos hJ,hE]; rfl)
           have hdn:=(DMS.inC (m:=j) ⟨L,P,O,true⟩ hdj (Below.refl _ _) hae (by show j < U.length; omega)).below (bal (o:=.cells #[.int .i64 L,.int .i64 P,.int .i64 O,.bool true] 74))
           have HDN:Hid (DMS _ _ _ _ _ _ _ _):=hdn
           clear hdn hdj hrow hg1 hg2 hae hE HTS
           go_wp2_with fail
           go_roundw
           case rel=>exact ⟨j+1,by omega,by go_num,by rw [HTN.out]; exact HDN.out⟩
           case measure=>first | (simp [intOf]; done) | (simp [intOf]; omega)
          ·have hJb:(J3 == A2)=false:=by simpa using hJ
           have HTN:Hid (dmW A2 M.wc (j+1)=U):=hidP (by rw [HTS.out,if_neg hJ])
           clear hdj HTS
           go_wp2_with fail
           go_roundw
           case rel=>exact ⟨j+1,by omega,by go_num,by rw [HTN.out]; exact HDK.out⟩
           case measure=>first | (simp [intOf]; done) | (simp [intOf]; omega)
         ·obtain rfl:j=M.wc.length:=by omega
          have J1:¬ (M.wc.length:Int) < (M.wc.length:Int):=by omega
          have HVM2:Hid (dmS cs zs q (k+1)=⟨M.mem,M.pend,T,U⟩):=hidP (by rw [HVN.out,HT.out,HU.out])
          clear hdj HTS hj hjl
          go_wp2_with fail
          go_roundw
          case rel=>exact ⟨k+1,s,by omega,by rw [HPN.out],by go_num,by rw [HVM2.out]; exact HDK.out⟩
          case measure=>first | (simp [intOf]; done) | (simp [intOf]; omega)
   ·obtain rfl:k=N:=by omega
    obtain ⟨hBr,m0,_⟩:=HK.out hd
    obtain ⟨⟨r0,r1,r2,r3⟩,f0,f1,f2,f3⟩:=HQ.out wr hBr
    have k0:=hd.c0
    have k1:=hd.c1
    have k2:=hd.c2
    have k3:=hd.c3
    rw [HZ3.out] at k0 k1 k2 k3
    have l1:=hd.lt
    obtain ⟨wF,hwF,hm,hb⟩:=HFIN.out _ _ wr hd
    have K2:¬ (k:Int) < (k:Int):=by omega
    generalize dmS cs zs q k=M at *
    have HM:Hid (MRow _ _ _ _):=hm
    have HB:Hid (Below _ w wF):=hb
    have HWF:Hid (wF=_):=hwF
    clear hm hb hwF hd
    go_wp2_with fail
    rw [HR.out]
    have e1:=HWF.out
    rw [<- e1]
    obtain ⟨p0,p1,p2,p3⟩:=put4c e1 r0 r1 r2 r3
    exact bodyPost_ret (v:=.tuple #[.agg #[.slice s.a1 M.mem.length s.c1,.slice s.a2 M.pend.length s.c2,.slice s.a3 M.tlb.length s.c3,.slice s.a4 M.wc.length s.c4],.int .i64 ((q+4 * k:Nat):Int)]) (by simp [results,Try.results76,go_sem,p0,p1,p2,p3]) rfl ⟨s,rfl,HM.out,HB.out⟩
end Go.Proofs.Ytnmhkgmmpkjjeaa
