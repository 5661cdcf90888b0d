import Derived.Test.YtnmhkgmmpkjjeaaG35
import Derived.Test.YtnmhkgmmpkjjeaaG36
import Derived.Test.YtnmhkgmmpkjjeaaG06
namespace Go.Proofs.Ytnmhkgmmpkjjeaa
open Go.ChangeShapes Go.WideShapes Go.ChangeAt Go.RowKit
set_option linter.unusedVariables false
set_option linter.unusedSimpArgs false
set_option maxRecDepth 100000
attribute [local go_sem ↓] Go.wp_at_zero Go.wp_at_succ
def fillT (xs:List TlbE):Nat->List TlbE
 | 0=>xs
 | k+1=>fillT xs k ++ [⟨0,1,((fillT xs k).length:Int),1,false⟩]
def fillW (xs:List WcE):Nat->List WcE
 | 0=>xs
 | k+1=>fillW xs k ++ [⟨2,0,0,true⟩]
theorem fillT_len (xs:List TlbE):∀ k,(fillT xs k).length=xs.length+k
 | 0=>rfl
 | k+1=>by unfold fillT; rw [List.length_append,fillT_len xs k]; rfl
theorem fillW_len (xs:List WcE):∀ k,(fillW xs k).length=xs.length+k
 | 0=>rfl
 | k+1=>by unfold fillW; rw [List.length_append,fillW_len xs k]; rfl
def spE (M:Mach) (a b:Int):TlbE:=⟨(eAt eTlb M.tlb (b % (M.tlb.length:Int)).toNat).page,1,((eAt eTlb M.tlb (b % (M.tlb.length:Int)).toNat).out+b % 3) % 65536,(eAt eTlb M.tlb (b % (M.tlb.length:Int)).toNat).perm,a == 7⟩
def spoilM (M:Mach) (a b:Int):Mach :=
 if a=0 then ⟨M.mem,M.pend ++ [⟨(M.mem.length:Int),0⟩],M.tlb,M.wc⟩
 else if a=1 then ⟨M.mem,M.pend,M.tlb ++ [⟨3,16,16,1,false⟩],M.wc⟩
 else if a=2 then ⟨M.mem,M.pend,M.tlb ++ [⟨b,1,16,8,false⟩],M.wc⟩
 else if a=3 then ⟨M.mem,M.pend,M.tlb,M.wc ++ [⟨1,0,0,false⟩]⟩
 else if a=4 then ⟨M.mem,M.pend,M.tlb,M.wc ++ [⟨3,16,(M.mem.length:Int),false⟩]⟩
 else if a=5 then ⟨M.mem,M.pend,fillT M.tlb (256+b % 2 - (M.tlb.length:Int)).toNat,M.wc⟩
 else if a=6 then ⟨M.mem,M.pend,M.tlb,fillW M.wc (256+b % 2 - (M.wc.length:Int)).toNat⟩
 else if M.tlb.length=0 then M
 else ⟨M.mem,M.pend,M.tlb ++ [spE M a b],M.wc⟩
set_option maxHeartbeats 8000000 in
theorem spoilS_any (a:Option Addr) (cap:Nat) (cs:List Int) (p:Nat) (s0:SV) (M:Mach) (b:Nat) (w:World) (hc:Byt cs) (hp:p<=900000) (hs:BAt w a cs) (hsm:M.Small) (hb2:M.tlb.length<=256) (hb3:M.wc.length<=256) (htl:∀ i,i < M.tlb.length->0<=(eAt eTlb M.tlb i).out/\(eAt eTlb M.tlb i).out < 65536) (h:MRow w b (s0.mv M) M) :
  Calls Try.prog 77 #[.slice a cs.length cap,.int .i64 (p:Int),.agg #[.slice s0.a1 M.mem.length s0.c1,.slice s0.a2 M.pend.length s0.c2,.slice s0.a3 M.tlb.length s0.c3,.slice s0.a4 M.wc.length s0.c4]] w fun e w'=>∃ s:SV,e=.returned (.agg #[.slice s.a1 (spoilM M (tkV cs p 10) (tkV cs (p+1) 200)).mem.length s.c1,.slice s.a2 (spoilM M (tkV cs p 10) (tkV cs (p+1) 200)).pend.length s.c2,.slice s.a3 (spoilM M (tkV cs p 10) (tkV cs (p+1) 200)).tlb.length s.c3,.slice s.a4 (spoilM M (tkV cs p 10) (tkV cs (p+1) 200)).wc.length s.c4])/\MRow w' w.heap.size (s.mv (spoilM M (tkV cs p 10) (tkV cs (p+1) 200))) (spoilM M (tkV cs p 10) (tkV cs (p+1) 200))/\Below w.heap.size w w':=by
 have y1:=hsm.w
 have y2:=hsm.p
 have y3:=hsm.t
 have y4:=hsm.c
 obtain ⟨iP,hiP,hp0,hp1,hp2⟩:=info_parts infoWrite
 obtain ⟨iT,hiT,ht0,ht1,ht2⟩:=info_parts infoTlb
 obtain ⟨iC,hiC,hc0,hc1,hc2⟩:=info_parts infoWc
 obtain ⟨wb,hwb⟩:∃ wb,wb=(w.alloc (.cells #[.slice s0.a1 M.mem.length s0.c1,.slice s0.a2 M.pend.length s0.c2,.slice s0.a3 M.tlb.length s0.c3,.slice s0.a4 M.wc.length s0.c4] 38)).alloc (.cells #[.slice none 0 0,.slice none 0 0,.slice none 0 0,.slice none 0 0] 38):=⟨_,rfl⟩
 have hbb:Below w.heap.size w wb:=by rw [hwb]; exact ((Below.refl _ _).alloc (Nat.le_refl _) _).alloc (by simp) _
 have hzb:wb.heap.size=w.heap.size+2:=by rw [hwb]; simp
 have HQ:Hid (∀ wX,Below wb.heap.size wb wX->(wX.cell? ⟨w.heap.size,0,none⟩=some (.slice s0.a1 M.mem.length s0.c1)/\wX.cell? ⟨w.heap.size,1,none⟩=some (.slice s0.a2 M.pend.length s0.c2)/\wX.cell? ⟨w.heap.size,2,none⟩=some (.slice s0.a3 M.tlb.length s0.c3)/\wX.cell? ⟨w.heap.size,3,none⟩=some (.slice s0.a4 M.wc.length s0.c4))/\(wX.cell? ⟨w.heap.size+1,0,none⟩=some (.slice none 0 0)/\wX.cell? ⟨w.heap.size+1,1,none⟩=some (.slice none 0 0)/\wX.cell? ⟨w.heap.size+1,2,none⟩=some (.slice none 0 0)/\wX.cell? ⟨w.heap.size+1,3,none⟩=some (.slice none 0 0))/\wX.frozen? ⟨w.heap.size+1,0,none⟩=false/\wX.frozen? ⟨w.heap.size+1,1,none⟩=false/\wX.frozen? ⟨w.heap.size+1,2,none⟩=false/\wX.frozen? ⟨w.heap.size+1,3,none⟩=false):=hidP fun wX hX=>by
  refine ⟨⟨?_,?_,?_,?_⟩,⟨?_,?_,?_,?_⟩,?_,?_,?_,?_⟩
  iterate 8 (exact (hX.cell (by simp; omega)).trans (by rw [hwb]; simp [go_sem]))
  iterate 4 (exact (hX.frozen (by simp; omega)).trans (by rw [hwb]; simp [go_sem]))
 have t1:=take_any a cap cs p 10 wb hc (by omega) (by omega) (hs.below hbb)
 have HT2:Hid (∀ wX,Below wb.heap.size wb wX->Calls Try.prog 37 #[.slice a cs.length cap,.int .i64 ((p:Int)+1),.int .i64 200] wX fun e w'=>e=.returned (.tuple #[.int .i64 (tkV cs (p+1) 200),.int .i64 ((p:Int)+1+1)])/\Below wX.heap.size wX w'):=hidP fun wX hX=>take_any a cap cs (p+1) 200 wX hc (by omega) (by omega) (hs.below (hbb.trans (hX.mono (by omega))))
 have HT3:Hid (∀ wX,Below wb.heap.size wb wX->MRow wX b (s0.mv M) M):=hidP fun wX hX=>h.below (hbb.trans (hX.mono (by omega)))
 obtain ⟨bA0,bA1⟩:=tkV_bd cs p 10 (by omega) hc (by omega)
 obtain ⟨bB0,bB1⟩:=tkV_bd cs (p+1) 200 (by omega) hc (by omega)
 generalize tkV cs p 10=A at *
 generalize tkV cs (p+1) 200=B at *
 have HSM:Hid M.Small:=hsm
 have HWB:Hid (wb=_):=hwb
 have HBB:Hid (Below w.heap.size w wb):=hbb
 rw [hwb] at t1
 clear hc hs hwb hbb h hsm
 go_enter Try.func77,Try.ntmps77
 go_wp2_with fail
 refine t1.mono ?_
 rintro e w2 ⟨rfl,hb2'⟩
 have hB2:Below wb.heap.size wb w2:=by rw [HWB.out]; exact hb2'
 have t2:=HT2.out w2 hB2
 have HB2:Hid (Below wb.heap.size wb w2):=hB2
 clear t1 hb2' hB2
 go_wp2_with fail
 refine t2.mono ?_
 rintro e w3 ⟨rfl,hb3'⟩
 have hB3:Below wb.heap.size wb w3:=HB2.out.trans (hb3'.mono HB2.out.size)
 have t3:=copyM_any s0 M b w3 HSM.out (HT3.out w3 hB3)
 obtain ⟨⟨k0,k1,k2,k3⟩,_⟩:=HQ.out w3 hB3
 have HB3:Hid (Below wb.heap.size wb w3):=hB3
 have HS3:Hid (wb.heap.size<=w3.heap.size):=hidP hB3.size
 have N1:w.heap.size+1 < w3.heap.size:=by have:=hB3.size; omega
 clear t2 hb3' hB3
 go_wp2_with fail
 refine t3.mono ?_
 rintro e w4 ⟨s,rfl,hr4',_,hb4'⟩
 have HR4:Hid (MRow w4 w3.heap.size (s.mv M) M):=hr4'
 have HB4:Hid (Below w3.heap.size w3 w4):=hb4'
 clear hr4' hb4' t3
 go_upto_region 5 with fail
 have hr4:=HR4.out
 have hb4:=HB4.out
 obtain ⟨w5,hw5⟩:∃ w5,w5=w4.alloc (.cells #[.slice s.a1 M.mem.length s.c1,.slice s.a2 M.pend.length s.c2,.slice s.a3 M.tlb.length s.c3,.slice s.a4 M.wc.length s.c4] 38):=⟨_,rfl⟩
 have z5:w5.heap.size=w4.heap.size+1:=by rw [hw5]; simp
 have hd5:DMS w3 w5 w3.heap.size w4.heap.size w3.heap.size (fun _=>False) s M:=by
  have b5:Below w4.heap.size w4 w5:=by rw [hw5]; exact bal
  refine ⟨?_,?_,?_,?_,fun i hi=>?_,hr4.below b5,fun k hk=>.inr ⟨(hr4.own k hk).1,by have:=(hr4.own k hk).2; omega⟩,hb4.trans (b5.mono hb4.size),by omega,hb4.size,Nat.le_refl _,fun k hk=>hk.elim⟩
  iterate 4 (rw [hw5]; simp [go_sem])
  ·rcases (show i=0\/i=1\/i=2\/i=3 by omega) with rfl | rfl | rfl | rfl <;> (rw [hw5]; simp [go_sem])
 have N2:=hb4.size
 have N3:w4.heap.size < w5.heap.size:=by omega
 have HKB:Hid (∀ {s M wX},DMS w3 wX w3.heap.size w4.heap.size w3.heap.size (fun _=>False) s M->Below wb.heap.size wb wX):=hidP fun hX=>HB3.out.trans (hX.bel.mono HS3.out)
 have HM5:Hid (MRow w5 b (s0.mv M) M):=hidP (HT3.out w5 (HKB.out hd5))
 have HFIN:Hid (∀ (s:SV) (M:Mach) (wX:World),DMS w3 wX w3.heap.size w4.heap.size w3.heap.size (fun _=>False) s M->∃ wF,wF=((((wX.setCell ⟨w.heap.size+1,0,none⟩ (.slice s.a1 M.mem.length s.c1)).setCell ⟨w.heap.size+1,1,none⟩ (.slice s.a2 M.pend.length s.c2)).setCell ⟨w.heap.size+1,2,none⟩ (.slice s.a3 M.tlb.length s.c3)).setCell ⟨w.heap.size+1,3,none⟩ (.slice s.a4 M.wc.length s.c4))/\MRow wF w.heap.size (s.mv M) M/\Below w.heap.size w wF):=hidP fun s M wX hX=>by
  have hB:=HKB.out hX
  refine ⟨_,rfl,?_,?_⟩
  ·refine MRow.rebase (base:=w3.heap.size) (hX.row.touch (S:=fun k=>k=w.heap.size+1) ⟨rfl,rfl,rfl,by simp,fun k hk hn=>?_⟩ (fun k hk e=>?_)) (by omega)
   ·rw [Below.heap_setCell _ _ _ _ hn,Below.heap_setCell _ _ _ _ hn,Below.heap_setCell _ _ _ _ hn,Below.heap_setCell _ _ _ _ hn]
   ·have:=(hX.row.own k hk).1
    omega
  ·have h:=HBB.out.trans (hB.mono (by omega))
   exact (((h.setCell (by simp) _).setCell (by simp) _).setCell (by simp) _).setCell (by simp) _
 have HD5:Hid (DMS _ _ _ _ _ _ _ _):=hd5
 have HW5:Hid (w5=_):=hw5
 rw [<- hw5]
 have k0:=hd5.c0
 have k1:=hd5.c1
 have k2:=hd5.c2
 have k3:=hd5.c3
 obtain ⟨⟨m0,_,_,_⟩,_⟩:=HQ.out w5 (HKB.out hd5)
 have N4:w.heap.size+1 < w5.heap.size:=by omega
 have kf:=hd5.fz
 have HZ5:Hid (w5.heap.size=w4.heap.size+1):=z5
 clear hr4 hb4 hw5 hd5 z5
 rcases (show A=0\/A=1\/A=2\/A=3\/A=4\/A=5\/A=6\/6 < A by omega) with rfl | rfl | rfl | rfl | rfl | rfl | rfl | hA
 ·have HSP:Hid (spoilM M 0 B=⟨M.mem,M.pend ++ [⟨(M.mem.length:Int),0⟩],M.tlb,M.wc⟩):=hidP (by unfold spoilM; simp)
  have HRD:Hid (ERow eWrite (w5.alloc (.cells #[.int .i64 (M.mem.length:Int),.int .u64 0] 147)) w3.heap.size (.slice s.a2 M.pend.length s.c2) M.pend):=hidP (HD5.out.row.p.below bal)
  go_wp2_with (at_builtin; refine wpList_append_lies _ rfl (.tmp 28) (.tmp 34) 34 rfl w3.heap.size 147 iP _ 2 16 Try.underlying34 hiP hp0 hp1 hp2 rfl (by omega) _ _ _ rfl HRD.out ⟨_,0,none⟩ 1 1 [.int .i64 (M.mem.length:Int),.int .u64 0] rfl rfl ?c1 ?c2 (by omega) ?c3 ?c4 ?c5 _ rfl ?_)
  case c1=>exact World.news_of_block (heap_alloc_new _ _)
  case c2=>intro u hu; simp at hu; rcases hu with rfl | rfl <;> rfl
  case c3=>unfold maxLen; first | omega | (simp; done) | (simp; omega)
  case c4=>first | omega | (simp; done) | (simp; omega)
  case c5=>first | omega | (simp; omega)
  intro gn cn wn hown hgrow hat hlt3
  rw [own_slice] at hgrow hat
  have hT:Touch (fun k'=>oOf s.a2=some k') w5 wn:=(Touch.of_below (bal (w:=w5) (o:=.cells #[.int .i64 (M.mem.length:Int),.int .u64 0] 147))).trans (Touch.of_grown hgrow (fun k' hk'=>hk'))
  have hnew:ERow eWrite wn w3.heap.size (.slice (some ⟨gn,0,none⟩) (M.pend ++ [(⟨(M.mem.length:Int),0⟩:WriteE)]).length cn) (M.pend ++ [(⟨(M.mem.length:Int),0⟩:WriteE)]):=by
   rw [List.length_append,List.length_singleton]
   exact erow_push rfl hown
  have hDN:=HD5.out.newP hT (some ⟨gn,0,none⟩) cn _ hnew (fun k' hk'=>by
   have e1:gn=k':=by simpa [oOf,Value.ownBlock] using hk'
   rw [<- e1]
   rcases hat with h' | h'
   ·exact .inl h'
   ·right
    first | omega | (simp at h'; omega))
  rw [List.length_append,List.length_singleton] at hDN
  have HDN:Hid (DMS _ _ _ _ _ _ _ _):=hDN
  obtain ⟨tc,tf,tb,tl⟩:=HD5.out.tw hT (fun k' hk'=>HD5.out.far k' (.inl hk'))
  have x0:=(tc 0).trans HD5.out.c0
  have x1:=(tc 1).trans HD5.out.c1
  have x2:=(tc 2).trans HD5.out.c2
  have x3:=(tc 3).trans HD5.out.c3
  try dsimp only at x0 x1 x2 x3
  have xf:=(tf 1).trans (HD5.out.fz 1 (by omega))
  obtain ⟨_,⟨r0,r1,r2,r3⟩,f0,f1,f2,f3⟩:=HQ.out wn (HB3.out.trans (tb.mono HS3.out))
  clear hown hgrow hat hlt3 hT hnew hDN tc tf tb
  obtain ⟨wF,hwF,hm,hb⟩:=HFIN.out _ _ _ HDN.out
  obtain ⟨_,⟨y0,y1,y2,y3⟩,_⟩:=HQ.out _ (HKB.out HDN.out)
  have HY:Hid (_/\_/\_/\_):=hidP ⟨y0,y1,y2,y3⟩
  have HM:Hid (MRow _ _ _ _):=hm
  have HB:Hid (Below _ w wF):=hb
  have HWF:Hid (wF=_):=hwF
  clear hm hb hwF y0 y1 y2 y3
  go_wp2_with fail
  rw [HSP.out]
  have e1:=HWF.out
  try dsimp only at e1
  try simp only [List.length_append,List.length_singleton] at e1
  rw [<- e1]
  obtain ⟨p0,p1,p2,p3⟩:=put4c e1 HY.out.1 HY.out.2.1 HY.out.2.2.1 HY.out.2.2.2
  exact bodyPost_ret (v:=.agg #[.slice s.a1 M.mem.length s.c1,.slice (some ⟨gn,0,none⟩) (M.pend.length+1) cn,.slice s.a3 M.tlb.length s.c3,.slice s.a4 M.wc.length s.c4]) (by simp [results,Try.results77,go_sem,p0,p1,p2,p3]) rfl ⟨_,by simp only [List.length_append,List.length_singleton],HM.out,HB.out⟩
 ·have HSP:Hid (spoilM M 1 B=⟨M.mem,M.pend,M.tlb ++ [⟨3,16,16,1,false⟩],M.wc⟩):=hidP (by unfold spoilM; simp)
  have HRD:Hid (ERow eTlb (w5.alloc (.cells #[.int .i64 3,.int .i64 16,.int .i64 16,.int .i64 1,.bool false] 72)) w3.heap.size (.slice s.a3 M.tlb.length s.c3) M.tlb):=hidP (HD5.out.row.t.below bal)
  go_wp2_with (at_builtin; refine wpList_append_lies _ rfl (.tmp 40) (.tmp 42) 35 rfl w3.heap.size 72 iT _ 5 40 Try.underlying35 hiT ht0 ht1 ht2 rfl (by omega) _ _ _ rfl HRD.out ⟨_,0,none⟩ 1 1 [.int .i64 3,.int .i64 16,.int .i64 16,.int .i64 1,.bool false] rfl rfl ?c1 ?c2 (by omega) ?c3 ?c4 ?c5 _ rfl ?_)
  case c1=>exact World.news_of_block (heap_alloc_new _ _)
  case c2=>intro u hu; simp at hu; rcases hu with rfl | rfl | rfl | rfl | rfl <;> rfl
  case c3=>unfold maxLen; first | omega | (simp; done) | (simp; omega)
  case c4=>first | omega | (simp; done) | (simp; omega)
  case c5=>first | omega | (simp; omega)
  intro gn cn wn hown hgrow hat hlt3
  rw [own_slice] at hgrow hat
  have hT:Touch (fun k'=>oOf s.a3=some k') w5 wn:=(Touch.of_below (bal (w:=w5) (o:=.cells #[.int .i64 3,.int .i64 16,.int .i64 16,.int .i64 1,.bool false] 72))).trans (Touch.of_grown hgrow (fun k' hk'=>hk'))
  have hnew:ERow eTlb wn w3.heap.size (.slice (some ⟨gn,0,none⟩) (M.tlb ++ [(⟨3,16,16,1,false⟩:TlbE)]).length cn) (M.tlb ++ [(⟨3,16,16,1,false⟩:TlbE)]):=by
   rw [List.length_append,List.length_singleton]
   exact erow_push rfl hown
  have hDN:=HD5.out.newT hT (some ⟨gn,0,none⟩) cn _ hnew (fun k' hk'=>by
   have e1:gn=k':=by simpa [oOf,Value.ownBlock] using hk'
   rw [<- e1]
   rcases hat with h' | h'
   ·exact .inl h'
   ·right
    first | omega | (simp at h'; omega))
  rw [List.length_append,List.length_singleton] at hDN
  have HDN:Hid (DMS _ _ _ _ _ _ _ _):=hDN
  obtain ⟨tc,tf,tb,tl⟩:=HD5.out.tw hT (fun k' hk'=>HD5.out.far k' (.inr (.inl hk')))
  have x0:=(tc 0).trans HD5.out.c0
  have x1:=(tc 1).trans HD5.out.c1
  have x2:=(tc 2).trans HD5.out.c2
  have x3:=(tc 3).trans HD5.out.c3
  try dsimp only at x0 x1 x2 x3
  have xf:=(tf 2).trans (HD5.out.fz 2 (by omega))
  obtain ⟨_,⟨r0,r1,r2,r3⟩,f0,f1,f2,f3⟩:=HQ.out wn (HB3.out.trans (tb.mono HS3.out))
  clear hown hgrow hat hlt3 hT hnew hDN tc tf tb
  obtain ⟨wF,hwF,hm,hb⟩:=HFIN.out _ _ _ HDN.out
  obtain ⟨_,⟨y0,y1,y2,y3⟩,_⟩:=HQ.out _ (HKB.out HDN.out)
  have HY:Hid (_/\_/\_/\_):=hidP ⟨y0,y1,y2,y3⟩
  have HM:Hid (MRow _ _ _ _):=hm
  have HB:Hid (Below _ w wF):=hb
  have HWF:Hid (wF=_):=hwF
  clear hm hb hwF y0 y1 y2 y3
  go_wp2_with fail
  rw [HSP.out]
  have e1:=HWF.out
  try dsimp only at e1
  try simp only [List.length_append,List.length_singleton] at e1
  rw [<- e1]
  obtain ⟨p0,p1,p2,p3⟩:=put4c e1 HY.out.1 HY.out.2.1 HY.out.2.2.1 HY.out.2.2.2
  exact bodyPost_ret (v:=.agg #[.slice s.a1 M.mem.length s.c1,.slice s.a2 M.pend.length s.c2,.slice (some ⟨gn,0,none⟩) (M.tlb.length+1) cn,.slice s.a4 M.wc.length s.c4]) (by simp [results,Try.results77,go_sem,p0,p1,p2,p3]) rfl ⟨_,by simp only [List.length_append,List.length_singleton],HM.out,HB.out⟩
 ·have HSP:Hid (spoilM M 2 B=⟨M.mem,M.pend,M.tlb ++ [⟨B,1,16,8,false⟩],M.wc⟩):=hidP (by unfold spoilM; simp)
  have HRD:Hid (ERow eTlb (w5.alloc (.cells #[.int .i64 B,.int .i64 1,.int .i64 16,.int .i64 8,.bool false] 72)) w3.heap.size (.slice s.a3 M.tlb.length s.c3) M.tlb):=hidP (HD5.out.row.t.below bal)
  go_wp2_with (at_builtin; refine wpList_append_lies _ rfl (.tmp 48) (.tmp 51) 35 rfl w3.heap.size 72 iT _ 5 40 Try.underlying35 hiT ht0 ht1 ht2 rfl (by omega) _ _ _ rfl HRD.out ⟨_,0,none⟩ 1 1 [.int .i64 B,.int .i64 1,.int .i64 16,.int .i64 8,.bool false] rfl rfl ?c1 ?c2 (by omega) ?c3 ?c4 ?c5 _ rfl ?_)
  case c1=>exact World.news_of_block (heap_alloc_new _ _)
  case c2=>intro u hu; simp at hu; rcases hu with rfl | rfl | rfl | rfl | rfl <;> rfl
  case c3=>unfold maxLen; first | omega | (simp; done) | (simp; omega)
  case c4=>first | omega | (simp; done) | (simp; omega)
  case c5=>first | omega | (simp; omega)
  intro gn cn wn hown hgrow hat hlt3
  rw [own_slice] at hgrow hat
  have hT:Touch (fun k'=>oOf s.a3=some k') w5 wn:=(Touch.of_below (bal (w:=w5) (o:=.cells #[.int .i64 B,.int .i64 1,.int .i64 16,.int .i64 8,.bool false] 72))).trans (Touch.of_grown hgrow (fun k' hk'=>hk'))
  have hnew:ERow eTlb wn w3.heap.size (.slice (some ⟨gn,0,none⟩) (M.tlb ++ [(⟨B,1,16,8,false⟩:TlbE)]).length cn) (M.tlb ++ [(⟨B,1,16,8,false⟩:TlbE)]):=by
   rw [List.length_append,List.length_singleton]
   exact erow_push rfl hown
  have hDN:=HD5.out.newT hT (some ⟨gn,0,none⟩) cn _ hnew (fun k' hk'=>by
   have e1:gn=k':=by simpa [oOf,Value.ownBlock] using hk'
   rw [<- e1]
   rcases hat with h' | h'
   ·exact .inl h'
   ·right
    first | omega | (simp at h'; omega))
  rw [List.length_append,List.length_singleton] at hDN
  have HDN:Hid (DMS _ _ _ _ _ _ _ _):=hDN
  obtain ⟨tc,tf,tb,tl⟩:=HD5.out.tw hT (fun k' hk'=>HD5.out.far k' (.inr (.inl hk')))
  have x0:=(tc 0).trans HD5.out.c0
  have x1:=(tc 1).trans HD5.out.c1
  have x2:=(tc 2).trans HD5.out.c2
  have x3:=(tc 3).trans HD5.out.c3
  try dsimp only at x0 x1 x2 x3
  have xf:=(tf 2).trans (HD5.out.fz 2 (by omega))
  obtain ⟨_,⟨r0,r1,r2,r3⟩,f0,f1,f2,f3⟩:=HQ.out wn (HB3.out.trans (tb.mono HS3.out))
  clear hown hgrow hat hlt3 hT hnew hDN tc tf tb
  obtain ⟨wF,hwF,hm,hb⟩:=HFIN.out _ _ _ HDN.out
  obtain ⟨_,⟨y0,y1,y2,y3⟩,_⟩:=HQ.out _ (HKB.out HDN.out)
  have HY:Hid (_/\_/\_/\_):=hidP ⟨y0,y1,y2,y3⟩
  have HM:Hid (MRow _ _ _ _):=hm
  have HB:Hid (Below _ w wF):=hb
  have HWF:Hid (wF=_):=hwF
  clear hm hb hwF y0 y1 y2 y3
  go_wp2_with fail
  rw [HSP.out]
  have e1:=HWF.out
  try dsimp only at e1
  try simp only [List.length_append,List.length_singleton] at e1
  rw [<- e1]
  obtain ⟨p0,p1,p2,p3⟩:=put4c e1 HY.out.1 HY.out.2.1 HY.out.2.2.1 HY.out.2.2.2
  exact bodyPost_ret (v:=.agg #[.slice s.a1 M.mem.length s.c1,.slice s.a2 M.pend.length s.c2,.slice (some ⟨gn,0,none⟩) (M.tlb.length+1) cn,.slice s.a4 M.wc.length s.c4]) (by simp [results,Try.results77,go_sem,p0,p1,p2,p3]) rfl ⟨_,by simp only [List.length_append,List.length_singleton],HM.out,HB.out⟩
 ·have HSP:Hid (spoilM M 3 B=⟨M.mem,M.pend,M.tlb,M.wc ++ [⟨1,0,0,false⟩]⟩):=hidP (by unfold spoilM; simp)
  have HRD:Hid (ERow eWc (w5.alloc (.cells #[.int .i64 1,.int .i64 0,.int .i64 0,.bool false] 74)) w3.heap.size (.slice s.a4 M.wc.length s.c4) M.wc):=hidP (HD5.out.row.c.below bal)
  go_wp2_with (at_builtin; refine wpList_append_lies _ rfl (.tmp 57) (.tmp 59) 36 rfl w3.heap.size 74 iC _ 4 32 Try.underlying36 hiC hc0 hc1 hc2 rfl (by omega) _ _ _ rfl HRD.out ⟨_,0,none⟩ 1 1 [.int .i64 1,.int .i64 0,.int .i64 0,.bool false] rfl rfl ?c1 ?c2 (by omega) ?c3 ?c4 ?c5 _ rfl ?_)
  case c1=>exact World.news_of_block (heap_alloc_new _ _)
  case c2=>intro u hu; simp at hu; rcases hu with rfl | rfl | rfl | rfl <;> rfl
  case c3=>unfold maxLen; first | omega | (simp; done) | (simp; omega)
  case c4=>first | omega | (simp; done) | (simp; omega)
  case c5=>first | omega | (simp; omega)
  intro gn cn wn hown hgrow hat hlt3
  rw [own_slice] at hgrow hat
  have hT:Touch (fun k'=>oOf s.a4=some k') w5 wn:=(Touch.of_below (bal (w:=w5) (o:=.cells #[.int .i64 1,.int .i64 0,.int .i64 0,.bool false] 74))).trans (Touch.of_grown hgrow (fun k' hk'=>hk'))
  have hnew:ERow eWc wn w3.heap.size (.slice (some ⟨gn,0,none⟩) (M.wc ++ [(⟨1,0,0,false⟩:WcE)]).length cn) (M.wc ++ [(⟨1,0,0,false⟩:WcE)]):=by
   rw [List.length_append,List.length_singleton]
   exact erow_push rfl hown
  have hDN:=HD5.out.newC hT (some ⟨gn,0,none⟩) cn _ hnew (fun k' hk'=>by
   have e1:gn=k':=by simpa [oOf,Value.ownBlock] using hk'
   rw [<- e1]
   rcases hat with h' | h'
   ·exact .inl h'
   ·right
    first | omega | (simp at h'; omega))
  rw [List.length_append,List.length_singleton] at hDN
  have HDN:Hid (DMS _ _ _ _ _ _ _ _):=hDN
  obtain ⟨tc,tf,tb,tl⟩:=HD5.out.tw hT (fun k' hk'=>HD5.out.far k' (.inr (.inr hk')))
  have x0:=(tc 0).trans HD5.out.c0
  have x1:=(tc 1).trans HD5.out.c1
  have x2:=(tc 2).trans HD5.out.c2
  have x3:=(tc 3).trans HD5.out.c3
  try dsimp only at x0 x1 x2 x3
  have xf:=(tf 3).trans (HD5.out.fz 3 (by omega))
  obtain ⟨_,⟨r0,r1,r2,r3⟩,f0,f1,f2,f3⟩:=HQ.out wn (HB3.out.trans (tb.mono HS3.out))
  clear hown hgrow hat hlt3 hT hnew hDN tc tf tb
  obtain ⟨wF,hwF,hm,hb⟩:=HFIN.out _ _ _ HDN.out
  obtain ⟨_,⟨y0,y1,y2,y3⟩,_⟩:=HQ.out _ (HKB.out HDN.out)
  have HY:Hid (_/\_/\_/\_):=hidP ⟨y0,y1,y2,y3⟩
  have HM:Hid (MRow _ _ _ _):=hm
  have HB:Hid (Below _ w wF):=hb
  have HWF:Hid (wF=_):=hwF
  clear hm hb hwF y0 y1 y2 y3
  go_wp2_with fail
  rw [HSP.out]
  have e1:=HWF.out
  try dsimp only at e1
  try simp only [List.length_append,List.length_singleton] at e1
  rw [<- e1]
  obtain ⟨p0,p1,p2,p3⟩:=put4c e1 HY.out.1 HY.out.2.1 HY.out.2.2.1 HY.out.2.2.2
  exact bodyPost_ret (v:=.agg #[.slice s.a1 M.mem.length s.c1,.slice s.a2 M.pend.length s.c2,.slice s.a3 M.tlb.length s.c3,.slice (some ⟨gn,0,none⟩) (M.wc.length+1) cn]) (by simp [results,Try.results77,go_sem,p0,p1,p2,p3]) rfl ⟨_,by simp only [List.length_append,List.length_singleton],HM.out,HB.out⟩
 ·have HSP:Hid (spoilM M 4 B=⟨M.mem,M.pend,M.tlb,M.wc ++ [⟨3,16,(M.mem.length:Int),false⟩]⟩):=hidP (by unfold spoilM; simp)
  have HRD:Hid (ERow eWc (w5.alloc (.cells #[.int .i64 3,.int .i64 16,.int .i64 (M.mem.length:Int),.bool false] 74)) w3.heap.size (.slice s.a4 M.wc.length s.c4) M.wc):=hidP (HD5.out.row.c.below bal)
  go_wp2_with (at_builtin; refine wpList_append_lies _ rfl (.tmp 65) (.tmp 71) 36 rfl w3.heap.size 74 iC _ 4 32 Try.underlying36 hiC hc0 hc1 hc2 rfl (by omega) _ _ _ rfl HRD.out ⟨_,0,none⟩ 1 1 [.int .i64 3,.int .i64 16,.int .i64 (M.mem.length:Int),.bool false] rfl rfl ?c1 ?c2 (by omega) ?c3 ?c4 ?c5 _ rfl ?_)
  case c1=>exact World.news_of_block (heap_alloc_new _ _)
  case c2=>intro u hu; simp at hu; rcases hu with rfl | rfl | rfl | rfl <;> rfl
  case c3=>unfold maxLen; first | omega | (simp; done) | (simp; omega)
  case c4=>first | omega | (simp; done) | (simp; omega)
  case c5=>first | omega | (simp; omega)
  intro gn cn wn hown hgrow hat hlt3
  rw [own_slice] at hgrow hat
  have hT:Touch (fun k'=>oOf s.a4=some k') w5 wn:=(Touch.of_below (bal (w:=w5) (o:=.cells #[.int .i64 3,.int .i64 16,.int .i64 (M.mem.length:Int),.bool false] 74))).trans (Touch.of_grown hgrow (fun k' hk'=>hk'))
  have hnew:ERow eWc wn w3.heap.size (.slice (some ⟨gn,0,none⟩) (M.wc ++ [(⟨3,16,(M.mem.length:Int),false⟩:WcE)]).length cn) (M.wc ++ [(⟨3,16,(M.mem.length:Int),false⟩:WcE)]):=by
   rw [List.length_append,List.length_singleton]
   exact erow_push rfl hown
  have hDN:=HD5.out.newC hT (some ⟨gn,0,none⟩) cn _ hnew (fun k' hk'=>by
   have e1:gn=k':=by simpa [oOf,Value.ownBlock] using hk'
   rw [<- e1]
   rcases hat with h' | h'
   ·exact .inl h'
   ·right
    first | omega | (simp at h'; omega))
  rw [List.length_append,List.length_singleton] at hDN
  have HDN:Hid (DMS _ _ _ _ _ _ _ _):=hDN
  obtain ⟨tc,tf,tb,tl⟩:=HD5.out.tw hT (fun k' hk'=>HD5.out.far k' (.inr (.inr hk')))
  have x0:=(tc 0).trans HD5.out.c0
  have x1:=(tc 1).trans HD5.out.c1
  have x2:=(tc 2).trans HD5.out.c2
  have x3:=(tc 3).trans HD5.out.c3
  try dsimp only at x0 x1 x2 x3
  have xf:=(tf 3).trans (HD5.out.fz 3 (by omega))
  obtain ⟨_,⟨r0,r1,r2,r3⟩,f0,f1,f2,f3⟩:=HQ.out wn (HB3.out.trans (tb.mono HS3.out))
  clear hown hgrow hat hlt3 hT hnew hDN tc tf tb
  obtain ⟨wF,hwF,hm,hb⟩:=HFIN.out _ _ _ HDN.out
  obtain ⟨_,⟨y0,y1,y2,y3⟩,_⟩:=HQ.out _ (HKB.out HDN.out)
  have HY:Hid (_/\_/\_/\_):=hidP ⟨y0,y1,y2,y3⟩
  have HM:Hid (MRow _ _ _ _):=hm
  have HB:Hid (Below _ w wF):=hb
  have HWF:Hid (wF=_):=hwF
  clear hm hb hwF y0 y1 y2 y3
  go_wp2_with fail
  rw [HSP.out]
  have e1:=HWF.out
  try dsimp only at e1
  try simp only [List.length_append,List.length_singleton] at e1
  rw [<- e1]
  obtain ⟨p0,p1,p2,p3⟩:=put4c e1 HY.out.1 HY.out.2.1 HY.out.2.2.1 HY.out.2.2.2
  exact bodyPost_ret (v:=.agg #[.slice s.a1 M.mem.length s.c1,.slice s.a2 M.pend.length s.c2,.slice s.a3 M.tlb.length s.c3,.slice (some ⟨gn,0,none⟩) (M.wc.length+1) cn]) (by simp [results,Try.results77,go_sem,p0,p1,p2,p3]) rfl ⟨_,by simp only [List.length_append,List.length_singleton],HM.out,HB.out⟩
 ·obtain ⟨B2,hB2⟩:∃ B2:Nat,(B2:Int)=B % 2:=⟨(B % 2).toNat,by omega⟩
  have eB:B.tmod 2=(B2:Int):=by rw [Int.tmod_eq_emod_of_nonneg bB0]; exact hB2.symm
  have hB3:B2<=1:=by omega
  have W1:IntKind.i64.wrap (256+(B2:Int))=256+(B2:Int):=by rw [IntKind.wrap_i64]; omega
  obtain ⟨K,hK⟩:∃ K:Nat,K+M.tlb.length=256+B2:=⟨256+B2 - M.tlb.length,by omega⟩
  have HSP:Hid (spoilM M 5 B=⟨M.mem,M.pend,fillT M.tlb K,M.wc⟩):=hidP (by
   have e:(256+B % 2 - (M.tlb.length:Int)).toNat=K:=by omega
   unfold spoilM
   simp [e])
  have HTL:Hid (∀ k,(fillT M.tlb k).length=M.tlb.length+k):=hidP (fillT_len M.tlb)
  have HTS:Hid (∀ k,fillT M.tlb (k+1)=fillT M.tlb k ++ [⟨0,1,((fillT M.tlb k).length:Int),1,false⟩]):=hidP (fun k=>rfl)
  clear hB2 k0 k1 k2 k3 kf
  go_wp2_with fail
  go_loopw [] (fun wr=>∃ (k:Nat) (s:SV),k<=K/\DMS w3 wr w3.heap.size w4.heap.size w3.heap.size (fun _=>False) s ⟨M.mem,M.pend,(fillT M.tlb k),M.wc⟩) (fun wr=>match wr.cell? ⟨w4.heap.size,2,none⟩ with | some (.slice _ n _)=>300 - n | _=>0)
  case atStart=>exact ⟨0,s,by omega,HD5.out⟩
  case round =>
   obtain ⟨k,s,hk,hd⟩:=hrel
   have hTl:=HTL.out k
   have hts:=HTS.out k
   obtain ⟨T,hT⟩:∃ T,fillT M.tlb k=T:=⟨_,rfl⟩
   rw [hT] at hd hTl hts
   have HTN:Hid (fillT M.tlb (k+1)=_):=hts
   have HT:Hid (fillT M.tlb k=T):=hT
   have HTLL:Hid (T.length=M.tlb.length+k):=hTl
   have k0:=hd.c0
   have k1:=hd.c1
   have k2:=hd.c2
   have k3:=hd.c3
   dsimp only at k0 k1 k2 k3
   have HDR:Hid (DMS _ wr _ _ _ _ _ _):=hd
   have N4:=hd.lt
   have N5:=hd.bel.size
   clear hT hts
   by_cases hlt:k < K
   ·have J1:(T.length:Int) < 256+(B2:Int):=by omega
    have J1b:decide ((T.length:Int) < 256+(B2:Int))=true:=by simpa using J1
    have hTb:T.length<=300:=by omega
    clear hd hTl
    have HRD:Hid (ERow eTlb (wr.alloc (.cells #[.int .i64 0,.int .i64 1,.int .i64 (T.length:Int),.int .i64 1,.bool false] 72)) w3.heap.size (.slice s.a3 T.length s.c3) T):=hidP (HDR.out.row.t.below bal)
    go_wp2_with (at_builtin; refine wpList_append_lies _ rfl (.tmp 84) (.tmp 89) 35 rfl w3.heap.size 72 iT _ 5 40 Try.underlying35 hiT ht0 ht1 ht2 rfl (by omega) _ _ _ rfl HRD.out ⟨_,0,none⟩ 1 1 [.int .i64 0,.int .i64 1,.int .i64 (T.length:Int),.int .i64 1,.bool false] rfl rfl ?c1 ?c2 (by omega) ?c3 ?c4 ?c5 _ rfl ?_)
    case c1=>exact World.news_of_block (heap_alloc_new _ _)
    case c2=>intro u hu; simp at hu; rcases hu with rfl | rfl | rfl | rfl | rfl <;> rfl
    case c3=>unfold maxLen; first | omega | (simp; done) | (simp; omega)
    case c4=>first | omega | (simp; done) | (simp; omega)
    case c5=>first | omega | (simp; omega)
    intro gn cn wn hown hgrow hat hlt3
    rw [own_slice] at hgrow hat
    have hT:Touch (fun k'=>oOf s.a3=some k') wr wn:=(Touch.of_below (bal (w:=wr) (o:=.cells #[.int .i64 0,.int .i64 1,.int .i64 (T.length:Int),.int .i64 1,.bool false] 72))).trans (Touch.of_grown hgrow (fun k' hk'=>hk'))
    have hnew:ERow eTlb wn w3.heap.size (.slice (some ⟨gn,0,none⟩) (T ++ [(⟨0,1,(T.length:Int),1,false⟩:TlbE)]).length cn) (T ++ [(⟨0,1,(T.length:Int),1,false⟩:TlbE)]):=by
     rw [List.length_append,List.length_singleton]
     exact erow_push rfl hown
    have hDN:=HDR.out.newT hT (some ⟨gn,0,none⟩) cn _ hnew (fun k' hk'=>by
     have e1:gn=k':=by simpa [oOf,Value.ownBlock] using hk'
     rw [<- e1]
     rcases hat with h' | h'
     ·exact .inl h'
     ·right
      first | omega | (simp at h'; omega))
    rw [List.length_append,List.length_singleton] at hDN
    have HDN:Hid (DMS _ _ _ _ _ _ _ _):=hDN
    obtain ⟨tc,tf,tb,tl⟩:=HDR.out.tw hT (fun k' hk'=>HDR.out.far k' (.inr (.inl hk')))
    have x0:=(tc 0).trans HDR.out.c0
    have x1:=(tc 1).trans HDR.out.c1
    have x2:=(tc 2).trans HDR.out.c2
    have x3:=(tc 3).trans HDR.out.c3
    try dsimp only at x0 x1 x2 x3
    have xf:=(tf 2).trans (HDR.out.fz 2 (by omega))
    obtain ⟨_,⟨r0,r1,r2,r3⟩,f0,f1,f2,f3⟩:=HQ.out wn (HB3.out.trans (tb.mono HS3.out))
    clear hown hgrow hat hlt3 hT hnew hDN tc tf tb
    go_wp2_with fail
    go_roundw
    case rel=>exact ⟨k+1,_,by omega,by rw [HTN.out]; exact HDN.out⟩
    case measure =>
     have z1:=HDN.out.c2
     have z2:=HDR.out.c2
     dsimp only at z1 z2
     simp only [z1,z2,List.length_append,List.length_singleton]
     omega
   ·obtain rfl:k=K:=by omega
    have J1:¬ (T.length:Int) < 256+(B2:Int):=by omega
    have J1b:decide ((T.length:Int) < 256+(B2:Int))=false:=by simpa using J1
    have HSQ:Hid (spoilM M 5 B=⟨M.mem,M.pend,T,M.wc⟩):=hidP (by rw [HSP.out,HT.out])
    clear HSP
    have HSP:=HSQ
    have HDN:=HDR
    obtain ⟨_,⟨r0,r1,r2,r3⟩,f0,f1,f2,f3⟩:=HQ.out wr (HKB.out hd)
    clear hd hTl
    obtain ⟨wF,hwF,hm,hb⟩:=HFIN.out _ _ _ HDN.out
    obtain ⟨_,⟨y0,y1,y2,y3⟩,_⟩:=HQ.out _ (HKB.out HDN.out)
    have HY:Hid (_/\_/\_/\_):=hidP ⟨y0,y1,y2,y3⟩
    have HM:Hid (MRow _ _ _ _):=hm
    have HB:Hid (Below _ w wF):=hb
    have HWF:Hid (wF=_):=hwF
    clear hm hb hwF y0 y1 y2 y3
    go_wp2_with fail
    rw [HSP.out]
    have e1:=HWF.out
    try dsimp only at e1
    try simp only [List.length_append,List.length_singleton] at e1
    rw [<- e1]
    obtain ⟨p0,p1,p2,p3⟩:=put4c e1 HY.out.1 HY.out.2.1 HY.out.2.2.1 HY.out.2.2.2
    exact bodyPost_ret (v:=.agg #[.slice s.a1 M.mem.length s.c1,.slice s.a2 M.pend.length s.c2,.slice s.a3 T.length s.c3,.slice s.a4 M.wc.length s.c4]) (by simp [results,Try.results77,go_sem,p0,p1,p2,p3]) rfl ⟨_,by simp only [List.length_append,List.length_singleton],HM.out,HB.out⟩
 ·obtain ⟨B2,hB2⟩:∃ B2:Nat,(B2:Int)=B % 2:=⟨(B % 2).toNat,by omega⟩
  have eB:B.tmod 2=(B2:Int):=by rw [Int.tmod_eq_emod_of_nonneg bB0]; exact hB2.symm
  have hB3:B2<=1:=by omega
  have W1:IntKind.i64.wrap (256+(B2:Int))=256+(B2:Int):=by rw [IntKind.wrap_i64]; omega
  obtain ⟨K,hK⟩:∃ K:Nat,K+M.wc.length=256+B2:=⟨256+B2 - M.wc.length,by omega⟩
  have HSP:Hid (spoilM M 6 B=⟨M.mem,M.pend,M.tlb,fillW M.wc K⟩):=hidP (by
   have e:(256+B % 2 - (M.wc.length:Int)).toNat=K:=by omega
   unfold spoilM
   simp [e])
  have HTL:Hid (∀ k,(fillW M.wc k).length=M.wc.length+k):=hidP (fillW_len M.wc)
  have HTS:Hid (∀ k,fillW M.wc (k+1)=fillW M.wc k ++ [⟨2,0,0,true⟩]):=hidP (fun k=>rfl)
  clear hB2 k0 k1 k2 k3 kf
  go_wp2_with fail
  go_loopw [] (fun wr=>∃ (k:Nat) (s:SV),k<=K/\DMS w3 wr w3.heap.size w4.heap.size w3.heap.size (fun _=>False) s ⟨M.mem,M.pend,M.tlb,(fillW M.wc k)⟩) (fun wr=>match wr.cell? ⟨w4.heap.size,3,none⟩ with | some (.slice _ n _)=>300 - n | _=>0)
  case atStart=>exact ⟨0,s,by omega,HD5.out⟩
  case round =>
   obtain ⟨k,s,hk,hd⟩:=hrel
   have hTl:=HTL.out k
   have hts:=HTS.out k
   obtain ⟨T,hT⟩:∃ T,fillW M.wc k=T:=⟨_,rfl⟩
   rw [hT] at hd hTl hts
   have HTN:Hid (fillW M.wc (k+1)=_):=hts
   have HT:Hid (fillW M.wc k=T):=hT
   have HTLL:Hid (T.length=M.wc.length+k):=hTl
   have k0:=hd.c0
   have k1:=hd.c1
   have k2:=hd.c2
   have k3:=hd.c3
   dsimp only at k0 k1 k2 k3
   have HDR:Hid (DMS _ wr _ _ _ _ _ _):=hd
   have N4:=hd.lt
   have N5:=hd.bel.size
   clear hT hts
   by_cases hlt:k < K
   ·have J1:(T.length:Int) < 256+(B2:Int):=by omega
    have J1b:decide ((T.length:Int) < 256+(B2:Int))=true:=by simpa using J1
    have hTb:T.length<=300:=by omega
    clear hd hTl
    have HRD:Hid (ERow eWc (wr.alloc (.cells #[.int .i64 2,.int .i64 0,.int .i64 0,.bool true] 74)) w3.heap.size (.slice s.a4 T.length s.c4) T):=hidP (HDR.out.row.c.below bal)
    go_wp2_with (at_builtin; refine wpList_append_lies _ rfl (.tmp 102) (.tmp 104) 36 rfl w3.heap.size 74 iC _ 4 32 Try.underlying36 hiC hc0 hc1 hc2 rfl (by omega) _ _ _ rfl HRD.out ⟨_,0,none⟩ 1 1 [.int .i64 2,.int .i64 0,.int .i64 0,.bool true] rfl rfl ?c1 ?c2 (by omega) ?c3 ?c4 ?c5 _ rfl ?_)
    case c1=>exact World.news_of_block (heap_alloc_new _ _)
    case c2=>intro u hu; simp at hu; rcases hu with rfl | rfl | rfl | rfl <;> rfl
    case c3=>unfold maxLen; first | omega | (simp; done) | (simp; omega)
    case c4=>first | omega | (simp; done) | (simp; omega)
    case c5=>first | omega | (simp; omega)
    intro gn cn wn hown hgrow hat hlt3
    rw [own_slice] at hgrow hat
    have hT:Touch (fun k'=>oOf s.a4=some k') wr wn:=(Touch.of_below (bal (w:=wr) (o:=.cells #[.int .i64 2,.int .i64 0,.int .i64 0,.bool true] 74))).trans (Touch.of_grown hgrow (fun k' hk'=>hk'))
    have hnew:ERow eWc wn w3.heap.size (.slice (some ⟨gn,0,none⟩) (T ++ [(⟨2,0,0,true⟩:WcE)]).length cn) (T ++ [(⟨2,0,0,true⟩:WcE)]):=by
     rw [List.length_append,List.length_singleton]
     exact erow_push rfl hown
    have hDN:=HDR.out.newC hT (some ⟨gn,0,none⟩) cn _ hnew (fun k' hk'=>by
     have e1:gn=k':=by simpa [oOf,Value.ownBlock] using hk'
     rw [<- e1]
     rcases hat with h' | h'
     ·exact .inl h'
     ·right
      first | omega | (simp at h'; omega))
    rw [List.length_append,List.length_singleton] at hDN
    have HDN:Hid (DMS _ _ _ _ _ _ _ _):=hDN
    obtain ⟨tc,tf,tb,tl⟩:=HDR.out.tw hT (fun k' hk'=>HDR.out.far k' (.inr (.inr hk')))
    have x0:=(tc 0).trans HDR.out.c0
    have x1:=(tc 1).trans HDR.out.c1
    have x2:=(tc 2).trans HDR.out.c2
    have x3:=(tc 3).trans HDR.out.c3
    try dsimp only at x0 x1 x2 x3
    have xf:=(tf 3).trans (HDR.out.fz 3 (by omega))
    obtain ⟨_,⟨r0,r1,r2,r3⟩,f0,f1,f2,f3⟩:=HQ.out wn (HB3.out.trans (tb.mono HS3.out))
    clear hown hgrow hat hlt3 hT hnew hDN tc tf tb
    go_wp2_with fail
    go_roundw
    case rel=>exact ⟨k+1,_,by omega,by rw [HTN.out]; exact HDN.out⟩
    case measure =>
     have z1:=HDN.out.c3
     have z2:=HDR.out.c3
     dsimp only at z1 z2
     simp only [z1,z2,List.length_append,List.length_singleton]
     omega
   ·obtain rfl:k=K:=by omega
    have J1:¬ (T.length:Int) < 256+(B2:Int):=by omega
    have J1b:decide ((T.length:Int) < 256+(B2:Int))=false:=by simpa using J1
    have HSQ:Hid (spoilM M 6 B=⟨M.mem,M.pend,M.tlb,T⟩):=hidP (by rw [HSP.out,HT.out])
    clear HSP
    have HSP:=HSQ
    have HDN:=HDR
    obtain ⟨_,⟨r0,r1,r2,r3⟩,f0,f1,f2,f3⟩:=HQ.out wr (HKB.out hd)
    clear hd hTl
    obtain ⟨wF,hwF,hm,hb⟩:=HFIN.out _ _ _ HDN.out
    obtain ⟨_,⟨y0,y1,y2,y3⟩,_⟩:=HQ.out _ (HKB.out HDN.out)
    have HY:Hid (_/\_/\_/\_):=hidP ⟨y0,y1,y2,y3⟩
    have HM:Hid (MRow _ _ _ _):=hm
    have HB:Hid (Below _ w wF):=hb
    have HWF:Hid (wF=_):=hwF
    clear hm hb hwF y0 y1 y2 y3
    go_wp2_with fail
    rw [HSP.out]
    have e1:=HWF.out
    try dsimp only at e1
    try simp only [List.length_append,List.length_singleton] at e1
    rw [<- e1]
    obtain ⟨p0,p1,p2,p3⟩:=put4c e1 HY.out.1 HY.out.2.1 HY.out.2.2.1 HY.out.2.2.2
    exact bodyPost_ret (v:=.agg #[.slice s.a1 M.mem.length s.c1,.slice s.a2 M.pend.length s.c2,.slice s.a3 M.tlb.length s.c3,.slice s.a4 T.length s.c4]) (by simp [results,Try.results77,go_sem,p0,p1,p2,p3]) rfl ⟨_,by simp only [List.length_append,List.length_singleton],HM.out,HB.out⟩
 ·have hgt:decide (6 < A)=true:=by simpa using hA
  have q0:(A == 0)=false:=by simp; omega
  have q1:(A == 1)=false:=by simp; omega
  have q2:(A == 2)=false:=by simp; omega
  have q3:(A == 3)=false:=by simp; omega
  have q4:(A == 4)=false:=by simp; omega
  have q5:(A == 5)=false:=by simp; omega
  have q6:(A == 6)=false:=by simp; omega
  by_cases hz:M.tlb.length=0
  ·have z1:¬ (0:Int) < (M.tlb.length:Int):=by omega
   have z1b:decide ((0:Int) < (M.tlb.length:Int))=false:=by simpa using z1
   have HSP:Hid (spoilM M A B=M):=hidP (by
    unfold spoilM
    rw [if_neg (by omega),if_neg (by omega),if_neg (by omega),if_neg (by omega),if_neg (by omega),if_neg (by omega),if_neg (by omega),if_pos hz])
   have HDN:=HD5
   obtain ⟨_,⟨r0,r1,r2,r3⟩,f0,f1,f2,f3⟩:=HQ.out w5 (HKB.out HD5.out)
   have HZ:Hid (M.tlb.length=0):=hz
   have hnil:M.tlb=[]:=List.length_eq_zero_iff.1 hz
   clear hz z1 z1b
   obtain ⟨wF,hwF,hm,hb⟩:=HFIN.out _ _ _ HDN.out
   obtain ⟨_,⟨y0,y1,y2,y3⟩,_⟩:=HQ.out _ (HKB.out HDN.out)
   have HY:Hid (_/\_/\_/\_):=hidP ⟨y0,y1,y2,y3⟩
   have HM:Hid (MRow _ _ _ _):=hm
   have HB:Hid (Below _ w wF):=hb
   have HWF:Hid (wF=_):=hwF
   clear hm hb hwF y0 y1 y2 y3
   go_wp2_with fail
   rw [HSP.out]
   have e1:=HWF.out
   try dsimp only at e1
   try simp only [List.length_append,List.length_singleton,HZ.out] at e1
   rw [<- e1]
   obtain ⟨p0,p1,p2,p3⟩:=put4c e1 HY.out.1 HY.out.2.1 HY.out.2.2.1 HY.out.2.2.2
   exact bodyPost_ret (v:=.agg #[.slice s.a1 M.mem.length s.c1,.slice s.a2 M.pend.length s.c2,.slice s.a3 0 s.c3,.slice s.a4 M.wc.length s.c4]) (by simp [results,Try.results77,go_sem,p0,p1,p2,p3]) rfl ⟨_,by simp only [List.length_append,List.length_singleton,HZ.out],HM.out,HB.out⟩
  ·have z1:(0:Int) < (M.tlb.length:Int):=by omega
   have z1b:decide ((0:Int) < (M.tlb.length:Int))=true:=by simpa using z1
   have hnil:M.tlb ≠ []:=by intro h0; rw [h0] at hz; exact hz rfl
   obtain ⟨IX,hIX⟩:∃ IX:Nat,(IX:Int)=B % (M.tlb.length:Int):=⟨(B % (M.tlb.length:Int)).toNat,Int.toNat_of_nonneg (Int.emod_nonneg B (show (M.tlb.length:Int) ≠ 0 by omega))⟩
   have hI2:(IX:Int) < (M.tlb.length:Int):=by rw [hIX]; exact Int.emod_lt_of_pos _ (by omega)
   have eI:B.tmod (M.tlb.length:Int)=(IX:Int):=by rw [Int.tmod_eq_emod_of_nonneg bB0]; exact hIX.symm
   have hl0:((M.tlb.length:Int) == 0)=false:=beq_eq_false_iff_ne.2 (by omega)
   have hI0:(0:Int)<=(IX:Int):=by omega
   obtain ⟨E0,hE⟩:∃ E0,eAt eTlb M.tlb IX=E0:=⟨_,rfl⟩
   obtain ⟨P,S,O,R,D⟩:=E0
   have hob:=htl IX (by omega)
   rw [hE] at hob
   dsimp only at hob
   obtain ⟨b1,b2⟩:=hob
   obtain ⟨B3,hB3⟩:∃ B3:Int,B3=B % 3:=⟨_,rfl⟩
   have eB3:B.tmod 3=B3:=by rw [Int.tmod_eq_emod_of_nonneg bB0]; exact hB3.symm
   have eW:IntKind.i64.wrap (O+B3)=O+B3:=by rw [IntKind.wrap_i64]; omega
   obtain ⟨O2,hO2⟩:∃ O2:Int,O2=(O+B3) % 65536:=⟨_,rfl⟩
   have eO2:(O+B3).tmod 65536=O2:=by rw [Int.tmod_eq_emod_of_nonneg (by omega)]; exact hO2.symm
   obtain ⟨DD,hDD⟩:∃ DD:Bool,(A == 7)=DD:=⟨_,rfl⟩
   have HSP:Hid (spoilM M A B=⟨M.mem,M.pend,M.tlb ++ [⟨P,1,O2,R,DD⟩],M.wc⟩):=hidP (by
    unfold spoilM spE
    rw [if_neg (by omega),if_neg (by omega),if_neg (by omega),if_neg (by omega),if_neg (by omega),if_neg (by omega),if_neg (by omega),if_neg hz]
    rw [<- hIX,Int.toNat_natCast,hE]
    dsimp only
    rw [hO2,hB3,<- hDD])
   have hrow:ERow eTlb w5 b (.slice s0.a3 M.tlb.length s0.c3) M.tlb:=(HM5.out).t
   obtain ⟨g,hg1,hg2⟩:=tlbS_cells hrow
   obtain ⟨hae,hgl⟩:=hg1 (by omega)
   have hrw:=hg2 IX P S O R D (by omega) hE
   obtain ⟨d0,d1,d2,d3,d4⟩:=hrw w5 rfl
   obtain ⟨⟨_,_,m2,_⟩,_⟩:=HQ.out w5 (HKB.out HD5.out)
   rw [hae] at m2
   have N6:w.heap.size < w5.heap.size:=by omega
   have HSA:Hid (∀ wX,Below w5.heap.size w5 wX->wX.cell? ⟨w.heap.size,2,none⟩=some (.slice (some ⟨g,0,none⟩) M.tlb.length s0.c3)/\wX.cell? ⟨g,IX * 5,none⟩=some (.int .i64 P)/\wX.cell? ⟨g,IX * 5+1,none⟩=some (.int .i64 S)/\wX.cell? ⟨g,IX * 5+2,none⟩=some (.int .i64 O)/\wX.cell? ⟨g,IX * 5+3,none⟩=some (.int .i64 R)/\wX.cell? ⟨g,IX * 5+4,none⟩=some (.bool D)):=hidP (fun wX hX=>by
    obtain ⟨⟨_,_,n2,_⟩,_⟩:=HQ.out wX ((HKB.out HD5.out).trans (hX.mono (HKB.out HD5.out).size))
    rw [hae] at n2
    exact ⟨n2,hrw wX (hX.block g (by omega))⟩)
   clear hIX hB3 hO2 hE hg1 hg2 hrw hrow hz hA k0 k1 k2 k3 kf
   go_wp2_with fail
   refine wp_region_held_drew (S:=fun wX=>wX.cell? ⟨w.heap.size,2,none⟩=some (.slice (some ⟨g,0,none⟩) M.tlb.length s0.c3)/\wX.cell? ⟨g,IX * 5,none⟩=some (.int .i64 P)/\wX.cell? ⟨g,IX * 5+1,none⟩=some (.int .i64 S)/\wX.cell? ⟨g,IX * 5+2,none⟩=some (.int .i64 O)/\wX.cell? ⟨g,IX * 5+3,none⟩=some (.int .i64 R)/\wX.cell? ⟨g,IX * 5+4,none⟩=some (.bool D)) (by kernel_rfl) (HSA.out _ (Below.refl _ _).drew) (fun hHeld=>?_)
   refine tk 0 ?_
   refine tk 1 ?_
   refine tk 2 ?_
   refine tk 3 ?_
   refine tk 4 ?_
   refine tk 5 ?_
   refine tk 6 ?_
   refine tk 7 ?_
   refine tk 8 ?_
   refine wpAnyH_ready (rs:=[9]) (by kernel_rfl) (by simp) ?_
   refine AllReadyH.cons rfl (fun K hK=>?_) AllReadyH.nil
   go_simp
   refine hK.out _ _ (HSA.out _ ?a1) (fun hHeld2=>?_)
   case a1=>exact (Below.refl _ _).drew.alloc (Nat.le_refl _) _
   clear hK K
   refine wpAnyH_ready (rs:=[10]) (by kernel_rfl) (by simp) ?_
   refine AllReadyH.cons rfl (fun K hK=>?_) AllReadyH.nil
   go_simp
   refine hK.out _ _ (HSA.out _ ?a2) (fun hHeld3=>?_)
   case a2=>exact bal.drew
   clear hK K
   refine wpAnyH_done (by kernel_rfl) ?_ _
   clear hHeld hHeld2 hHeld3
   obtain ⟨w6,hw6⟩:∃ w6,w6=(w5.alloc (.cells #[.int .i64 P,.int .i64 S,.int .i64 O,.int .i64 R,.bool D] 72)).drew:=⟨_,rfl⟩
   rw [<- hw6]
   have hb6:Below w5.heap.size w5 w6:=by rw [hw6]; exact bal.drew
   have v0:w6.cell? ⟨w5.heap.size,0,none⟩=some (.int .i64 P):=by rw [hw6]; simp [go_sem]
   have v2:w6.cell? ⟨w5.heap.size,2,none⟩=some (.int .i64 O):=by rw [hw6]; simp [go_sem]
   have v3:w6.cell? ⟨w5.heap.size,3,none⟩=some (.int .i64 R):=by rw [hw6]; simp [go_sem]
   have N7:w5.heap.size < w6.heap.size:=by rw [hw6]; simp
   have HD6:Hid (DMS _ _ _ _ _ _ _ _):=hidP (HD5.out.below hb6)
   have k2:=HD6.out.c2
   clear hw6 hb6 d0 d1 d2 d3 d4 m2
   have HRD:Hid (ERow eTlb (w6.alloc (.cells #[.int .i64 P,.int .i64 1,.int .i64 O2,.int .i64 R,.bool DD] 72)) w3.heap.size (.slice s.a3 M.tlb.length s.c3) M.tlb):=hidP (HD6.out.row.t.below bal)
   go_wp2_with (at_builtin; refine wpList_append_lies _ rfl (.tmp 125) (.tmp 139) 35 rfl w3.heap.size 72 iT _ 5 40 Try.underlying35 hiT ht0 ht1 ht2 rfl (by omega) _ _ _ rfl HRD.out ⟨_,0,none⟩ 1 1 [.int .i64 P,.int .i64 1,.int .i64 O2,.int .i64 R,.bool DD] rfl rfl ?c1 ?c2 (by omega) ?c3 ?c4 ?c5 _ rfl ?_)
   case c1=>exact World.news_of_block (heap_alloc_new _ _)
   case c2=>intro u hu; simp at hu; rcases hu with rfl | rfl | rfl | rfl | rfl <;> rfl
   case c3=>unfold maxLen; first | omega | (simp; done) | (simp; omega)
   case c4=>first | omega | (simp; done) | (simp; omega)
   case c5=>first | omega | (simp; omega)
   intro gn cn wn hown hgrow hat hlt3
   rw [own_slice] at hgrow hat
   have hT:Touch (fun k'=>oOf s.a3=some k') w6 wn:=(Touch.of_below (bal (w:=w6) (o:=.cells #[.int .i64 P,.int .i64 1,.int .i64 O2,.int .i64 R,.bool DD] 72))).trans (Touch.of_grown hgrow (fun k' hk'=>hk'))
   have hnew:ERow eTlb wn w3.heap.size (.slice (some ⟨gn,0,none⟩) (M.tlb ++ [(⟨P,1,O2,R,DD⟩:TlbE)]).length cn) (M.tlb ++ [(⟨P,1,O2,R,DD⟩:TlbE)]):=by
    rw [List.length_append,List.length_singleton]
    exact erow_push rfl hown
   have hDN:=HD6.out.newT hT (some ⟨gn,0,none⟩) cn _ hnew (fun k' hk'=>by
    have e1:gn=k':=by simpa [oOf,Value.ownBlock] using hk'
    rw [<- e1]
    rcases hat with h' | h'
    ·exact .inl h'
    ·right
     first | omega | (simp at h'; omega))
   rw [List.length_append,List.length_singleton] at hDN
   have HDN:Hid (DMS _ _ _ _ _ _ _ _):=hDN
   obtain ⟨tc,tf,tb,tl⟩:=HD6.out.tw hT (fun k' hk'=>HD6.out.far k' (.inr (.inl hk')))
   have x0:=(tc 0).trans HD6.out.c0
   have x1:=(tc 1).trans HD6.out.c1
   have x2:=(tc 2).trans HD6.out.c2
   have x3:=(tc 3).trans HD6.out.c3
   try dsimp only at x0 x1 x2 x3
   have xf:=(tf 2).trans (HD6.out.fz 2 (by omega))
   obtain ⟨_,⟨r0,r1,r2,r3⟩,f0,f1,f2,f3⟩:=HQ.out wn (HB3.out.trans (tb.mono HS3.out))
   clear hown hgrow hat hlt3 hT hnew hDN tc tf tb
   obtain ⟨wF,hwF,hm,hb⟩:=HFIN.out _ _ _ HDN.out
   obtain ⟨_,⟨y0,y1,y2,y3⟩,_⟩:=HQ.out _ (HKB.out HDN.out)
   have HY:Hid (_/\_/\_/\_):=hidP ⟨y0,y1,y2,y3⟩
   have HM:Hid (MRow _ _ _ _):=hm
   have HB:Hid (Below _ w wF):=hb
   have HWF:Hid (wF=_):=hwF
   clear hm hb hwF y0 y1 y2 y3
   go_wp2_with fail
   rw [HSP.out]
   have e1:=HWF.out
   try dsimp only at e1
   try simp only [List.length_append,List.length_singleton] at e1
   rw [<- e1]
   obtain ⟨p0,p1,p2,p3⟩:=put4c e1 HY.out.1 HY.out.2.1 HY.out.2.2.1 HY.out.2.2.2
   exact bodyPost_ret (v:=.agg #[.slice s.a1 M.mem.length s.c1,.slice s.a2 M.pend.length s.c2,.slice (some ⟨gn,0,none⟩) (M.tlb.length+1) cn,.slice s.a4 M.wc.length s.c4]) (by simp [results,Try.results77,go_sem,p0,p1,p2,p3]) rfl ⟨_,by simp only [List.length_append,List.length_singleton],HM.out,HB.out⟩
end Go.Proofs.Ytnmhkgmmpkjjeaa
