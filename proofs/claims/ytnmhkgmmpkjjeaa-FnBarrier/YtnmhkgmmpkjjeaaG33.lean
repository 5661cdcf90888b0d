import Derived.Test.YtnmhkgmmpkjjeaaG31
import Derived.Test.YtnmhkgmmpkjjeaaG32
import Derived.Test.YtnmhkgmmpkjjeaaG06
import Derived.Deep.DeepCutAuto
namespace Go.Proofs.Ytnmhkgmmpkjjeaa
open Go.ChangeShapes Go.WideShapes Go.ChangeAt Go.RowKit
set_option linter.unusedVariables false
attribute [local go_sem ↓] Go.wp_at_zero Go.wp_at_succ
theorem tlbS_cells {w:World} {b c:Nat} {a:Option Addr} {xs:List TlbE} (h:ERow eTlb w b (.slice a xs.length c) xs) :
  ∃ g,(0 < xs.length->a=some ⟨g,0,none⟩/\g < w.heap.size)/\∀ k P S O R D,k < xs.length->eAt eTlb xs k=⟨P,S,O,R,D⟩->∀ wX:World,wX.heap[g]?=w.heap[g]?->wX.cell? ⟨g,k * 5,none⟩=some (.int .i64 P)/\wX.cell? ⟨g,k * 5+1,none⟩=some (.int .i64 S)/\wX.cell? ⟨g,k * 5+2,none⟩=some (.int .i64 O)/\wX.cell? ⟨g,k * 5+3,none⟩=some (.int .i64 R)/\wX.cell? ⟨g,k * 5+4,none⟩=some (.bool D):=by
 obtain ⟨g,h1,h2⟩:=h.cellsB
 refine ⟨g,fun h0=>⟨(h1 h0).1,(h1 h0).2.1⟩,fun k P S O R D hk he wX hX=>?_⟩
 have e0:∀ j,eCell eTlb xs k j=((eTlb.enc ⟨P,S,O,R,D⟩)[j]?).getD (.bool false):=fun j=>by unfold eCell; rw [he]
 have c:∀ j,j < 5->wX.cell? ⟨g,k * 5+j,none⟩=some (eCell eTlb xs k j):=fun j hj=>h2 k hk j hj wX hX
 exact ⟨(c 0 (by omega)).trans (by rw [e0]; rfl),(c 1 (by omega)).trans (by rw [e0]; rfl),(c 2 (by omega)).trans (by rw [e0]; rfl),(c 3 (by omega)).trans (by rw [e0]; rfl),(c 4 (by omega)).trans (by rw [e0]; rfl)⟩
theorem wcS_cells {w:World} {b c:Nat} {a:Option Addr} {xs:List WcE} (h:ERow eWc w b (.slice a xs.length c) xs) :
  ∃ g,(0 < xs.length->a=some ⟨g,0,none⟩/\g < w.heap.size)/\∀ k L P T D,k < xs.length->eAt eWc xs k=⟨L,P,T,D⟩->∀ wX:World,wX.heap[g]?=w.heap[g]?->wX.cell? ⟨g,k * 4,none⟩=some (.int .i64 L)/\wX.cell? ⟨g,k * 4+1,none⟩=some (.int .i64 P)/\wX.cell? ⟨g,k * 4+2,none⟩=some (.int .i64 T)/\wX.cell? ⟨g,k * 4+3,none⟩=some (.bool D):=by
 obtain ⟨g,h1,h2⟩:=h.cellsB
 refine ⟨g,fun h0=>⟨(h1 h0).1,(h1 h0).2.1⟩,fun k L P T D hk he wX hX=>?_⟩
 have e0:∀ j,eCell eWc xs k j=((eWc.enc ⟨L,P,T,D⟩)[j]?).getD (.bool false):=fun j=>by unfold eCell; rw [he]
 have c:∀ j,j < 4->wX.cell? ⟨g,k * 4+j,none⟩=some (eCell eWc xs k j):=fun j hj=>h2 k hk j hj wX hX
 exact ⟨(c 0 (by omega)).trans (by rw [e0]; rfl),(c 1 (by omega)).trans (by rw [e0]; rfl),(c 2 (by omega)).trans (by rw [e0]; rfl),(c 3 (by omega)).trans (by rw [e0]; rfl)⟩
theorem wrS_cells {w:World} {b c:Nat} {a:Option Addr} {xs:List WriteE} (h:ERow eWrite w b (.slice a xs.length c) xs) :
  ∃ g,(0 < xs.length->a=some ⟨g,0,none⟩/\g < w.heap.size)/\∀ k Ad Wd,k < xs.length->eAt eWrite xs k=⟨Ad,Wd⟩->∀ wX:World,wX.heap[g]?=w.heap[g]?->wX.cell? ⟨g,k * 2,none⟩=some (.int .i64 Ad)/\wX.cell? ⟨g,k * 2+1,none⟩=some (.int .u64 Wd):=by
 obtain ⟨g,h1,h2⟩:=h.cellsB
 refine ⟨g,fun h0=>⟨(h1 h0).1,(h1 h0).2.1⟩,fun k Ad Wd hk he wX hX=>?_⟩
 have e0:∀ j,eCell eWrite xs k j=((eWrite.enc ⟨Ad,Wd⟩)[j]?).getD (.bool false):=fun j=>by unfold eCell; rw [he]
 have c:∀ j,j < 2->wX.cell? ⟨g,k * 2+j,none⟩=some (eCell eWrite xs k j):=fun j hj=>h2 k hk j hj wX hX
 exact ⟨(c 0 (by omega)).trans (by rw [e0]; rfl),(c 1 (by omega)).trans (by rw [e0]; rfl)⟩
theorem bit0_any (x:Int) (h0:0<=x) (h1:x < 18446744073709551616) (w:World) :
  Calls Try.prog 74 #[.int .u64 x,.int .i64 0] w fun e w'=>e=.returned (.int .i64 (x % 2))/\w'=w:=by
 have hfl:∀ w:World,Calls Try.prog 75 #[.int .u64 x,.int .i64 0,.int .i64 1] w fun e w'=>e=.returned (.int .u64 (x % 2))/\w'=w:=fun w=>by
  go_enter Try.func75,Try.ntmps75
  go_wp2_with fail
  go_ret
  exact ⟨rfl,rfl⟩
 have hm:0<=x % 2/\x % 2 < 2:=by omega
 go_enter Try.func74,Try.ntmps74
 go_wp2_with (go_at_call 75; refine (hfl _).mono ?_; rintro e w1 ⟨rfl,hw1⟩; obtain rfl:=hw1.symm)
 go_ret
 exact ⟨rfl,rfl⟩
theorem meetS_any (p a q b:Int) (h0:0<=p/\p < 100000) (h1:0<=a/\a < 100000) (h2:0<=q/\q < 100000) (h3:0<=b/\b < 100000) (w:World) :
  Calls Try.prog 86 #[.int .i64 p,.int .i64 a,.int .i64 q,.int .i64 b] w fun e w'=>e=.returned (.bool (meets p a q b))/\w'=w:=by
 unfold meets
 by_cases c:p < q+b
 ·have c':decide (p < q+b)=true:=decide_eq_true c
  by_cases d:q < p+a
  ·have d':decide (q < p+a)=true:=decide_eq_true d
   rw [c',d']
   go_enter Try.func86,Try.ntmps86
   go_wp2_with fail
   go_ret
   exact ⟨rfl,rfl⟩
  ·have d':decide (q < p+a)=false:=decide_eq_false d
   rw [c',d']
   go_enter Try.func86,Try.ntmps86
   go_wp2_with fail
   go_ret
   exact ⟨rfl,rfl⟩
 ·have c':decide (p < q+b)=false:=decide_eq_false c
  rw [c']
  go_enter Try.func86,Try.ntmps86
  go_wp2_with fail
  go_ret
  exact ⟨by first | rfl | simp,rfl⟩
theorem hasFrS_any (a:Option Addr) (c b:Nat) (ps:List P3) (f:Int) (w:World) (hle:ps.length<=273) (hr:PRow w b (.slice a ps.length c) ps) :
  Calls Try.prog 145 #[.slice a ps.length c,.int .i64 f] w fun e w'=>e=.returned (.bool (plcHas ps f))/\w'=w:=by
 obtain ⟨gp,hp1,hp2⟩:=plc_cells hr
 have HP1:Hid _:=hp1
 have HP2:Hid _:=hp2
 clear hr hp1 hp2
 go_enter Try.func145,Try.ntmps145
 go_wp2_with fail
 go_loopw [5] (fun i wr=>∃ k:Nat,k<=ps.length/\i=.int .i64 k/\Hid (∀ j,j < k->decide ((pAt ps j).fr=f)=false)/\wr=w) (fun i _=>ps.length - (intOf i).toNat)
 case atStart=>exact ⟨0,Nat.zero_le _,rfl,fun j hj=>absurd hj (by omega),rfl⟩
 case round =>
  obtain ⟨k,hk,rfl,hall,rfl⟩:=hrel
  by_cases hlt:k < ps.length
  ·obtain ⟨E,hE⟩:∃ E,pAt ps k=E:=⟨_,rfl⟩
   obtain ⟨F,L,P⟩:=E
   obtain ⟨rfl,hgl⟩:=HP1.out (by omega)
   obtain ⟨c0,c1,c2⟩:=HP2.out k F L P hlt hE _ (Below.refl _ _)
   have HE:Hid (pAt ps k=_):=hE
   have L1:(0:Int)<=(k:Int):=by omega
   have L2:(k:Int) < (ps.length:Int):=by omega
   clear hE
   by_cases hf:F=f
   ·have d:(F == f)=true:=by simpa using hf
    have HR:Hid (plcHas ps f=true):=anyR_true _ k _ hlt (by rw [HE.out]; exact decide_eq_true hf)
    clear hf
    go_wp2_with fail
    go_ret
    exact ⟨by rw [HR.out]; rfl,rfl⟩
   ·have d:(F == f)=false:=by simpa using hf
    have HN:Hid (decide ((pAt ps k).fr=f)=false):=by rw [HE.out]; exact decide_eq_false hf
    clear hf
    go_wp2_with fail
    go_roundw
    case rel =>
     refine ⟨k+1,by omega,by go_num,fun j hj=>?_,by first | rfl | trivial⟩
     by_cases e:j=k
     ·rw [e]; exact HN.out
     ·exact hall.out j (by omega)
    case measure=>simp [intOf]; omega
  ·have HR:Hid (plcHas ps f=false):=anyR_false _ _ (fun j hj=>hall.out j (by omega))
   go_wp2_with fail
   go_ret
   exact ⟨by rw [HR.out]; rfl,rfl⟩
set_option maxRecDepth 100000 in
set_option maxHeartbeats 4000000 in
theorem latest_any (s:SV) (M:Mach) (b:Nat) (w:World) (hs:M.Small) (hm0:0 < M.mem.length) (hpa:∀ i,i < M.pend.length->0<=(eAt eWrite M.pend i).addr/\(eAt eWrite M.pend i).addr < M.mem.length) (h:MRow w b (s.mv M) M) :
  Calls Try.prog 85 #[.agg #[.slice s.a1 M.mem.length s.c1,.slice s.a2 M.pend.length s.c2,.slice s.a3 M.tlb.length s.c3,.slice s.a4 M.wc.length s.c4]] w fun e w'=>∃ g c,e=.returned (.agg #[.slice (some ⟨g,0,none⟩) M.mem.length c])/\ERow eWord w' w.heap.size (.slice (some ⟨g,0,none⟩) M.mem.length c) (lateL M)/\Below w.heap.size w w':=by
 have y1:=hs.w
 have y2:=hs.p
 obtain ⟨wb,hwb⟩:∃ wb,wb=(w.alloc (.cells #[.slice s.a1 M.mem.length s.c1,.slice s.a2 M.pend.length s.c2,.slice s.a3 M.tlb.length s.c3,.slice s.a4 M.wc.length s.c4] 38)).alloc (.cells #[.slice none 0 0] 25):=⟨_,rfl⟩
 have hbb:Below w.heap.size w wb:=by rw [hwb]; exact ((Below.refl _ _).alloc (Nat.le_refl _) _).alloc (by simp) _
 have hzb:wb.heap.size=w.heap.size+2:=by rw [hwb]; simp
 have HBOX:Hid (∀ wX,Below wb.heap.size wb wX->(wX.cell? ⟨w.heap.size,0,none⟩=some (.slice s.a1 M.mem.length s.c1)/\wX.cell? ⟨w.heap.size,1,none⟩=some (.slice s.a2 M.pend.length s.c2)/\wX.cell? ⟨w.heap.size,2,none⟩=some (.slice s.a3 M.tlb.length s.c3)/\wX.cell? ⟨w.heap.size,3,none⟩=some (.slice s.a4 M.wc.length s.c4))/\wX.cell? ⟨w.heap.size+1,0,none⟩=some (.slice none 0 0)/\wX.frozen? ⟨w.heap.size+1,0,none⟩=false):=fun wX hX=>by
  refine ⟨⟨?_,?_,?_,?_⟩,?_,?_⟩
  iterate 5 (exact (hX.cell (by simp; omega)).trans (by rw [hwb]; simp [go_sem]))
  exact (hX.frozen (by simp; omega)).trans (by rw [hwb]; simp [go_sem])
 have hrp:ERow eWrite w b (.slice s.a2 M.pend.length s.c2) M.pend:=h.p
 obtain ⟨gq,hq1,hq2⟩:=wrS_cells hrp
 have hcp:=copyMem_any (.slice s.a1 M.mem.length s.c1) M.mem b wb hs.w (h.below hbb).w
 rw [hwb] at hcp
 have HQ1:Hid _:=hq1
 have HQ2:Hid (∀ k Ad Wd,k < M.pend.length->eAt eWrite M.pend k=⟨Ad,Wd⟩->gq < w.heap.size->∀ wX,Below w.heap.size w wX->wX.cell? ⟨gq,k * 2,none⟩=some (.int .i64 Ad)/\wX.cell? ⟨gq,k * 2+1,none⟩=some (.int .u64 Wd)):=fun k Ad Wd hk he hl wX hX=>hq2 k Ad Wd hk he wX (hX.block gq hl)
 have HPA:Hid _:=hpa
 have HWB:Hid (wb=_):=hwb
 have HBB:Hid (Below w.heap.size w wb):=hbb
 have HZ:Hid (wb.heap.size=_):=hzb
 clear hwb hbb hzb h hrp hq1 hq2 hpa
 go_enter Try.func85,Try.ntmps85
 go_wp2_with fail
 refine hcp.mono ?_
 rintro e w1 ⟨g0,c0,rfl,hr1,hb1'⟩
 rw [<- HWB.out] at hr1
 have hb1:Below wb.heap.size wb w1:=by rw [HWB.out]; exact hb1'
 obtain ⟨X,hX⟩:∃ X,X=w1.heap.size:=⟨_,rfl⟩
 obtain ⟨wx,hwx⟩:∃ wx,wx=w1.alloc (.cells #[.slice (some ⟨g0,0,none⟩) M.mem.length c0] 25):=⟨_,rfl⟩
 have hg0:=hr1.own g0 rfl
 have bx:Below wb.heap.size wb wx:=by rw [hwx]; exact hb1.alloc hb1.size _
 have hrx:ERow eWord wx wb.heap.size (.slice (some ⟨g0,0,none⟩) M.mem.length c0) M.mem:=by rw [hwx]; exact hr1.below ((Below.refl _ _).alloc (Nat.le_refl _) _)
 have cx:wx.cell? ⟨X,0,none⟩=some (.slice (some ⟨g0,0,none⟩) M.mem.length c0):=by rw [hwx,hX]; simp [go_sem]
 have hzx:wx.heap.size=X+1:=by rw [hwx,hX]; simp
 have HWX:Hid (wx=_):=hwx
 have HRX:Hid _:=hrx
 have HBX:Hid (Below wb.heap.size wb wx):=bx
 have HCX:Hid _:=cx
 have HXX:Hid (X=w1.heap.size):=hX
 have HZX:Hid (wx.heap.size=_):=hzx
 have x01:g0 < X:=by omega
 have x02:wb.heap.size<=g0:=hg0.1
 clear hcp hb1' hr1 hwx bx hrx cx hzx hg0 hb1
 go_wp2_with fail
 rw [<- HWX.out,<- HXX.out]
 clear hX
 go_loopw [4] (fun i wr=>∃ k:Nat,k<=M.pend.length/\i=.int .i64 k/\ERow eWord wr wb.heap.size (.slice (some ⟨g0,0,none⟩) M.mem.length c0) (lateTo M k)/\Touch (fun q=>q=g0) wx wr) (fun i _=>M.pend.length - (intOf i).toNat)
 case atStart=>exact ⟨0,Nat.zero_le _,rfl,HRX.out,Touch.of_below (Below.refl _ _)⟩
 case round =>
  obtain ⟨k,hk,rfl,hrow,ht⟩:=hrel
  have hzx:=HZX.out
  have hsz:=ht.size
  have bW:Below wb.heap.size wb wr:=Touch.below HBX.out ht (by omega) (fun q hq=>by omega)
  have bW0:Below w.heap.size w wr:=HBB.out.trans (bW.mono (by have:=HZ.out; omega))
  obtain ⟨⟨m0,m1,m2,m3⟩,z0,z1⟩:=HBOX.out wr bW
  have cX:=(World.cell?_of_block (a:=⟨X,0,none⟩) (ht.block X (by omega) (by show ¬ X=g0; omega))).trans HCX.out
  have N0:w.heap.size < wr.heap.size:=by have:=HZ.out; have:=bW.size; omega
  have N1:w.heap.size+1 < wr.heap.size:=by have:=HZ.out; have:=bW.size; omega
  have N2:¬ w.heap.size=g0:=by have:=HZ.out; omega
  have N3:¬ w.heap.size+1=g0:=by have:=HZ.out; omega
  by_cases hlt:k < M.pend.length
  ·obtain ⟨hae,hgl⟩:=HQ1.out (by omega)
   obtain ⟨E,hE⟩:∃ E,eAt eWrite M.pend k=E:=⟨_,rfl⟩
   obtain ⟨Ad0,Wd⟩:=E
   have hpa:=HPA.out k hlt
   rw [hE] at hpa
   obtain ⟨Ad,hAd⟩:∃ Ad:Nat,Ad0=Ad:=⟨Ad0.toNat,by have:=hpa.1; dsimp only at this; omega⟩
   subst hAd
   have hpa2:Ad < M.mem.length:=by have:=hpa.2; dsimp only at this; omega
   have hls:=lateTo_succ M k hlt
   rw [hE] at hls
   have hls2:lateTo M (k+1)=(lateTo M k).set Ad Wd:=by rw [hls]; rfl
   have hll:=lateTo_length M k (by omega)
   obtain ⟨pc0,pc1⟩:=HQ2.out k Ad Wd hlt hE hgl wr bW0
   have hrow2:ERow eWord wr wb.heap.size (.slice (some ⟨g0,0,none⟩) (lateTo M k).length c0) (lateTo M k):=by rw [hll]; exact hrow
   obtain ⟨_,hlc,_,f,hr,hf⟩:=hrow2.full
   have hr':wr.rowIs g0 eWord.T (c0 * 1) f:=hr
   have oA:=hr'.cell (i:=Ad) (by omega)
   have zA:=hr'.frozen Ad
   generalize f Ad=vA at oA
   have HKK:Hid (∀ wX:World,(∀ q,q ≠ g0->wX.heap[q]?=wr.heap[q]?)->wX.cell? ⟨X,0,none⟩=some (.slice (some ⟨g0,0,none⟩) M.mem.length c0)/\wX.cell? ⟨w.heap.size,1,none⟩=some (.slice (some ⟨gq,0,none⟩) M.pend.length s.c2)/\(wX.cell? ⟨gq,k * 2,none⟩=some (.int .i64 Ad)/\wX.cell? ⟨gq,k * 2+1,none⟩=some (.int .u64 Wd))):=fun wX hX =>
    ⟨(World.cell?_of_block (hX X (by omega))).trans cX,(World.cell?_of_block (hX w.heap.size N2)).trans (by rw [<- hae]; exact m1),(World.cell?_of_block (hX gq (by have:=HZ.out; omega))).trans pc0,(World.cell?_of_block (hX gq (by have:=HZ.out; omega))).trans pc1⟩
   have HROW:Hid (ERow eWord wr wb.heap.size (.slice (some ⟨g0,0,none⟩) M.mem.length c0) (lateTo M k)):=hrow
   have HT:Hid (Touch (fun q=>q=g0) wx wr):=ht
   have HLS:Hid (lateTo M (k+1)=_):=hls2
   have HLL:Hid ((lateTo M k).length=_):=hll
   have L1:(0:Int)<=(k:Int):=by omega
   have L2:(k:Int) < (M.pend.length:Int):=by omega
   have L3:(0:Int)<=(Ad:Int):=by omega
   have L4:(Ad:Int) < (M.mem.length:Int):=by omega
   clear hrow ht hE hpa hls hls2 hll hr hr' hf hrow2 hae bW bW0
   go_wp2_with fail
   refine wp_region_held_drew (S:=(fun wX=>wX.cell? ⟨X,0,none⟩=some (.slice (some ⟨g0,0,none⟩) M.mem.length c0)/\wX.cell? ⟨w.heap.size,1,none⟩=some (.slice (some ⟨gq,0,none⟩) M.pend.length s.c2)/\(wX.cell? ⟨gq,k * 2,none⟩=some (.int .i64 Ad)/\wX.cell? ⟨gq,k * 2+1,none⟩=some (.int .u64 Wd)))) (by kernel_rfl) (HKK.out wr.drew (fun q hq=>rfl)) (fun hHeld=>?_)
   refine tk 0 ?_
   refine tk 1 ?_
   refine tk 2 ?_
   refine tk 3 ?_
   refine tk 4 ?_
   refine tk 5 ?_
   refine tk 6 ?_
   refine tk 7 ?_
   refine tk 8 ?_
   refine tk 9 ?_
   refine tk 10 ?_
   refine tk 11 ?_
   refine tk 12 ?_
   refine tk 13 ?_
   refine tk 14 ?_
   refine wpAnyH_ready (rs:=[15]) (by kernel_rfl) (by simp) ?_
   refine AllReadyH.cons rfl (fun K hK=>?_) AllReadyH.nil
   go_simp
   refine hK.out _ _ (HKK.out _ (fun q hq=>Below.heap_setCell _ _ _ _ hq)) (fun hHeld5=>?_)
   clear hK K
   refine wpAnyH_done (by kernel_rfl) ?_ _
   go_wp2_with fail
   go_roundw
   case rel =>
    refine ⟨k+1,by omega,by go_num,?_,?_⟩
    ·rw [HLS.out]
     exact ERow.setWord (HROW.out.below ((Below.refl _ _).drew)) Ad (by rw [HLL.out]; exact hpa2) Wd
    ·exact HT.out.then (S':=fun q=>q=g0) ⟨rfl,rfl,rfl,by simp,fun q hq hn=>Below.heap_setCell _ _ _ _ hn⟩ (fun q _ e=>e)
   case measure=>simp [intOf]; omega
  ·obtain rfl:k=M.pend.length:=by omega
   rw [lateTo_all] at hrow
   have HROW:Hid (ERow eWord wr wb.heap.size (.slice (some ⟨g0,0,none⟩) M.mem.length c0) (lateL M)):=hrow
   have HBW:Hid (Below w.heap.size w wr):=bW0
   have HX2:Hid (wb.heap.size<=g0):=x02
   clear hrow ht bW bW0
   go_wp2_with fail
   refine bodyPost_ret (v:=.agg #[.slice (some ⟨g0,0,none⟩) M.mem.length c0]) (by simp [results,Try.results85,go_sem,z0]) rfl ⟨g0,c0,rfl,?_,HBW.out.setCell (by dsimp only; omega) _⟩
   refine ERow.rebase (base:=wb.heap.size) (HROW.out.touch (S:=fun q=>q=w.heap.size+1) ⟨rfl,rfl,rfl,by simp,fun q hq hn=>Below.heap_setCell _ _ _ _ hn⟩ (fun q hq e=>?_)) (by have:=HZ.out; omega)
   have h1:g0=q:=by simpa [Value.ownBlock] using hq
   have h2:=HX2.out
   have h3:=HZ.out
   omega
set_option maxRecDepth 100000 in
set_option maxHeartbeats 4000000 in
theorem cachS_any (s:SV) (M:Mach) (b:Nat) (lv fs cL:Int) (w:World) (hs:M.Small) (hv:validB M=true) (hf0:0<=fs/\fs < 100000) (hc0:0<=cL/\cL < 100000) (h:MRow w b (s.mv M) M) :
  Calls Try.prog 144 #[.agg #[.slice s.a1 M.mem.length s.c1,.slice s.a2 M.pend.length s.c2,.slice s.a3 M.tlb.length s.c3,.slice s.a4 M.wc.length s.c4],.int .i64 lv,.int .i64 fs,.int .i64 cL] w fun e w'=>e=.returned (.bool (cachedB M lv fs cL))/\Below w.heap.size w w':=by
 have y3:=hs.t
 have y4:=hs.c
 obtain ⟨wb,hwb⟩:∃ wb,wb=w.alloc (.cells #[.slice s.a1 M.mem.length s.c1,.slice s.a2 M.pend.length s.c2,.slice s.a3 M.tlb.length s.c3,.slice s.a4 M.wc.length s.c4] 38):=⟨_,rfl⟩
 have hbb:Below w.heap.size w wb:=by rw [hwb]; exact (Below.refl _ _).alloc (Nat.le_refl _) _
 have hzb:wb.heap.size=w.heap.size+1:=by rw [hwb]; simp
 have HBOX:Hid (∀ wX,Below wb.heap.size wb wX->wX.cell? ⟨w.heap.size,0,none⟩=some (.slice s.a1 M.mem.length s.c1)/\wX.cell? ⟨w.heap.size,1,none⟩=some (.slice s.a2 M.pend.length s.c2)/\wX.cell? ⟨w.heap.size,2,none⟩=some (.slice s.a3 M.tlb.length s.c3)/\wX.cell? ⟨w.heap.size,3,none⟩=some (.slice s.a4 M.wc.length s.c4)):=fun wX hX=>by
  refine ⟨?_,?_,?_,?_⟩
  iterate 4 (exact (hX.cell (by simp; omega)).trans (by rw [hwb]; simp [go_sem]))
 have hrt:ERow eTlb w b (.slice s.a3 M.tlb.length s.c3) M.tlb:=h.t
 have hrc:ERow eWc w b (.slice s.a4 M.wc.length s.c4) M.wc:=h.c
 obtain ⟨gt,ht1,ht2⟩:=tlbS_cells hrt
 obtain ⟨gw,hw1,hw2⟩:=wcS_cells hrc
 have HT:Hid (∀ k P S O R D,k < M.tlb.length->eAt eTlb M.tlb k=⟨P,S,O,R,D⟩->s.a3=some ⟨gt,0,none⟩/\gt < w.heap.size/\∀ wX,Below wb.heap.size wb wX->wX.cell? ⟨gt,k * 5,none⟩=some (.int .i64 P)/\wX.cell? ⟨gt,k * 5+1,none⟩=some (.int .i64 S)/\wX.cell? ⟨gt,k * 5+2,none⟩=some (.int .i64 O)/\wX.cell? ⟨gt,k * 5+3,none⟩=some (.int .i64 R)/\wX.cell? ⟨gt,k * 5+4,none⟩=some (.bool D)):=fun k P S O R D hk he=>by
  obtain ⟨e1,e2⟩:=ht1 (by omega)
  exact ⟨e1,e2,fun wX hX=>ht2 k P S O R D hk he wX ((hbb.trans (hX.mono (by omega))).block gt e2)⟩
 have HW:Hid (∀ k L P T D,k < M.wc.length->eAt eWc M.wc k=⟨L,P,T,D⟩->s.a4=some ⟨gw,0,none⟩/\gw < w.heap.size/\∀ wX,Below wb.heap.size wb wX->wX.cell? ⟨gw,k * 4,none⟩=some (.int .i64 L)/\wX.cell? ⟨gw,k * 4+1,none⟩=some (.int .i64 P)/\wX.cell? ⟨gw,k * 4+2,none⟩=some (.int .i64 T)/\wX.cell? ⟨gw,k * 4+3,none⟩=some (.bool D)):=fun k L P T D hk he=>by
  obtain ⟨e1,e2⟩:=hw1 (by omega)
  exact ⟨e1,e2,fun wX hX=>hw2 k L P T D hk he wX ((hbb.trans (hX.mono (by omega))).block gw e2)⟩
 have HV:Hid (validB M=true):=hv
 have HWB:Hid (wb=_):=hwb
 have HBB:Hid (Below w.heap.size w wb):=hbb
 have HZ:Hid (wb.heap.size=_):=hzb
 clear hwb hbb hzb h hrt hrc ht1 ht2 hw1 hw2 hv
 go_enter Try.func144,Try.ntmps144
 go_wp2_with fail
 rw [<- HWB.out]
 go_loopw [9] (fun i wr=>∃ k:Nat,k<=M.tlb.length/\i=.int .i64 k/\Hid (∀ j,j < k->cachT M fs cL j=false)/\Below wb.heap.size wb wr) (fun i _=>M.tlb.length - (intOf i).toNat)
 case atStart=>exact ⟨0,Nat.zero_le _,rfl,fun j hj=>absurd hj (by omega),Below.refl _ _⟩
 case round =>
  obtain ⟨k,hk,rfl,hall,hb⟩:=hrel
  obtain ⟨m0,m1,m2,m3⟩:=HBOX.out wr hb
  by_cases hlt:k < M.tlb.length
  ·obtain ⟨E,hE⟩:∃ E,eAt eTlb M.tlb k=E:=⟨_,rfl⟩
   obtain ⟨P,S,O,R,D⟩:=E
   obtain ⟨hae,hgl,hcs⟩:=HT.out k P S O R D hlt hE
   have htv:=valid_tlb HV.out k hlt
   rw [hE] at htv
   have hts:(0<=P/\P < 100000)/\(0<=S/\S < 100000):=by
    simp only [tlbOkB,pageOk,Bool.and_eq_true,Bool.or_eq_true,decide_eq_true_eq] at htv
    omega
   have hmt:=meetS_any fs cL P S hf0 hc0 hts.1 hts.2
   rw [meets_comm] at hmt
   have HCT:Hid (cachT M fs cL k=meets P S fs cL):=by unfold cachT; rw [hE]; rfl
   have HKK:Hid (∀ wX,Below wr.heap.size wr wX->wX.cell? ⟨w.heap.size,2,none⟩=some (.slice (some ⟨gt,0,none⟩) M.tlb.length s.c3)/\(wX.cell? ⟨gt,k * 5,none⟩=some (.int .i64 P)/\wX.cell? ⟨gt,k * 5+1,none⟩=some (.int .i64 S)/\wX.cell? ⟨gt,k * 5+2,none⟩=some (.int .i64 O)/\wX.cell? ⟨gt,k * 5+3,none⟩=some (.int .i64 R)/\wX.cell? ⟨gt,k * 5+4,none⟩=some (.bool D))):=fun wX hX=>⟨by rw [<- hae]; exact (HBOX.out wX (hb.trans (hX.mono hb.size))).2.2.1,hcs wX (hb.trans (hX.mono hb.size))⟩
   have m2':wr.cell? ⟨w.heap.size,2,none⟩=some (.slice (some ⟨gt,0,none⟩) M.tlb.length s.c3):=by rw [<- hae]; exact m2
   have L1:(0:Int)<=(k:Int):=by omega
   have L2:(k:Int) < (M.tlb.length:Int):=by omega
   have HB:Hid (Below wb.heap.size wb wr):=hb
   clear hae hcs htv hts hE hb m2
   cases hm:meets P S fs cL <;> rw [hm] at hmt
   ·have HF:Hid (cachT M fs cL k=false):=by rw [HCT.out]; exact hm
    clear hm
    go_wp2_with fail
    refine wp_region_held_drew (S:=(fun wX=>wX.cell? ⟨w.heap.size,2,none⟩=some (.slice (some ⟨gt,0,none⟩) M.tlb.length s.c3)/\(wX.cell? ⟨gt,k * 5,none⟩=some (.int .i64 P)/\wX.cell? ⟨gt,k * 5+1,none⟩=some (.int .i64 S)/\wX.cell? ⟨gt,k * 5+2,none⟩=some (.int .i64 O)/\wX.cell? ⟨gt,k * 5+3,none⟩=some (.int .i64 R)/\wX.cell? ⟨gt,k * 5+4,none⟩=some (.bool D)))) (by kernel_rfl) (HKK.out _ ((Below.refl _ _).drew)) (fun hHeld=>?_)
    refine tk 0 ?_
    refine tk 1 ?_
    refine tk 2 ?_
    refine tk 3 ?_
    refine tk 4 ?_
    refine tk 5 ?_
    refine tk 6 ?_
    refine tk 7 ?_
    refine tk 8 ?_
    refine tk 9 ?_
    refine tk 10 ?_
    refine tk 11 ?_
    refine tk 12 ?_
    refine tk 13 ?_
    refine wpAnyH_ready (rs:=[14]) (by kernel_rfl) (by simp) ?_
    refine AllReadyH.cons rfl (fun K hK=>?_) AllReadyH.nil
    go_simp
    go_at_call 86
    refine (hmt _).mono ?_
    rintro e w2 ⟨rfl,hw2⟩
    obtain rfl:=hw2.symm
    go_wp2_with fail
    refine hK.out _ _ (HKK.out _ ((Below.refl _ _).drew)) (fun hHeld2=>?_)
    clear hK K
    refine wpAnyH_done (by kernel_rfl) ?_ _
    go_wp2_with fail
    go_roundw
    case rel =>
     refine ⟨k+1,by omega,by go_num,fun j hj=>?_,HB.out.drew⟩
     by_cases e:j=k
     ·rw [e]; exact HF.out
     ·exact hall.out j (by omega)
    case measure=>simp [intOf]; omega
   ·have HR:Hid (cachedB M lv fs cL=true):=by unfold cachedB; rw [anyR_true _ k _ hlt (by rw [HCT.out]; exact hm)]; rfl
    clear hm
    go_wp2_with fail
    refine wp_region_held_drew (S:=(fun wX=>wX.cell? ⟨w.heap.size,2,none⟩=some (.slice (some ⟨gt,0,none⟩) M.tlb.length s.c3)/\(wX.cell? ⟨gt,k * 5,none⟩=some (.int .i64 P)/\wX.cell? ⟨gt,k * 5+1,none⟩=some (.int .i64 S)/\wX.cell? ⟨gt,k * 5+2,none⟩=some (.int .i64 O)/\wX.cell? ⟨gt,k * 5+3,none⟩=some (.int .i64 R)/\wX.cell? ⟨gt,k * 5+4,none⟩=some (.bool D)))) (by kernel_rfl) (HKK.out _ ((Below.refl _ _).drew)) (fun hHeld=>?_)
    refine tk 0 ?_
    refine tk 1 ?_
    refine tk 2 ?_
    refine tk 3 ?_
    refine tk 4 ?_
    refine tk 5 ?_
    refine tk 6 ?_
    refine tk 7 ?_
    refine tk 8 ?_
    refine tk 9 ?_
    refine tk 10 ?_
    refine tk 11 ?_
    refine tk 12 ?_
    refine tk 13 ?_
    refine wpAnyH_ready (rs:=[14]) (by kernel_rfl) (by simp) ?_
    refine AllReadyH.cons rfl (fun K hK=>?_) AllReadyH.nil
    go_simp
    go_at_call 86
    refine (hmt _).mono ?_
    rintro e w2 ⟨rfl,hw2⟩
    obtain rfl:=hw2.symm
    go_wp2_with fail
    refine hK.out _ _ (HKK.out _ ((Below.refl _ _).drew)) (fun hHeld2=>?_)
    clear hK K
    refine wpAnyH_done (by kernel_rfl) ?_ _
    go_wp2_with fail
    go_ret
    exact ⟨by rw [HR.out]; rfl,HBB.out.trans (HB.out.drew.mono HBB.out.size)⟩
  ·have HTN:Hid (anyR (cachT M fs cL) M.tlb.length=false):=anyR_false _ _ (fun j hj=>hall.out j (by omega))
   obtain ⟨wA,rfl⟩:∃ wA:World,wA=wr:=⟨_,rfl⟩
   have HBA:Hid (Below wb.heap.size wb wA):=hb
   have L9:¬ (k:Int) < (M.tlb.length:Int):=by omega
   clear hall hb
   go_wp2_with fail
   clear m0 m1 m2 m3
   go_loopw [10] (fun i wr=>∃ k:Nat,k<=M.wc.length/\i=.int .i64 k/\Hid (∀ j,j < k->cachW M lv fs cL j=false)/\Below wb.heap.size wb wr) (fun i _=>M.wc.length - (intOf i).toNat)
   case atStart=>exact ⟨0,Nat.zero_le _,rfl,fun j hj=>absurd hj (by omega),HBA.out⟩
   case round =>
    obtain ⟨k,hk,rfl,hall,hb⟩:=hrel
    obtain ⟨m0,m1,m2,m3⟩:=HBOX.out wr hb
    by_cases hlt:k < M.wc.length
    ·obtain ⟨E,hE⟩:∃ E,eAt eWc M.wc k=E:=⟨_,rfl⟩
     obtain ⟨L2,P,T,D⟩:=E
     obtain ⟨hae,hgl,hcs⟩:=HW.out k L2 P T D hlt hE
     have htv:=valid_wc HV.out k hlt
     rw [hE] at htv
     have hts:(0<=P/\P < 100000)/\(L2=2\/L2=3):=by
      simp only [wcOkB,pageOk,Bool.and_eq_true,Bool.or_eq_true,decide_eq_true_eq] at htv
      omega
     have hcv:=covers_any (L2 - 1)
     obtain ⟨S,hS⟩:∃ S,S=cov (L2 - 1):=⟨_,rfl⟩
     have hS2:S=16 * cov L2:=by rw [hS]; rcases hts.2 with rfl | rfl <;> decide
     have hS3:0<=S/\S < 100000:=by rw [hS]; rcases hts.2 with rfl | rfl <;> decide
     rw [<- hS] at hcv
     have hmt:=meetS_any fs cL P S hf0 hc0 hts.1 hS3
     rw [meets_comm] at hmt
     have W1:IntKind.i64.wrap (L2 - 1)=L2 - 1:=by rw [IntKind.wrap_i64]; omega
     have HCT:Hid (cachW M lv fs cL k=(decide (lv < L2) && meets P S fs cL)):=by unfold cachW; rw [hE,hS2]; rfl
     obtain ⟨wx,hwx⟩:∃ wx,wx=wr.alloc (.cells #[.int .i64 L2,.int .i64 P,.int .i64 T,.bool D] 74):=⟨_,rfl⟩
     have bx:Below wb.heap.size wb wx:=by rw [hwx]; exact hb.alloc hb.size _
     have hzx:wx.heap.size=wr.heap.size+1:=by rw [hwx]; simp
     have HKX:Hid (∀ wX,Below wx.heap.size wx wX->wX.cell? ⟨wr.heap.size,0,none⟩=some (.int .i64 L2)/\wX.cell? ⟨wr.heap.size,1,none⟩=some (.int .i64 P)/\wX.cell? ⟨wr.heap.size,2,none⟩=some (.int .i64 T)/\wX.cell? ⟨wr.heap.size,3,none⟩=some (.bool D)):=fun wX hX=>by
      refine ⟨?_,?_,?_,?_⟩
      iterate 4 (exact (hX.cell (by simp; omega)).trans (by rw [hwx]; simp [go_sem]))
     obtain ⟨c0,c1,c2,c3⟩:=hcs wr hb
     have m3':wr.cell? ⟨w.heap.size,3,none⟩=some (.slice (some ⟨gw,0,none⟩) M.wc.length s.c4):=by rw [<- hae]; exact m3
     have HWX:Hid (wx=_):=hwx
     have HBX:Hid (Below wb.heap.size wb wx):=bx
     have L1:(0:Int)<=(k:Int):=by omega
     have L2':(k:Int) < (M.wc.length:Int):=by omega
     clear hae hcs htv hts hE hb m3 hS hS2 hwx bx hzx
     by_cases hLL:lv < L2
     ·have dL:decide (lv < L2)=true:=decide_eq_true hLL
      cases hm:meets P S fs cL <;> rw [hm] at hmt
      ·have HF:Hid (cachW M lv fs cL k=false):=by rw [HCT.out,hm,Bool.and_false]; rfl
       clear hm
       go_wp2_with fail
       rw [<- HWX.out]
       refine wp_region_held_drew (S:=(fun wX=>wX.cell? ⟨wr.heap.size,0,none⟩=some (.int .i64 L2)/\wX.cell? ⟨wr.heap.size,1,none⟩=some (.int .i64 P)/\wX.cell? ⟨wr.heap.size,2,none⟩=some (.int .i64 T)/\wX.cell? ⟨wr.heap.size,3,none⟩=some (.bool D))) (by kernel_rfl) (HKX.out _ ((Below.refl _ _).drew)) (fun hHeld=>?_)
       refine tk 0 ?_
       refine tk 1 ?_
       refine tk 2 ?_
       refine tk 3 ?_
       refine tk 4 ?_
       refine tk 5 ?_
       refine tk 6 ?_
       refine tk 7 ?_
       refine tk 8 ?_
       refine tk 9 ?_
       refine tk 10 ?_
       refine tk 11 ?_
       refine wpAnyH_ready (rs:=[12]) (by kernel_rfl) (by simp) ?_
       refine AllReadyH.cons rfl (fun K hK=>?_) AllReadyH.nil
       go_simp
       go_at_call 87
       refine (hcv _).mono ?_
       rintro e w2 ⟨rfl,hw2⟩
       obtain rfl:=hw2.symm
       go_wp2_with fail
       refine hK.out _ _ (HKX.out _ ((Below.refl _ _).drew)) (fun hHeld2=>?_)
       clear hK K
       refine wpAnyH_ready (rs:=[13]) (by kernel_rfl) (by simp) ?_
       refine AllReadyH.cons rfl (fun K hK=>?_) AllReadyH.nil
       go_simp
       go_at_call 86
       refine (hmt _).mono ?_
       rintro e w2 ⟨rfl,hw2⟩
       obtain rfl:=hw2.symm
       go_wp2_with fail
       refine hK.out _ _ (HKX.out _ ((Below.refl _ _).drew)) (fun hHeld2=>?_)
       clear hK K
       refine tk 14 ?_
       refine wpAnyH_done (by kernel_rfl) ?_ _
       go_wp2_with fail
       go_roundw
       case rel =>
        refine ⟨k+1,by omega,by go_num,fun j hj=>?_,HBX.out.drew⟩
        by_cases e:j=k
        ·rw [e]; exact HF.out
        ·exact hall.out j (by omega)
       case measure=>simp [intOf]; omega
      ·have HR:Hid (cachedB M lv fs cL=true):=by unfold cachedB; rw [anyR_true (cachW M lv fs cL) k _ hlt (by rw [HCT.out,hm,dL]; rfl),Bool.or_true]; rfl
       clear hm
       go_wp2_with fail
       rw [<- HWX.out]
       refine wp_region_held_drew (S:=(fun wX=>wX.cell? ⟨wr.heap.size,0,none⟩=some (.int .i64 L2)/\wX.cell? ⟨wr.heap.size,1,none⟩=some (.int .i64 P)/\wX.cell? ⟨wr.heap.size,2,none⟩=some (.int .i64 T)/\wX.cell? ⟨wr.heap.size,3,none⟩=some (.bool D))) (by kernel_rfl) (HKX.out _ ((Below.refl _ _).drew)) (fun hHeld=>?_)
       refine tk 0 ?_
       refine tk 1 ?_
       refine tk 2 ?_
       refine tk 3 ?_
       refine tk 4 ?_
       refine tk 5 ?_
       refine tk 6 ?_
       refine tk 7 ?_
       refine tk 8 ?_
       refine tk 9 ?_
       refine tk 10 ?_
       refine tk 11 ?_
       refine wpAnyH_ready (rs:=[12]) (by kernel_rfl) (by simp) ?_
       refine AllReadyH.cons rfl (fun K hK=>?_) AllReadyH.nil
       go_simp
       go_at_call 87
       refine (hcv _).mono ?_
       rintro e w2 ⟨rfl,hw2⟩
       obtain rfl:=hw2.symm
       go_wp2_with fail
       refine hK.out _ _ (HKX.out _ ((Below.refl _ _).drew)) (fun hHeld2=>?_)
       clear hK K
       refine wpAnyH_ready (rs:=[13]) (by kernel_rfl) (by simp) ?_
       refine AllReadyH.cons rfl (fun K hK=>?_) AllReadyH.nil
       go_simp
       go_at_call 86
       refine (hmt _).mono ?_
       rintro e w2 ⟨rfl,hw2⟩
       obtain rfl:=hw2.symm
       go_wp2_with fail
       refine hK.out _ _ (HKX.out _ ((Below.refl _ _).drew)) (fun hHeld2=>?_)
       clear hK K
       refine tk 14 ?_
       refine wpAnyH_done (by kernel_rfl) ?_ _
       go_wp2_with fail
       go_ret
       exact ⟨by rw [HR.out]; rfl,HBB.out.trans (HBX.out.drew.mono HBB.out.size)⟩
     ·have dL:decide (lv < L2)=false:=decide_eq_false hLL
      have HF:Hid (cachW M lv fs cL k=false):=by rw [HCT.out,dL]; rfl
      go_wp2_with fail
      rw [<- HWX.out]
      refine wp_region_held_drew (S:=(fun wX=>wX.cell? ⟨wr.heap.size,0,none⟩=some (.int .i64 L2)/\wX.cell? ⟨wr.heap.size,1,none⟩=some (.int .i64 P)/\wX.cell? ⟨wr.heap.size,2,none⟩=some (.int .i64 T)/\wX.cell? ⟨wr.heap.size,3,none⟩=some (.bool D))) (by kernel_rfl) (HKX.out _ ((Below.refl _ _).drew)) (fun hHeld=>?_)
      refine tk 0 ?_
      refine tk 1 ?_
      refine tk 2 ?_
      refine tk 3 ?_
      refine tk 4 ?_
      refine sk 5 ?_
      refine sk 6 ?_
      refine sk 7 ?_
      refine sk 8 ?_
      refine sk 9 ?_
      refine sk 10 ?_
      refine sk 11 ?_
      refine sk 12 ?_
      refine sk 13 ?_
      refine tk 14 ?_
      refine wpAnyH_done (by kernel_rfl) ?_ _
      go_wp2_with fail
      go_roundw
      case rel =>
       refine ⟨k+1,by omega,by go_num,fun j hj=>?_,HBX.out.drew⟩
       by_cases e:j=k
       ·rw [e]; exact HF.out
       ·exact hall.out j (by omega)
      case measure=>simp [intOf]; omega
    ·have HR:Hid (cachedB M lv fs cL=false):=by unfold cachedB; rw [HTN.out,anyR_false _ _ (fun j hj=>hall.out j (by omega))]; rfl
     have L8:¬ (k:Int) < (M.wc.length:Int):=by omega
     go_wp2_with fail
     go_ret
     exact ⟨by rw [HR.out]; rfl,HBB.out.trans (hb.mono HBB.out.size)⟩
end Go.Proofs.Ytnmhkgmmpkjjeaa
