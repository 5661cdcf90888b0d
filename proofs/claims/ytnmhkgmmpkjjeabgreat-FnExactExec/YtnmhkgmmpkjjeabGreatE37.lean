import Derived.Test.YtnmhkgmmpkjjeabGreatE36
namespace Go.Proofs.YtnmhkgmmpkjjeabGreat
open ChangeShapes WideShapes ChangeAt RowKit Proofs.Tryz
set_option linter.all false
set_option maxRecDepth 100000
set_option maxHeartbeats 4000000
attribute [local go_sem ↓] wp_at_zero wp_at_succ
theorem Eu{w:World}{b c:Nat}{a:Option Addr}{xs:List Am}(h:A6 A7 w b (.slice a xs.length c) xs):∃g,(0<xs.length->a=some ⟨g,0,none⟩/\g<w.heap.size)/\∀k P S O R D,k<xs.length->A8 A7 xs k=⟨P,S,O,R,D⟩->∀wX:World,wX.heap[g]?=w.heap[g]?->wX.cell? ⟨g,k*5,none⟩=some (.int .i64 P)/\wX.cell? ⟨g,k*5+1,none⟩=some (.int .i64 S)/\wX.cell? ⟨g,k*5+2,none⟩=some (.int .i64 O)/\wX.cell? ⟨g,k*5+3,none⟩=some (.int .i64 R)/\wX.cell? ⟨g,k*5+4,none⟩=some (.bool D):=by
 obtain⟨g,h1,h2⟩:=h.cellsB;refine⟨g,fun h0=>⟨(h1 h0).1,(h1 h0).2.1⟩,fun k P S O R D hk he wX hX=>?_⟩;have e0:∀j,AL A7 xs k j=((A7.enc ⟨P,S,O,R,D⟩)[j]?).getD (.bool false):=fun j=>by unfold AL;rw[he]
 have c:∀j,j<5->wX.cell? ⟨g,k*5+j,none⟩=some (AL A7 xs k j):=fun j hj=>h2 k hk j hj wX hX
 exact⟨(c 0 (by omega)).trans (by rw[e0];rfl),(c 1 (by omega)).trans (by rw[e0];rfl),(c 2 (by omega)).trans (by rw[e0];rfl),(c 3 (by omega)).trans (by rw[e0];rfl),(c 4 (by omega)).trans (by rw[e0];rfl)⟩
theorem EM{w:World}{b c:Nat}{a:Option Addr}{xs:List CI}(h:A6 AJ w b (.slice a xs.length c) xs):∃g,(0<xs.length->a=some ⟨g,0,none⟩/\g<w.heap.size)/\∀k L P T D,k<xs.length->A8 AJ xs k=⟨L,P,T,D⟩->∀wX:World,wX.heap[g]?=w.heap[g]?->wX.cell? ⟨g,k*4,none⟩=some (.int .i64 L)/\wX.cell? ⟨g,k*4+1,none⟩=some (.int .i64 P)/\wX.cell? ⟨g,k*4+2,none⟩=some (.int .i64 T)/\wX.cell? ⟨g,k*4+3,none⟩=some (.bool D):=by
 obtain⟨g,h1,h2⟩:=h.cellsB;refine⟨g,fun h0=>⟨(h1 h0).1,(h1 h0).2.1⟩,fun k L P T D hk he wX hX=>?_⟩;have e0:∀j,AL AJ xs k j=((AJ.enc ⟨L,P,T,D⟩)[j]?).getD (.bool false):=fun j=>by unfold AL;rw[he]
 have c:∀j,j<4->wX.cell? ⟨g,k*4+j,none⟩=some (AL AJ xs k j):=fun j hj=>h2 k hk j hj wX hX
 exact⟨(c 0 (by omega)).trans (by rw[e0];rfl),(c 1 (by omega)).trans (by rw[e0];rfl),(c 2 (by omega)).trans (by rw[e0];rfl),(c 3 (by omega)).trans (by rw[e0];rfl)⟩
theorem KW{w:World}{b c:Nat}{a:Option Addr}{xs:List BJ}(h:A6 AA w b (.slice a xs.length c) xs):∃g,(0<xs.length->a=some ⟨g,0,none⟩/\g<w.heap.size)/\∀k Ad Wd,k<xs.length->A8 AA xs k=⟨Ad,Wd⟩->∀wX:World,wX.heap[g]?=w.heap[g]?->wX.cell? ⟨g,k*2,none⟩=some (.int .i64 Ad)/\wX.cell? ⟨g,k*2+1,none⟩=some (.int .u64 Wd):=by
 obtain⟨g,h1,h2⟩:=h.cellsB;refine⟨g,fun h0=>⟨(h1 h0).1,(h1 h0).2.1⟩,fun k Ad Wd hk he wX hX=>?_⟩;have e0:∀j,AL AA xs k j=((AA.enc ⟨Ad,Wd⟩)[j]?).getD (.bool false):=fun j=>by unfold AL;rw[he]
 have c:∀j,j<2->wX.cell? ⟨g,k*2+j,none⟩=some (AL AA xs k j):=fun j hj=>h2 k hk j hj wX hX
 exact⟨(c 0 (by omega)).trans (by rw[e0];rfl),(c 1 (by omega)).trans (by rw[e0];rfl)⟩
theorem Ik(x:Int)(h0:0<=x)(h1:x<18446744073709551616)(w:World):Calls prog 113 #[.int .u64 x,.int .i64 0] w fun e w'=>e=.returned (.int .i64 (x%2))/\w'=w:=by
 have hfl:∀w:World,Calls prog 141 #[.int .u64 x,.int .i64 0,.int .i64 1] w fun e w'=>e=.returned (.int .u64 (x%2))/\w'=w:=fun w=>by
  go_enter func141,ntmps141
  go_wp2_with fail
  go_ret;exact⟨rfl,rfl⟩
 have hm:0<=x%2/\x%2<2:=by omega
 go_enter func113,ntmps113
 go_wp2_with (go_at_call 141;refine(hfl _).mono ?_;rintro e w1 ⟨rfl,hw1⟩;obtain rfl:=hw1.symm)
 go_ret;exact⟨rfl,rfl⟩
theorem ET(p a q b:Int)(h0:0<=p/\p<100000)(h1:0<=a/\a<100000)(h2:0<=q/\q<100000)(h3:0<=b/\b<100000)(w:World):Calls prog 70 #[.int .i64 p,.int .i64 a,.int .i64 q,.int .i64 b] w fun e w'=>e=.returned (.bool (BM p a q b))/\w'=w:=by
 unfold BM;by_cases c:p<q+b
 ·have c':decide (p<q+b)=true:=decide_eq_true c;by_cases d:q<p+a
  ·have d':decide (q<p+a)=true:=decide_eq_true d;rw[c',d'];(go_enter func70,ntmps70);(go_wp2_with fail);go_ret;exact⟨rfl,rfl⟩
  ·have d':decide (q<p+a)=false:=decide_eq_false d;rw[c',d'];(go_enter func70,ntmps70);(go_wp2_with fail);go_ret;exact⟨rfl,rfl⟩
 ·have c':decide (p<q+b)=false:=decide_eq_false c;rw[c'];go_enter func70,ntmps70
  go_wp2_with fail
  go_ret;exact⟨by first|rfl|simp,rfl⟩
theorem G8(a:Option Addr)(c b:Nat)(ps:List P3)(f:Int)(w:World)(hle:ps.length<=273)(hr:BK w b (.slice a ps.length c) ps):Calls prog 116 #[.slice a ps.length c,.int .i64 f] w fun e w'=>e=.returned (.bool (C1 ps f))/\w'=w:=by
 obtain⟨gp,hp1,hp2⟩:=ES hr;have HP1:Hid _:=hp1;have HP2:Hid _:=hp2;clear hr hp1 hp2;go_enter func116,ntmps116
 go_wp2_with fail
 go_loopw [5] (fun i wr=>∃k:Nat,k<=ps.length/\i=.int .i64 k/\Hid (∀j,j<k->decide ((BQ ps j).fr=f)=false)/\wr=w) (fun i _=>ps.length-(intOf i).toNat)
 case atStart=>exact⟨0,Nat.zero_le _,rfl,fun j hj=>absurd hj (by omega),rfl⟩
 case round =>
  obtain⟨k,hk,rfl,hall,rfl⟩:=hrel;by_cases hlt:k<ps.length
  ·(obtain⟨E,hE⟩:∃E,BQ ps k=E:=⟨_,rfl⟩);obtain⟨F,L,P⟩:=E;obtain⟨rfl,hgl⟩:=HP1.out (by omega);obtain⟨c0,c1,c2⟩:=HP2.out k F L P hlt hE _ (Below.refl _ _);have HE:Hid (BQ ps k=_):=hE;(have L1:(0:Int)<=(k:Int):=by omega);(have L2:(k:Int)<(ps.length:Int):=by omega);clear hE;by_cases hf:F=f
   ·(have d:(F==f)=true:=by simpa using hf);have HR:Hid (C1 ps f=true):=BF _ k _ hlt (by rw[HE.out];exact decide_eq_true hf);clear hf;(go_wp2_with fail);go_ret;exact⟨by rw[HR.out];rfl,rfl⟩
   ·(have d:(F==f)=false:=by simpa using hf);(have HN:Hid (decide ((BQ ps k).fr=f)=false):=by rw[HE.out];exact decide_eq_false hf);clear hf;(go_wp2_with fail);go_roundw;case rel =>
     refine⟨k+1,by omega,by go_num,fun j hj=>?_,by first|rfl|trivial⟩;by_cases e:j=k
     ·rw[e];exact HN.out
     ·exact hall.out j (by omega)
    case measure=>simp[intOf];omega
  ·have HR:Hid (C1 ps f=false):=BZ _ _ (fun j hj=>hall.out j (by omega));(go_wp2_with fail);go_ret;exact⟨by rw[HR.out];rfl,rfl⟩
set_option maxRecDepth 100000 in
theorem Ej(s:SV)(M:A9)(b:Nat)(w:World)(hs:M.Small)(hm0:0<M.mem.length)(hpa:∀i,i<M.pend.length->0<=(A8 AA M.pend i).addr/\(A8 AA M.pend i).addr<M.mem.length)(h:AB w b (s.mv M) M):Calls prog 69 #[.agg #[.slice s.a1 M.mem.length s.c1,.slice s.a2 M.pend.length s.c2,.slice s.a3 M.tlb.length s.c3,.slice s.a4 M.wc.length s.c4]] w fun e w'=>∃g c,e=.returned (.agg #[.slice (some ⟨g,0,none⟩) M.mem.length c])/\A6 AO w' w.heap.size (.slice (some ⟨g,0,none⟩) M.mem.length c) (AE M)/\Below w.heap.size w w':=by
 have y1:=hs.w;have y2:=hs.p;obtain⟨wb,hwb⟩:∃wb,wb=(w.alloc (.cells #[.slice s.a1 M.mem.length s.c1,.slice s.a2 M.pend.length s.c2,.slice s.a3 M.tlb.length s.c3,.slice s.a4 M.wc.length s.c4] 36)).alloc (.cells #[.slice none 0 0] 31):=⟨_,rfl⟩
 have hbb:Below w.heap.size w wb:=by rw[hwb];exact((Below.refl _ _).alloc (Nat.le_refl _) _).alloc (by simp) _
 have hzb:wb.heap.size=w.heap.size+2:=by rw[hwb];simp
 have HBOX:Hid (∀wX,Below wb.heap.size wb wX->(wX.cell? ⟨w.heap.size,0,none⟩=some (.slice s.a1 M.mem.length s.c1)/\wX.cell? ⟨w.heap.size,1,none⟩=some (.slice s.a2 M.pend.length s.c2)/\wX.cell? ⟨w.heap.size,2,none⟩=some (.slice s.a3 M.tlb.length s.c3)/\wX.cell? ⟨w.heap.size,3,none⟩=some (.slice s.a4 M.wc.length s.c4))/\wX.cell? ⟨w.heap.size+1,0,none⟩=some (.slice none 0 0)/\wX.frozen? ⟨w.heap.size+1,0,none⟩=false):=fun wX hX=>by
  refine⟨⟨?_,?_,?_,?_⟩,?_,?_⟩;iterate 5 (exact(hX.cell (by simp;omega)).trans (by rw[hwb];simp[go_sem]))
  exact(hX.frozen (by simp;omega)).trans (by rw[hwb];simp[go_sem])
 have hrp:A6 AA w b (.slice s.a2 M.pend.length s.c2) M.pend:=h.p;obtain⟨gq,hq1,hq2⟩:=KW hrp;have hcp:=Fl (.slice s.a1 M.mem.length s.c1) M.mem b wb hs.w (h.below hbb).w;rw[hwb] at hcp;have HQ1:Hid _:=hq1;have HQ2:Hid (∀k Ad Wd,k<M.pend.length->A8 AA M.pend k=⟨Ad,Wd⟩->gq<w.heap.size->∀wX,Below w.heap.size w wX->wX.cell? ⟨gq,k*2,none⟩=some (.int .i64 Ad)/\wX.cell? ⟨gq,k*2+1,none⟩=some (.int .u64 Wd)):=fun k Ad Wd hk he hl wX hX=>hq2 k Ad Wd hk he wX (hX.block gq hl)
 have HPA:Hid _:=hpa;have HWB:Hid (wb=_):=hwb;have HBB:Hid (Below w.heap.size w wb):=hbb;have HZ:Hid (wb.heap.size=_):=hzb;clear hwb hbb hzb h hrp hq1 hq2 hpa;go_enter func69,ntmps69
 go_wp2_with fail
 refine hcp.mono ?_;rintro e w1 ⟨g0,c0,rfl,hr1,hb1'⟩;rw[<- HWB.out] at hr1;have hb1:Below wb.heap.size wb w1:=by rw[HWB.out];exact hb1'
 obtain⟨X,hX⟩:∃X,X=w1.heap.size:=⟨_,rfl⟩
 obtain⟨wx,hwx⟩:∃wx,wx=w1.alloc (.cells #[.slice (some ⟨g0,0,none⟩) M.mem.length c0] 31):=⟨_,rfl⟩
 have hg0:=hr1.own g0 rfl;have bx:Below wb.heap.size wb wx:=by rw[hwx];exact hb1.alloc hb1.size _
 have hrx:A6 AO wx wb.heap.size (.slice (some ⟨g0,0,none⟩) M.mem.length c0) M.mem:=by rw[hwx];exact hr1.below ((Below.refl _ _).alloc (Nat.le_refl _) _)
 have cx:wx.cell? ⟨X,0,none⟩=some (.slice (some ⟨g0,0,none⟩) M.mem.length c0):=by rw[hwx,hX];simp[go_sem]
 have hzx:wx.heap.size=X+1:=by rw[hwx,hX];simp
 have HWX:Hid (wx=_):=hwx;have HRX:Hid _:=hrx;have HBX:Hid (Below wb.heap.size wb wx):=bx;have HCX:Hid _:=cx;have HXX:Hid (X=w1.heap.size):=hX;have HZX:Hid (wx.heap.size=_):=hzx;have x01:g0<X:=by omega
 have x02:wb.heap.size<=g0:=hg0.1;clear hcp hb1' hr1 hwx bx hrx cx hzx hg0 hb1;go_wp2_with fail
 rw[<- HWX.out,<- HXX.out];clear hX;go_loopw [4] (fun i wr=>∃k:Nat,k<=M.pend.length/\i=.int .i64 k/\A6 AO wr wb.heap.size (.slice (some ⟨g0,0,none⟩) M.mem.length c0) (Bx M k)/\A5 (fun q=>q=g0) wx wr) (fun i _=>M.pend.length-(intOf i).toNat)
 case atStart=>exact⟨0,Nat.zero_le _,rfl,HRX.out,A5.of_below (Below.refl _ _)⟩
 case round =>
  obtain⟨k,hk,rfl,hrow,ht⟩:=hrel;have hzx:=HZX.out;have hsz:=ht.size;have bW:Below wb.heap.size wb wr:=A5.below HBX.out ht (by omega) (fun q hq=>by omega);have bW0:Below w.heap.size w wr:=HBB.out.trans (bW.mono (by have:=HZ.out;omega));obtain⟨⟨m0,m1,m2,m3⟩,z0,z1⟩:=HBOX.out wr bW;have cX:=(World.cell?_of_block (a:=⟨X,0,none⟩) (ht.block X (by omega) (by show ¬X=g0;omega))).trans HCX.out;have N0:w.heap.size<wr.heap.size:=by have:=HZ.out;have:=bW.size;omega
  have N1:w.heap.size+1<wr.heap.size:=by have:=HZ.out;have:=bW.size;omega
  have N2:¬w.heap.size=g0:=by have:=HZ.out;omega
  have N3:¬w.heap.size+1=g0:=by have:=HZ.out;omega
  by_cases hlt:k<M.pend.length
  ·obtain⟨hae,hgl⟩:=HQ1.out (by omega);(obtain⟨E,hE⟩:∃E,A8 AA M.pend k=E:=⟨_,rfl⟩);obtain⟨Ad0,Wd⟩:=E;have hpa:=HPA.out k hlt;rw[hE] at hpa;(obtain⟨Ad,hAd⟩:∃Ad:Nat,Ad0=Ad:=⟨Ad0.toNat,by have:=hpa.1;dsimp only at this;omega⟩);subst hAd;(have hpa2:Ad<M.mem.length:=by have:=hpa.2;dsimp only at this;omega);have hls:=DQ M k hlt;rw[hE] at hls;(have hls2:Bx M (k+1)=(Bx M k).set Ad Wd:=by rw[hls];rfl);have hll:=CJ M k (by omega);obtain⟨pc0,pc1⟩:=HQ2.out k Ad Wd hlt hE hgl wr bW0;(have hrow2:A6 AO wr wb.heap.size (.slice (some ⟨g0,0,none⟩) (Bx M k).length c0) (Bx M k):=by rw[hll];exact hrow);obtain⟨_,hlc,_,f,hr,hf⟩:=hrow2.full;have hr':wr.rowIs g0 AO.T (c0*1) f:=hr;have oA:=hr'.cell (i:=Ad) (by omega);have zA:=hr'.frozen Ad;generalize f Ad=vA at oA;have HKK:Hid (∀wX:World,(∀q,q≠g0->wX.heap[q]?=wr.heap[q]?)->wX.cell? ⟨X,0,none⟩=some (.slice (some ⟨g0,0,none⟩) M.mem.length c0)/\wX.cell? ⟨w.heap.size,1,none⟩=some (.slice (some ⟨gq,0,none⟩) M.pend.length s.c2)/\(wX.cell? ⟨gq,k*2,none⟩=some (.int .i64 Ad)/\wX.cell? ⟨gq,k*2+1,none⟩=some (.int .u64 Wd))):=fun wX hX =>
    ⟨(World.cell?_of_block (hX X (by omega))).trans cX,(World.cell?_of_block (hX w.heap.size N2)).trans (by rw[<- hae];exact m1),(World.cell?_of_block (hX gq (by have:=HZ.out;omega))).trans pc0,(World.cell?_of_block (hX gq (by have:=HZ.out;omega))).trans pc1⟩
   have HROW:Hid (A6 AO wr wb.heap.size (.slice (some ⟨g0,0,none⟩) M.mem.length c0) (Bx M k)):=hrow;have HT:Hid (A5 (fun q=>q=g0) wx wr):=ht;have HLS:Hid (Bx M (k+1)=_):=hls2;have HLL:Hid ((Bx M k).length=_):=hll;(have L1:(0:Int)<=(k:Int):=by omega);(have L2:(k:Int)<(M.pend.length:Int):=by omega);(have L3:(0:Int)<=(Ad:Int):=by omega);(have L4:(Ad:Int)<(M.mem.length:Int):=by omega);clear hrow ht hE hpa hls hls2 hll hr hr' hf hrow2 hae bW bW0;(go_wp2_with fail);refine wp_region_held_drew (S:=(fun wX=>wX.cell? ⟨X,0,none⟩=some (.slice (some ⟨g0,0,none⟩) M.mem.length c0)/\wX.cell? ⟨w.heap.size,1,none⟩=some (.slice (some ⟨gq,0,none⟩) M.pend.length s.c2)/\(wX.cell? ⟨gq,k*2,none⟩=some (.int .i64 Ad)/\wX.cell? ⟨gq,k*2+1,none⟩=some (.int .u64 Wd)))) (by kernel_rfl) (HKK.out wr.drew (fun q hq=>rfl)) (fun hHeld=>?_);refine tk 0 ?_;refine tk 1 ?_;refine tk 2 ?_;refine tk 3 ?_;refine tk 4 ?_;refine tk 5 ?_;refine tk 6 ?_;refine tk 7 ?_;refine tk 8 ?_;refine tk 9 ?_;refine tk 10 ?_;refine tk 11 ?_;refine tk 12 ?_;refine tk 13 ?_;refine tk 14 ?_;refine wpAnyH_ready (rs:=[15]) (by kernel_rfl) (by simp) ?_;refine AllReadyH.cons rfl (fun K hK=>?_) AllReadyH.nil;go_simp;refine hK.out _ _ (HKK.out _ (fun q hq=>Below.heap_setCell _ _ _ _ hq)) (fun hHeld5=>?_);clear hK K;refine wpAnyH_done (by kernel_rfl) ?_ _;(go_wp2_with fail);go_roundw;case rel =>
    refine⟨k+1,by omega,by go_num,?_,?_⟩
    ·rw[HLS.out];exact A6.setWord (HROW.out.below ((Below.refl _ _).drew)) Ad (by rw[HLL.out];exact hpa2) Wd
    ·exact HT.out.then (S':=fun q=>q=g0) ⟨rfl,rfl,rfl,by simp,fun q hq hn=>Below.heap_setCell _ _ _ _ hn⟩ (fun q _ e=>e)
   case measure=>simp[intOf];omega
  ·(obtain rfl:k=M.pend.length:=by omega);rw[Dk] at hrow;have HROW:Hid (A6 AO wr wb.heap.size (.slice (some ⟨g0,0,none⟩) M.mem.length c0) (AE M)):=hrow;have HBW:Hid (Below w.heap.size w wr):=bW0;have HX2:Hid (wb.heap.size<=g0):=x02;clear hrow ht bW bW0;(go_wp2_with fail);refine bodyPost_ret (v:=.agg #[.slice (some ⟨g0,0,none⟩) M.mem.length c0]) (by simp[results,results69,go_sem,z0]) rfl ⟨g0,c0,rfl,?_,HBW.out.setCell (by dsimp only;omega) _⟩;refine A6.rebase (base:=wb.heap.size) (HROW.out.touch (S:=fun q=>q=w.heap.size+1) ⟨rfl,rfl,rfl,by simp,fun q hq hn=>Below.heap_setCell _ _ _ _ hn⟩ (fun q hq e=>?_)) (by have:=HZ.out;omega);(have h1:g0=q:=by simpa [Value.ownBlock] using hq);have h2:=HX2.out;have h3:=HZ.out;omega
set_option maxRecDepth 100000 in
theorem Kb(s:SV)(M:A9)(b:Nat)(lv fs cL:Int)(w:World)(hs:M.Small)(hv:AG M=true)(hf0:0<=fs/\fs<100000)(hc0:0<=cL/\cL<100000)(h:AB w b (s.mv M) M):Calls prog 115 #[.agg #[.slice s.a1 M.mem.length s.c1,.slice s.a2 M.pend.length s.c2,.slice s.a3 M.tlb.length s.c3,.slice s.a4 M.wc.length s.c4],.int .i64 lv,.int .i64 fs,.int .i64 cL] w fun e w'=>e=.returned (.bool (BD M lv fs cL))/\Below w.heap.size w w':=by
 have y3:=hs.t;have y4:=hs.c;obtain⟨wb,hwb⟩:∃wb,wb=w.alloc (.cells #[.slice s.a1 M.mem.length s.c1,.slice s.a2 M.pend.length s.c2,.slice s.a3 M.tlb.length s.c3,.slice s.a4 M.wc.length s.c4] 36):=⟨_,rfl⟩
 have hbb:Below w.heap.size w wb:=by rw[hwb];exact(Below.refl _ _).alloc (Nat.le_refl _) _
 have hzb:wb.heap.size=w.heap.size+1:=by rw[hwb];simp
 have HBOX:Hid (∀wX,Below wb.heap.size wb wX->wX.cell? ⟨w.heap.size,0,none⟩=some (.slice s.a1 M.mem.length s.c1)/\wX.cell? ⟨w.heap.size,1,none⟩=some (.slice s.a2 M.pend.length s.c2)/\wX.cell? ⟨w.heap.size,2,none⟩=some (.slice s.a3 M.tlb.length s.c3)/\wX.cell? ⟨w.heap.size,3,none⟩=some (.slice s.a4 M.wc.length s.c4)):=fun wX hX=>by
  refine⟨?_,?_,?_,?_⟩;iterate 4 (exact(hX.cell (by simp;omega)).trans (by rw[hwb];simp[go_sem]))
 have hrt:A6 A7 w b (.slice s.a3 M.tlb.length s.c3) M.tlb:=h.t;have hrc:A6 AJ w b (.slice s.a4 M.wc.length s.c4) M.wc:=h.c;obtain⟨gt,ht1,ht2⟩:=Eu hrt;obtain⟨gw,hw1,hw2⟩:=EM hrc;have HT:Hid (∀k P S O R D,k<M.tlb.length->A8 A7 M.tlb k=⟨P,S,O,R,D⟩->s.a3=some ⟨gt,0,none⟩/\gt<w.heap.size/\∀wX,Below wb.heap.size wb wX->wX.cell? ⟨gt,k*5,none⟩=some (.int .i64 P)/\wX.cell? ⟨gt,k*5+1,none⟩=some (.int .i64 S)/\wX.cell? ⟨gt,k*5+2,none⟩=some (.int .i64 O)/\wX.cell? ⟨gt,k*5+3,none⟩=some (.int .i64 R)/\wX.cell? ⟨gt,k*5+4,none⟩=some (.bool D)):=fun k P S O R D hk he=>by
  obtain⟨e1,e2⟩:=ht1 (by omega);exact⟨e1,e2,fun wX hX=>ht2 k P S O R D hk he wX ((hbb.trans (hX.mono (by omega))).block gt e2)⟩
 have HW:Hid (∀k L P T D,k<M.wc.length->A8 AJ M.wc k=⟨L,P,T,D⟩->s.a4=some ⟨gw,0,none⟩/\gw<w.heap.size/\∀wX,Below wb.heap.size wb wX->wX.cell? ⟨gw,k*4,none⟩=some (.int .i64 L)/\wX.cell? ⟨gw,k*4+1,none⟩=some (.int .i64 P)/\wX.cell? ⟨gw,k*4+2,none⟩=some (.int .i64 T)/\wX.cell? ⟨gw,k*4+3,none⟩=some (.bool D)):=fun k L P T D hk he=>by
  obtain⟨e1,e2⟩:=hw1 (by omega);exact⟨e1,e2,fun wX hX=>hw2 k L P T D hk he wX ((hbb.trans (hX.mono (by omega))).block gw e2)⟩
 have HV:Hid (AG M=true):=hv;have HWB:Hid (wb=_):=hwb;have HBB:Hid (Below w.heap.size w wb):=hbb;have HZ:Hid (wb.heap.size=_):=hzb;clear hwb hbb hzb h hrt hrc ht1 ht2 hw1 hw2 hv;go_enter func115,ntmps115
 go_wp2_with fail
 rw[<- HWB.out];go_loopw [9] (fun i wr=>∃k:Nat,k<=M.tlb.length/\i=.int .i64 k/\Hid (∀j,j<k->E7 M fs cL j=false)/\Below wb.heap.size wb wr) (fun i _=>M.tlb.length-(intOf i).toNat)
 case atStart=>exact⟨0,Nat.zero_le _,rfl,fun j hj=>absurd hj (by omega),Below.refl _ _⟩
 case round =>
  obtain⟨k,hk,rfl,hall,hb⟩:=hrel;obtain⟨m0,m1,m2,m3⟩:=HBOX.out wr hb;by_cases hlt:k<M.tlb.length
  ·(obtain⟨E,hE⟩:∃E,A8 A7 M.tlb k=E:=⟨_,rfl⟩);obtain⟨P,S,O,R,D⟩:=E;obtain⟨hae,hgl,hcs⟩:=HT.out k P S O R D hlt hE;have htv:=CV HV.out k hlt;rw[hE] at htv;have hts:(0<=P/\P<100000)/\(0<=S/\S<100000):=by
    simp only[AH,AP,Bool.and_eq_true,Bool.or_eq_true,decide_eq_true_eq] at htv;omega
   have hmt:=ET fs cL P S hf0 hc0 hts.1 hts.2;rw[Dl] at hmt;(have HCT:Hid (E7 M fs cL k=BM P S fs cL):=by unfold E7;rw[hE];rfl);(have HKK:Hid (∀wX,Below wr.heap.size wr wX->wX.cell? ⟨w.heap.size,2,none⟩=some (.slice (some ⟨gt,0,none⟩) M.tlb.length s.c3)/\(wX.cell? ⟨gt,k*5,none⟩=some (.int .i64 P)/\wX.cell? ⟨gt,k*5+1,none⟩=some (.int .i64 S)/\wX.cell? ⟨gt,k*5+2,none⟩=some (.int .i64 O)/\wX.cell? ⟨gt,k*5+3,none⟩=some (.int .i64 R)/\wX.cell? ⟨gt,k*5+4,none⟩=some (.bool D))):=fun wX hX=>⟨by rw[<- hae];exact(HBOX.out wX (hb.trans (hX.mono hb.size))).2.2.1,hcs wX (hb.trans (hX.mono hb.size))⟩);(have m2':wr.cell? ⟨w.heap.size,2,none⟩=some (.slice (some ⟨gt,0,none⟩) M.tlb.length s.c3):=by rw[<- hae];exact m2);(have L1:(0:Int)<=(k:Int):=by omega);(have L2:(k:Int)<(M.tlb.length:Int):=by omega);have HB:Hid (Below wb.heap.size wb wr):=hb;clear hae hcs htv hts hE hb m2;cases hm:BM P S fs cL<;>rw[hm] at hmt
   ·(have HF:Hid (E7 M fs cL k=false):=by rw[HCT.out];exact hm);clear hm;(go_wp2_with fail);refine wp_region_held_drew (S:=(fun wX=>wX.cell? ⟨w.heap.size,2,none⟩=some (.slice (some ⟨gt,0,none⟩) M.tlb.length s.c3)/\(wX.cell? ⟨gt,k*5,none⟩=some (.int .i64 P)/\wX.cell? ⟨gt,k*5+1,none⟩=some (.int .i64 S)/\wX.cell? ⟨gt,k*5+2,none⟩=some (.int .i64 O)/\wX.cell? ⟨gt,k*5+3,none⟩=some (.int .i64 R)/\wX.cell? ⟨gt,k*5+4,none⟩=some (.bool D)))) (by kernel_rfl) (HKK.out _ ((Below.refl _ _).drew)) (fun hHeld=>?_);refine tk 0 ?_;refine tk 1 ?_;refine tk 2 ?_;refine tk 3 ?_;refine tk 4 ?_;refine tk 5 ?_;refine tk 6 ?_;refine tk 7 ?_;refine tk 8 ?_;refine tk 9 ?_;refine tk 10 ?_;refine tk 11 ?_;refine tk 12 ?_;refine tk 13 ?_;refine wpAnyH_ready (rs:=[14]) (by kernel_rfl) (by simp) ?_;refine AllReadyH.cons rfl (fun K hK=>?_) AllReadyH.nil;go_simp;(go_at_call 70);refine(hmt _).mono ?_;rintro e w2 ⟨rfl,hw2⟩;obtain rfl:=hw2.symm;(go_wp2_with fail);refine hK.out _ _ (HKK.out _ ((Below.refl _ _).drew)) (fun hHeld2=>?_);clear hK K;refine wpAnyH_done (by kernel_rfl) ?_ _;(go_wp2_with fail);go_roundw;case rel =>
     refine⟨k+1,by omega,by go_num,fun j hj=>?_,HB.out.drew⟩;by_cases e:j=k
     ·rw[e];exact HF.out
     ·exact hall.out j (by omega)
    case measure=>simp[intOf];omega
   ·(have HR:Hid (BD M lv fs cL=true):=by unfold BD;rw[BF _ k _ hlt (by rw[HCT.out];exact hm)];rfl);clear hm;(go_wp2_with fail);refine wp_region_held_drew (S:=(fun wX=>wX.cell? ⟨w.heap.size,2,none⟩=some (.slice (some ⟨gt,0,none⟩) M.tlb.length s.c3)/\(wX.cell? ⟨gt,k*5,none⟩=some (.int .i64 P)/\wX.cell? ⟨gt,k*5+1,none⟩=some (.int .i64 S)/\wX.cell? ⟨gt,k*5+2,none⟩=some (.int .i64 O)/\wX.cell? ⟨gt,k*5+3,none⟩=some (.int .i64 R)/\wX.cell? ⟨gt,k*5+4,none⟩=some (.bool D)))) (by kernel_rfl) (HKK.out _ ((Below.refl _ _).drew)) (fun hHeld=>?_);refine tk 0 ?_;refine tk 1 ?_;refine tk 2 ?_;refine tk 3 ?_;refine tk 4 ?_;refine tk 5 ?_;refine tk 6 ?_;refine tk 7 ?_;refine tk 8 ?_;refine tk 9 ?_;refine tk 10 ?_;refine tk 11 ?_;refine tk 12 ?_;refine tk 13 ?_;refine wpAnyH_ready (rs:=[14]) (by kernel_rfl) (by simp) ?_;refine AllReadyH.cons rfl (fun K hK=>?_) AllReadyH.nil;go_simp;(go_at_call 70);refine(hmt _).mono ?_;rintro e w2 ⟨rfl,hw2⟩;obtain rfl:=hw2.symm;(go_wp2_with fail);refine hK.out _ _ (HKK.out _ ((Below.refl _ _).drew)) (fun hHeld2=>?_);clear hK K;refine wpAnyH_done (by kernel_rfl) ?_ _;(go_wp2_with fail);go_ret;exact⟨by rw[HR.out];rfl,HBB.out.trans (HB.out.drew.mono HBB.out.size)⟩
  ·have HTN:Hid (BW (E7 M fs cL) M.tlb.length=false):=BZ _ _ (fun j hj=>hall.out j (by omega));(obtain⟨wA,rfl⟩:∃wA:World,wA=wr:=⟨_,rfl⟩);have HBA:Hid (Below wb.heap.size wb wA):=hb;(have L9:¬(k:Int)<(M.tlb.length:Int):=by omega);clear hall hb;(go_wp2_with fail);clear m0 m1 m2 m3;(go_loopw [10] (fun i wr=>∃k:Nat,k<=M.wc.length/\i=.int .i64 k/\Hid (∀j,j<k->De M lv fs cL j=false)/\Below wb.heap.size wb wr) (fun i _=>M.wc.length-(intOf i).toNat));(case atStart=>exact⟨0,Nat.zero_le _,rfl,fun j hj=>absurd hj (by omega),HBA.out⟩);case round =>
    obtain⟨k,hk,rfl,hall,hb⟩:=hrel;obtain⟨m0,m1,m2,m3⟩:=HBOX.out wr hb;by_cases hlt:k<M.wc.length
    ·(obtain⟨E,hE⟩:∃E,A8 AJ M.wc k=E:=⟨_,rfl⟩);obtain⟨L2,P,T,D⟩:=E;obtain⟨hae,hgl,hcs⟩:=HW.out k L2 P T D hlt hE;have htv:=Ca HV.out k hlt;rw[hE] at htv;have hts:(0<=P/\P<100000)/\(L2=2\/L2=3):=by
      simp only[AX,AP,Bool.and_eq_true,Bool.or_eq_true,decide_eq_true_eq] at htv;omega
     have hcv:=C2 (L2-1);(obtain⟨S,hS⟩:∃S,S=Ab (L2-1):=⟨_,rfl⟩);(have hS2:S=16*Ab L2:=by rw[hS];rcases hts.2 with rfl|rfl<;>decide);(have hS3:0<=S/\S<100000:=by rw[hS];rcases hts.2 with rfl|rfl<;>decide);rw[<- hS] at hcv;have hmt:=ET fs cL P S hf0 hc0 hts.1 hS3;rw[Dl] at hmt;(have W1:IntKind.i64.wrap (L2-1)=L2-1:=by rw[IntKind.wrap_i64];omega);(have HCT:Hid (De M lv fs cL k=(decide (lv<L2)&&BM P S fs cL)):=by unfold De;rw[hE,hS2];rfl);(obtain⟨wx,hwx⟩:∃wx,wx=wr.alloc (.cells #[.int .i64 L2,.int .i64 P,.int .i64 T,.bool D] 113):=⟨_,rfl⟩);(have bx:Below wb.heap.size wb wx:=by rw[hwx];exact hb.alloc hb.size _);(have hzx:wx.heap.size=wr.heap.size+1:=by rw[hwx];simp);have HKX:Hid (∀wX,Below wx.heap.size wx wX->wX.cell? ⟨wr.heap.size,0,none⟩=some (.int .i64 L2)/\wX.cell? ⟨wr.heap.size,1,none⟩=some (.int .i64 P)/\wX.cell? ⟨wr.heap.size,2,none⟩=some (.int .i64 T)/\wX.cell? ⟨wr.heap.size,3,none⟩=some (.bool D)):=fun wX hX=>by
      refine⟨?_,?_,?_,?_⟩;iterate 4 (exact(hX.cell (by simp;omega)).trans (by rw[hwx];simp[go_sem]))
     obtain⟨c0,c1,c2,c3⟩:=hcs wr hb;(have m3':wr.cell? ⟨w.heap.size,3,none⟩=some (.slice (some ⟨gw,0,none⟩) M.wc.length s.c4):=by rw[<- hae];exact m3);have HWX:Hid (wx=_):=hwx;have HBX:Hid (Below wb.heap.size wb wx):=bx;(have L1:(0:Int)<=(k:Int):=by omega);(have L2':(k:Int)<(M.wc.length:Int):=by omega);clear hae hcs htv hts hE hb m3 hS hS2 hwx bx hzx;by_cases hLL:lv<L2
     ·have dL:decide (lv<L2)=true:=decide_eq_true hLL;cases hm:BM P S fs cL<;>rw[hm] at hmt
      ·(have HF:Hid (De M lv fs cL k=false):=by rw[HCT.out,hm,Bool.and_false];rfl);clear hm;(go_wp2_with fail);rw[<- HWX.out];refine wp_region_held_drew (S:=(fun wX=>wX.cell? ⟨wr.heap.size,0,none⟩=some (.int .i64 L2)/\wX.cell? ⟨wr.heap.size,1,none⟩=some (.int .i64 P)/\wX.cell? ⟨wr.heap.size,2,none⟩=some (.int .i64 T)/\wX.cell? ⟨wr.heap.size,3,none⟩=some (.bool D))) (by kernel_rfl) (HKX.out _ ((Below.refl _ _).drew)) (fun hHeld=>?_);refine tk 0 ?_;refine tk 1 ?_;refine tk 2 ?_;refine tk 3 ?_;refine tk 4 ?_;refine tk 5 ?_;refine tk 6 ?_;refine tk 7 ?_;refine tk 8 ?_;refine tk 9 ?_;refine tk 10 ?_;refine tk 11 ?_;refine wpAnyH_ready (rs:=[12]) (by kernel_rfl) (by simp) ?_;refine AllReadyH.cons rfl (fun K hK=>?_) AllReadyH.nil;go_simp;(go_at_call 71);refine(hcv _).mono ?_;rintro e w2 ⟨rfl,hw2⟩;obtain rfl:=hw2.symm;(go_wp2_with fail);refine hK.out _ _ (HKX.out _ ((Below.refl _ _).drew)) (fun hHeld2=>?_);clear hK K;refine wpAnyH_ready (rs:=[13]) (by kernel_rfl) (by simp) ?_;refine AllReadyH.cons rfl (fun K hK=>?_) AllReadyH.nil;go_simp;(go_at_call 70);refine(hmt _).mono ?_;rintro e w2 ⟨rfl,hw2⟩;obtain rfl:=hw2.symm;(go_wp2_with fail);refine hK.out _ _ (HKX.out _ ((Below.refl _ _).drew)) (fun hHeld2=>?_);clear hK K;refine tk 14 ?_;refine wpAnyH_done (by kernel_rfl) ?_ _;(go_wp2_with fail);go_roundw;case rel =>
        refine⟨k+1,by omega,by go_num,fun j hj=>?_,HBX.out.drew⟩;by_cases e:j=k
        ·rw[e];exact HF.out
        ·exact hall.out j (by omega)
       case measure=>simp[intOf];omega
      ·(have HR:Hid (BD M lv fs cL=true):=by unfold BD;rw[BF (De M lv fs cL) k _ hlt (by rw[HCT.out,hm,dL];rfl),Bool.or_true];rfl);clear hm;(go_wp2_with fail);rw[<- HWX.out];refine wp_region_held_drew (S:=(fun wX=>wX.cell? ⟨wr.heap.size,0,none⟩=some (.int .i64 L2)/\wX.cell? ⟨wr.heap.size,1,none⟩=some (.int .i64 P)/\wX.cell? ⟨wr.heap.size,2,none⟩=some (.int .i64 T)/\wX.cell? ⟨wr.heap.size,3,none⟩=some (.bool D))) (by kernel_rfl) (HKX.out _ ((Below.refl _ _).drew)) (fun hHeld=>?_);refine tk 0 ?_;refine tk 1 ?_;refine tk 2 ?_;refine tk 3 ?_;refine tk 4 ?_;refine tk 5 ?_;refine tk 6 ?_;refine tk 7 ?_;refine tk 8 ?_;refine tk 9 ?_;refine tk 10 ?_;refine tk 11 ?_;refine wpAnyH_ready (rs:=[12]) (by kernel_rfl) (by simp) ?_;refine AllReadyH.cons rfl (fun K hK=>?_) AllReadyH.nil;go_simp;(go_at_call 71);refine(hcv _).mono ?_;rintro e w2 ⟨rfl,hw2⟩;obtain rfl:=hw2.symm;(go_wp2_with fail);refine hK.out _ _ (HKX.out _ ((Below.refl _ _).drew)) (fun hHeld2=>?_);clear hK K;refine wpAnyH_ready (rs:=[13]) (by kernel_rfl) (by simp) ?_;refine AllReadyH.cons rfl (fun K hK=>?_) AllReadyH.nil;go_simp;(go_at_call 70);refine(hmt _).mono ?_;rintro e w2 ⟨rfl,hw2⟩;obtain rfl:=hw2.symm;(go_wp2_with fail);refine hK.out _ _ (HKX.out _ ((Below.refl _ _).drew)) (fun hHeld2=>?_);clear hK K;refine tk 14 ?_;refine wpAnyH_done (by kernel_rfl) ?_ _;(go_wp2_with fail);go_ret;exact⟨by rw[HR.out];rfl,HBB.out.trans (HBX.out.drew.mono HBB.out.size)⟩
     ·have dL:decide (lv<L2)=false:=decide_eq_false hLL;(have HF:Hid (De M lv fs cL k=false):=by rw[HCT.out,dL];rfl);(go_wp2_with fail);rw[<- HWX.out];refine wp_region_held_drew (S:=(fun wX=>wX.cell? ⟨wr.heap.size,0,none⟩=some (.int .i64 L2)/\wX.cell? ⟨wr.heap.size,1,none⟩=some (.int .i64 P)/\wX.cell? ⟨wr.heap.size,2,none⟩=some (.int .i64 T)/\wX.cell? ⟨wr.heap.size,3,none⟩=some (.bool D))) (by kernel_rfl) (HKX.out _ ((Below.refl _ _).drew)) (fun hHeld=>?_);refine tk 0 ?_;refine tk 1 ?_;refine tk 2 ?_;refine tk 3 ?_;refine tk 4 ?_;refine sk 5 ?_;refine sk 6 ?_;refine sk 7 ?_;refine sk 8 ?_;refine sk 9 ?_;refine sk 10 ?_;refine sk 11 ?_;refine sk 12 ?_;refine sk 13 ?_;refine tk 14 ?_;refine wpAnyH_done (by kernel_rfl) ?_ _;(go_wp2_with fail);go_roundw;case rel =>
       refine⟨k+1,by omega,by go_num,fun j hj=>?_,HBX.out.drew⟩;by_cases e:j=k
       ·rw[e];exact HF.out
       ·exact hall.out j (by omega)
      case measure=>simp[intOf];omega
    ·(have HR:Hid (BD M lv fs cL=false):=by unfold BD;rw[HTN.out,BZ _ _ (fun j hj=>hall.out j (by omega))];rfl);(have L8:¬(k:Int)<(M.wc.length:Int):=by omega);(go_wp2_with fail);go_ret;exact⟨by rw[HR.out];rfl,HBB.out.trans (hb.mono HBB.out.size)⟩
end Go.Proofs.YtnmhkgmmpkjjeabGreat
