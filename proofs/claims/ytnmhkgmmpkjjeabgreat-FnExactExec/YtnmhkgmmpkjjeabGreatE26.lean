import Derived.Test.YtnmhkgmmpkjjeabGreatE20
import Derived.Deep.RegionLaw
namespace Go.Proofs.YtnmhkgmmpkjjeabGreat
open ChangeShapes WideShapes ChangeAt RowKit Proofs.Tryz
set_option linter.all false
set_option maxRecDepth 100000
set_option maxHeartbeats 8000000
attribute [local go_sem ↓] wp_at_zero wp_at_succ
theorem A6.setWord{w:World}{base g n c:Nat}{zs:List Int}(h:A6 AO w base (.slice (some ⟨g,0,none⟩) n c) zs)(i:Nat)(hi:i<zs.length)(x:Int):A6 AO (w.setCell ⟨g,i,none⟩ (.int .u64 x)) base (.slice (some ⟨g,0,none⟩) n c) (zs.set i x):=by
 rcases h.2 with⟨e,_⟩|⟨g',cap,cur,e,hb,hg,hn,hm,hs,ht⟩
 ·cases e
 ·simp only[Value.slice.injEq,Option.some.injEq,Addr.mk.injEq,and_true] at e;obtain⟨rfl,rfl,rfl⟩:=e;have hr:w.rowIs g 46 cur.size (fun j=>cur.getD j (.bool false)):=⟨cur,hg,rfl,fun j hj=>by simp[hj]⟩;refine A6.of_row (by simp) hb (hr.set i (.int .u64 x)) (by rw[hs]) hn hm ?_;intro k hk j hj;have hj0:j=0:=by have:j<1:=hj;omega
  subst hj0;have hu:=CS AO zs k hk 0 (by decide);rw[<- ht,List.getElem?_take,if_pos (by show k*1+0<zs.length*1;omega)] at hu;have hu':cur[k]?=some (.int .u64 (zs.getD k 0)):=by simpa [AO,A8] using hu
  show (if k*1+0=i then Value.int .u64 x else cur.getD (k*1+0) (.bool false))=Value.int .u64 ((zs.set i x).getD k 0);rw[Nat.mul_one,Nat.add_zero];by_cases e:k=i
  ·subst e;rw[if_pos rfl];simp[hi]
  ·rw[if_neg e,Array.getD_eq_getD_getElem?,hu'];simp[Ne.symm e]
theorem UM.rebase{W:World}{gu b0 B b0' B':Nat}{L:Bool}{u:UV}{M:A9}(h:UM W gu b0 B L u M)(h0:b0'<=b0)(h1:B'<=B):UM W gu b0' B' L u M :=
 ⟨h.lt,h.q0,h.q1,h.q2,h.q3,h.q4,h.f2,h.f3,h.f4,h.w.rebase h0,fun hl=>⟨(h.l hl).1,(h.l hl).2.rebase h0⟩,h.p.rebase h0,h.t.rebase h1,h.c.rebase h1,h.ap,h.o2⟩
structure CB (u:UV):Prop where
 a13:∀k,u.o1=some k->u.o3≠some k
 a12:∀k,u.o1=some k->u.o2≠some k
 a23:∀k,u.o2=some k->u.o3≠some k
theorem G6(s:SV)(M:A9)(b:Nat)(w:World)(hok:Cv M)(hpa:∀i,i<M.pend.length->0<=(A8 AA M.pend i).addr/\(A8 AA M.pend i).addr<M.mem.length)(h:AB w b (s.mv M) M):Calls prog 51 #[.agg #[.slice s.a1 M.mem.length s.c1,.slice s.a2 M.pend.length s.c2,.slice s.a3 M.tlb.length s.c3,.slice s.a4 M.wc.length s.c4]] w fun r w'=>∃gu u,r=.returned (.pointer (some ⟨gu,0,none⟩))/\w.heap.size<=gu/\UM w' gu w.heap.size w.heap.size true u M/\CB u/\Below w.heap.size w w':=by
 have hs:=hok.small;obtain⟨iT,hiT,hzT0,hzT1,hzT2⟩:=info_parts Hx;obtain⟨iC,hiC,hzC0,hzC1,hzC2⟩:=info_parts IM;have y1:=hs.w;have y2:=hs.p;have y3:=hs.t;have y4:=hs.c;obtain⟨wb,hwb⟩:∃wb,wb=w.alloc (.cells #[.slice s.a1 M.mem.length s.c1,.slice s.a2 M.pend.length s.c2,.slice s.a3 M.tlb.length s.c3,.slice s.a4 M.wc.length s.c4] 36):=⟨_,rfl⟩
 have hbb:Below w.heap.size w wb:=by rw[hwb];exact(Below.refl _ _).alloc (Nat.le_refl _) _
 have hzb:wb.heap.size=w.heap.size+1:=by rw[hwb];simp
 have qb:wb.cell? ⟨w.heap.size,0,none⟩=some (.slice s.a1 M.mem.length s.c1)/\wb.cell? ⟨w.heap.size,1,none⟩=some (.slice s.a2 M.pend.length s.c2)/\wb.cell? ⟨w.heap.size,2,none⟩=some (.slice s.a3 M.tlb.length s.c3)/\wb.cell? ⟨w.heap.size,3,none⟩=some (.slice s.a4 M.wc.length s.c4):=by rw[hwb];simp[go_sem]
 have HBOX:Hid (∀wX,Below wb.heap.size wb wX->wX.cell? ⟨w.heap.size,0,none⟩=some (.slice s.a1 M.mem.length s.c1)/\wX.cell? ⟨w.heap.size,1,none⟩=some (.slice s.a2 M.pend.length s.c2)/\wX.cell? ⟨w.heap.size,2,none⟩=some (.slice s.a3 M.tlb.length s.c3)/\wX.cell? ⟨w.heap.size,3,none⟩=some (.slice s.a4 M.wc.length s.c4)) :=
  fun wX hX=>⟨(hX.cell (by simp;omega)).trans qb.1,(hX.cell (by simp;omega)).trans qb.2.1,(hX.cell (by simp;omega)).trans qb.2.2.1,(hX.cell (by simp;omega)).trans qb.2.2.2⟩
 have HM:Hid (∀wX,Below wb.heap.size wb wX->AB wX b (s.mv M) M):=fun wX hX=>h.below (hbb.trans (hX.mono (by omega)))
 have HCW:Hid (∀wX,Below wb.heap.size wb wX->Calls prog 100 #[.slice s.a1 M.mem.length s.c1] wX fun r w'=>∃a' c',r=.returned (.slice a' M.mem.length c')/\A6 AO w' wX.heap.size (.slice a' M.mem.length c') M.mem/\Below wX.heap.size wX w'):=fun wX hX=>KH s.a1 s.c1 b M.mem wX hs.w (HM.out wX hX).w
 have HCP:Hid (∀wX,Below wb.heap.size wb wX->Calls prog 101 #[.slice s.a2 M.pend.length s.c2] wX fun r w'=>∃a' c',r=.returned (.slice a' M.pend.length c')/\A6 AA w' wX.heap.size (.slice a' M.pend.length c') M.pend/\Below wX.heap.size wX w'):=fun wX hX=>Jy s.a2 s.c2 b M.pend wX hs.p (HM.out wX hX).p
 have HWB:Hid (wb=_):=hwb;have HBB:Hid (Below _ w wb):=hbb;have HZ:Hid (wb.heap.size=w.heap.size+1):=hzb;have HPA:Hid _:=hpa;have HOK:Hid _:=hok;obtain⟨q0,q1,q2,q3⟩:=HBOX.out wb (Below.refl _ _);clear hwb hbb hzb qb h hpa hok;go_enter func51,ntmps51
 go_upto_region 1 with fail
 rw[<- HWB.out];go_region_held3 (fun wX=>wX.cell? ⟨w.heap.size,0,none⟩=some (.slice s.a1 M.mem.length s.c1)/\wX.cell? ⟨w.heap.size,1,none⟩=some (.slice s.a2 M.pend.length s.c2)/\wX.cell? ⟨w.heap.size,2,none⟩=some (.slice s.a3 M.tlb.length s.c3)/\wX.cell? ⟨w.heap.size,3,none⟩=some (.slice s.a4 M.wc.length s.c4))
  ((refine HBOX.out _ ?_;repeat (first|exact Below.refl _ _|with_reducible refine Below.drew ?_|with_reducible refine Below.alloc ?_ (by first|omega|(simp<;>omega)) _|refine Below.trans ?_ (hb3.mono (by first|omega|(simp<;>omega)))|refine Below.trans ?_ (hb2.mono (by first|omega|(simp<;>omega)))|refine Below.trans ?_ (hb1.mono (by first|omega|(simp<;>omega))))))
  (first
   | (go_at_call 101;refine(HCP.out _ (by repeat (first|exact Below.refl _ _|with_reducible refine Below.drew ?_|refine Below.trans ?_ (hb2.mono (by first|omega|(simp<;>omega)))|refine Below.trans ?_ (hb1.mono (by first|omega|(simp<;>omega)))))).mono ?_;rintro e w3 ⟨a3,c3,rfl,hr3,hb3⟩;have s3:=hb3.size)
   | (go_at_call 100;refine(HCW.out _ (by first|exact Below.refl _ _|exact(Below.refl _ _).drew)).mono ?_;rintro e w1 ⟨a1,c1,rfl,hr1,hb1⟩;have s1:=hb1.size;simp at s1)
   | (go_at_call 100;refine(HCW.out _ (by repeat (first|exact Below.refl _ _|with_reducible refine Below.drew ?_|refine Below.trans ?_ (hb1.mono (by first|omega|(simp<;>omega)))))).mono ?_;rintro e w2 ⟨a2,c2,rfl,hr2,hb2⟩;have s2:=hb2.size))
 have b1:Below wb.heap.size wb w1:=(Below.refl _ _).drew.trans (hb1.mono (by simp));have b3:Below wb.heap.size wb w3:=b1.trans ((hb2.trans (hb3.mono (by omega))).mono (by omega));have hzb:=HZ.out;have R1:A6 AO w3 wb.heap.size (.slice a1 M.mem.length c1) M.mem:=(hr1.rebase (by simp)).below (hb2.trans (hb3.mono (by omega)));have R2:A6 AO w3 w1.heap.size (.slice a2 M.mem.length c2) M.mem:=hr2.below hb3;have R3:A6 AA w3 w2.heap.size (.slice a3 M.pend.length c3) M.pend:=hr3;have O1:∀k,Al a1=some k->k<w1.heap.size:=fun k hk=>(hr1.ownA k hk).2
 have O2:∀k,Al a2=some k->w1.heap.size<=k/\k<w2.heap.size:=fun k hk=>hr2.ownA k hk
 have O3:∀k,Al a3=some k->w2.heap.size<=k/\k<w3.heap.size:=fun k hk=>hr3.ownA k hk
 obtain⟨wU,hwU⟩:∃wU,wU=w3.alloc (.cells #[.slice a1 M.mem.length c1,.slice a2 M.mem.length c2,.slice a3 M.pend.length c3,.slice none 0 0,.slice none 0 0] 152):=⟨_,rfl⟩
 have hzU:wU.heap.size=w3.heap.size+1:=by rw[hwU];simp
 have bU3:Below w3.heap.size w3 wU:=by rw[hwU];exact(Below.refl _ _).alloc (Nat.le_refl _) _
 have bU:Below wb.heap.size wb wU:=b3.trans (bU3.mono (by omega));have hAp:∀a4 c4 a5 c5,(∀k,Al a4=some k->w3.heap.size<k)->(∀k,Al a5=some k->w3.heap.size<k)->(∀k,Al a4=some k->Al a5≠some k)->MO w3.heap.size ⟨a1,c1,a2,M.mem.length,c2,a3,c3,a4,c4,a5,c5⟩:=fun a4 c4 a5 c5 h4 h5 h45 =>
  ⟨fun e=>by have:=O1 _ e;omega,fun e=>by have:=O2 _ e;omega,fun e=>by have:=O3 _ e;omega,fun e=>by have:=h4 _ e;omega,fun e=>by have:=h5 _ e;omega,
   fun k hk e=>by have:=h4 _ hk;have:=O1 _ e;omega,fun k hk e=>by have:=h4 _ hk;have:=O2 _ e;omega,fun k hk e=>by have:=h4 _ hk;have:=O3 _ e;omega,h45,
   fun k hk e=>by have:=h5 _ hk;have:=O1 _ e;omega,fun k hk e=>by have:=h5 _ hk;have:=O2 _ e;omega,fun k hk e=>by have:=h5 _ hk;have:=O3 _ e;omega⟩
 have umU:UM wU w3.heap.size wb.heap.size wb.heap.size false ⟨a1,c1,a2,M.mem.length,c2,a3,c3,none,0,none,0⟩ ⟨M.mem,M.pend,[],[]⟩:=by
  refine⟨by omega,?_,?_,?_,?_,?_,?_,?_,?_,R1.below bU3,fun h=>by (cases h),(R3.rebase (by omega)).below bU3,⟨by simp[AF],.inl ⟨rfl,rfl⟩⟩,⟨by simp[AF],.inl ⟨rfl,rfl⟩⟩,hAp none 0 none 0 (fun k h=>by cases h) (fun k h=>by cases h) (fun k h=>by cases h),fun k hk=>by have:=O2 k hk;omega⟩;all_goals (rw[hwU];simp[go_sem])
 have lrU:A6 AO wU w1.heap.size (.slice a2 M.mem.length c2) (Bx M 0):=R2.below bU3;have HAP:Hid _:=hAp;have HUMU:Hid _:=umU;have HLRU:Hid _:=lrU;have HBU:Hid (Below wb.heap.size wb wU):=bU;have HWU:Hid (wU=_):=hwU;have HO:Hid ((∀k,Al a1=some k->k<w1.heap.size)/\(∀k,Al a2=some k->w1.heap.size<=k/\k<w2.heap.size)/\(∀k,Al a3=some k->w2.heap.size<=k/\k<w3.heap.size)):=⟨O1,O2,O3⟩;obtain⟨x0,x1,x2,x3⟩:=HBOX.out wU bU;rw[<- hwU];clear hr1 hr2 hr3 hb1 hb2 hb3 b1 b3 R1 R2 R3 O1 O2 O3 bU3 bU hAp umU lrU hwU q0 q1 q2 q3;go_wp2_with fail
 go_loopw [30] (fun iv wr=>∃k:Nat,k<=M.pend.length/\iv=.int .i64 k/\UM wr w3.heap.size wb.heap.size wb.heap.size false ⟨a1,c1,a2,M.mem.length,c2,a3,c3,none,0,none,0⟩ ⟨M.mem,M.pend,[],[]⟩/\A6 AO wr w1.heap.size (.slice a2 M.mem.length c2) (Bx M k)/\Below wb.heap.size wb wr) (fun iv _=>M.pend.length-(intOf iv).toNat)
 case atStart=>exact⟨0,Nat.zero_le _,rfl,HUMU.out,HLRU.out,HBU.out⟩
 case round =>
  obtain⟨k,hk,rfl,hum,hlr,hb⟩:=hrel;obtain⟨x0,x1,x2,x3⟩:=HBOX.out wr hb;have hsz:=hb.size;have hgl:=hum.lt;have N0:w.heap.size<wr.heap.size:=by omega
  by_cases hlt:k<M.pend.length
  ·obtain⟨ga,ca,hae,haf⟩:=(HM.out wr hb).p.form;obtain⟨g,N,f,hag,_,hr,hN,hf⟩:=haf (by omega);have hga:s.a2=some ⟨g,0,none⟩:=by
    have h2:Value.slice s.a2 M.pend.length s.c2=.slice ga M.pend.length ca:=hae;simp only[Value.slice.injEq] at h2;exact h2.1.trans hag
   have hN':M.pend.length*2<=N:=hN;rw[hga] at x1 ⊢;have k0:=hr.cell (i:=k*2) (by omega);rw[show f (k*2)=.int .i64 (A8 AA M.pend k).addr from hf k hlt 0 (by decide)] at k0;have k1:=hr.cell (i:=k*2+1) (by omega);rw[show f (k*2+1)=.int .u64 (A8 AA M.pend k).word from hf k hlt 1 (by decide)] at k1;have hrl:=hr.lt;obtain⟨pa0,pa1⟩:=HPA.out k hlt;have hls:=DQ M k hlt;have hll:=CJ M k (by omega);(obtain⟨Ad,hAd⟩:∃Ad:Nat,(A8 AA M.pend k).addr=Ad:=⟨(A8 AA M.pend k).addr.toNat,by omega⟩);rw[hAd] at k0 hls pa1;(have htn:(Ad:Int).toNat=Ad:=by omega);rw[htn] at hls;have HLS:Hid _:=hls;generalize (A8 AA M.pend k).word=Wd at *;obtain⟨gb,cb,hbe,hbf⟩:=Be hlr;obtain⟨g2,N2,f2,hg2,hg2b,hr2,hN2,hf2⟩:=hbf (by omega);have hga2:a2=some ⟨g2,0,none⟩:=by
    simp only[Value.slice.injEq] at hbe;exact hbe.1.trans hg2
   subst hga2;have o2:=HO.out.2.1 g2 rfl;have u1:=hum.q1;have cA:=hr2.cell (i:=Ad) (by omega);have fA:wr.frozen? ⟨g2,Ad,none⟩=false:=hr2.frozen Ad;(have L1:(0:Int)<=(k:Int):=by omega);(have L2:(k:Int)<(M.pend.length:Int):=by omega);(have A1:(0:Int)<=(Ad:Int):=by omega);(have A2:(Ad:Int)<(M.mem.length:Int):=by omega);have hw31:w3.heap.size<wr.heap.size:=hgl;have hg2l:g2<wr.heap.size:=hr2.lt;(have n1:g2≠w3.heap.size:=by omega);(have n2:g2≠wr.heap.size:=by omega);(have n3:w3.heap.size≠wr.heap.size:=by omega);have HUM1:Hid _:=hum;have HLR1:Hid (A6 AO wr w1.heap.size (.slice (some ⟨g2,0,none⟩) M.mem.length c2) (Bx M k)):=hlr;have HB1:Hid _:=hb;clear hae haf hbe hbf hr hf hr2 hf2 hN hN2 hga hag hls hum hlr hb hAd;(go_upto_region 5 with fail);(obtain⟨wE,hwE⟩:∃wE,wE=wr.alloc (.cells #[.int .i64 Ad,.int .u64 Wd] 110):=⟨_,rfl⟩);(have hzE:wE.heap.size=wr.heap.size+1:=by rw[hwE];simp);(have bE:Below wr.heap.size wr wE:=by rw[hwE];exact(Below.refl _ _).alloc (Nat.le_refl _) _);(have e0:wE.cell? ⟨wr.heap.size,0,none⟩=some (.int .i64 Ad):=by rw[hwE];simp[go_sem]);(have e1:wE.cell? ⟨wr.heap.size,1,none⟩=some (.int .u64 Wd):=by rw[hwE];simp[go_sem]);have v1:=(bE.cell (p:=⟨w3.heap.size,1,none⟩) (by simpa using hgl)).trans u1;have vA:=(bE.cell (p:=⟨g2,Ad,none⟩) (by simpa using hg2l)).trans cA;have vF:=(bE.frozen (p:=⟨g2,Ad,none⟩) (by simpa using hg2l)).trans fA;have HKE:Hid (∀wX:World,(∀k,k≠g2->wX.heap[k]?=wE.heap[k]?)->wX.cell? ⟨w3.heap.size,1,none⟩=some (.slice (some ⟨g2,0,none⟩) M.mem.length c2)/\wX.cell? ⟨wr.heap.size,0,none⟩=some (.int .i64 Ad)/\wX.cell? ⟨wr.heap.size,1,none⟩=some (.int .u64 Wd)):=fun wX hX =>
    ⟨(World.cell?_of_block (hX w3.heap.size n1.symm)).trans v1,(World.cell?_of_block (hX wr.heap.size n2.symm)).trans e0,(World.cell?_of_block (hX wr.heap.size n2.symm)).trans e1⟩
   have HBE:Hid _:=bE;rw[<- hwE];clear k0 k1 u1 cA fA hwE bE x0 x1 x2 x3;go_region_held3 (fun wX=>wX.cell? ⟨w3.heap.size,1,none⟩=some (.slice (some ⟨g2,0,none⟩) M.mem.length c2)/\wX.cell? ⟨wr.heap.size,0,none⟩=some (.int .i64 Ad)/\wX.cell? ⟨wr.heap.size,1,none⟩=some (.int .u64 Wd))
    ((refine HKE.out _ (fun k hk=>?_);first|rfl|exact Below.heap_setCell _ _ _ _ hk)) (fail)
   have hT:A5 (fun k=>k=g2) wE (wE.drew.setCell ⟨g2,Ad,none⟩ (.int .u64 Wd)):=⟨rfl,rfl,rfl,by simp,fun k hk hn=>Below.heap_setCell _ _ _ _ hn⟩;have hsl:HO.out.2.1 g2 rfl=HO.out.2.1 g2 rfl:=rfl;have HUM2:Hid (UM (wE.drew.setCell ⟨g2,Ad,none⟩ (.int .u64 Wd)) w3.heap.size wb.heap.size wb.heap.size false ⟨a1,c1,some ⟨g2,0,none⟩,M.mem.length,c2,a3,c3,none,0,none,0⟩ ⟨M.mem,M.pend,[],[]⟩):=by
    have h1:=HUM1.out.below HBE.out;have hk2:=hT.block w3.heap.size (by omega) (by show ¬(w3.heap.size=g2);omega);refine⟨by simp;omega,(World.cell?_of_block hk2).trans h1.q0,(World.cell?_of_block hk2).trans h1.q1,(World.cell?_of_block hk2).trans h1.q2,(World.cell?_of_block hk2).trans h1.q3,(World.cell?_of_block hk2).trans h1.q4,(World.frozen?_of_block hk2).trans h1.f2,(World.frozen?_of_block hk2).trans h1.f3,(World.frozen?_of_block hk2).trans h1.f4,h1.w.touchA hT (fun k hk e=>by have:=HO.out.1 k hk;have:k=g2:=e;omega),fun h=>by (cases h),h1.p.touchA hT (fun k hk e=>by have:=HO.out.2.2 k hk;have:k=g2:=e;omega),h1.t.touchA hT (fun k hk=>by cases hk),h1.c.touchA hT (fun k hk=>by cases hk),h1.ap,fun k hk=>by have:=h1.o2 k hk;simpa using this⟩
   have HLR2:Hid (A6 AO (wE.drew.setCell ⟨g2,Ad,none⟩ (.int .u64 Wd)) w1.heap.size (.slice (some ⟨g2,0,none⟩) M.mem.length c2) (Bx M (k+1))):=by
    rw[show Bx M (k+1)=_ from HLS.out];exact A6.setWord ((HLR1.out.below HBE.out).below (Below.refl _ _).drew) Ad (by rw[hll];omega) Wd
   have HB2:Hid (Below wb.heap.size wb (wE.drew.setCell ⟨g2,Ad,none⟩ (.int .u64 Wd))):=(HB1.out.trans (HBE.out.mono (by omega))).drew.setCell (by show wb.heap.size<=g2;omega) _;clear hT hsl e0 e1 v1 vA vF;(go_wp2_with fail);go_roundw;(case rel=>exact⟨k+1,by omega,by go_num,HUM2.out,HLR2.out,HB2.out⟩);case measure=>simp[intOf];omega
  ·(have e:k=M.pend.length:=by omega);subst e;rw[Dk] at hlr;(have L2:¬(M.pend.length:Int)<(M.pend.length:Int):=by omega);have hum2:UM wr w3.heap.size wb.heap.size wb.heap.size true ⟨a1,c1,a2,M.mem.length,c2,a3,c3,none,0,none,0⟩ ⟨M.mem,M.pend,[],[]⟩ :=
    ⟨hum.lt,hum.q0,hum.q1,hum.q2,hum.q3,hum.q4,hum.f2,hum.f3,hum.f4,hum.w,fun _=>⟨rfl,hlr.rebase (by omega)⟩,hum.p,hum.t,hum.c,hum.ap,hum.o2⟩
   have HUMT:Hid _:=hum2;have HBT:Hid _:=hb;clear hum hlr hum2 hb;(go_wp2_with fail);(go_loopw [48] (fun iv wr=>∃(k:Nat) (a4:Option Addr) (c4:Nat),k<=M.tlb.length/\iv=.int .i64 k/\UM wr w3.heap.size wb.heap.size wb.heap.size true ⟨a1,c1,a2,M.mem.length,c2,a3,c3,a4,c4,none,0⟩ ⟨M.mem,M.pend,M.tlb.take k,[]⟩/\Below wb.heap.size wb wr) (fun iv _=>M.tlb.length-(intOf iv).toNat));(case atStart=>exact⟨0,none,0,Nat.zero_le _,rfl,HUMT.out,HBT.out⟩);case round =>
    obtain⟨k,a4,c4,hk,rfl,hum,hb⟩:=hrel;obtain⟨x0,x1,x2,x3⟩:=HBOX.out wr hb;have hsz:=hb.size;have hgl:=hum.lt;(have N0:w.heap.size<wr.heap.size:=by omega);by_cases hlt:k<M.tlb.length
    ·obtain⟨ga,ca,hae,haf⟩:=(HM.out wr hb).t.form;obtain⟨g,N,f,hag,_,hr,hN,hf⟩:=haf (by omega);have hga:s.a3=some ⟨g,0,none⟩:=by
      have h2:Value.slice s.a3 M.tlb.length s.c3=.slice ga M.tlb.length ca:=hae;simp only[Value.slice.injEq] at h2;exact h2.1.trans hag
     have hN':M.tlb.length*5<=N:=hN;rw[hga] at x2 ⊢;have k0:=hr.cell (i:=k*5) (by omega);rw[show f (k*5)=.int .i64 (A8 A7 M.tlb k).page from hf k hlt 0 (by decide)] at k0;have k1:=hr.cell (i:=k*5+1) (by omega);rw[show f (k*5+1)=.int .i64 (A8 A7 M.tlb k).size from hf k hlt 1 (by decide)] at k1;have k2:=hr.cell (i:=k*5+2) (by omega);rw[show f (k*5+2)=.int .i64 (A8 A7 M.tlb k).out from hf k hlt 2 (by decide)] at k2;have k3:=hr.cell (i:=k*5+3) (by omega);rw[show f (k*5+3)=.int .i64 (A8 A7 M.tlb k).perm from hf k hlt 3 (by decide)] at k3;have k4:=hr.cell (i:=k*5+4) (by omega);rw[show f (k*5+4)=.bool (A8 A7 M.tlb k).doom from hf k hlt 4 (by decide)] at k4;have hrl:=hr.lt;(have htl:(M.tlb.take k).length=k:=by rw[List.length_take];omega);(have htl1:(M.tlb.take (k+1)).length=k+1:=by rw[List.length_take];omega);have u3:=hum.q3;have uf3:=hum.f3;simp only[htl] at u3;(have L1:(0:Int)<=(k:Int):=by omega);(have L2:(k:Int)<(M.tlb.length:Int):=by omega);have n3:w3.heap.size<wr.heap.size:=hgl;have hec:At.enc (A8 At M.tlb k)=[.int .i64 (A8 A7 M.tlb k).page,.int .i64 (A8 A7 M.tlb k).size,.bool (A8 A7 M.tlb k).doom,.int .i64 (A8 A7 M.tlb k).out,.int .i64 (A8 A7 M.tlb k).perm]:=rfl;generalize (A8 A7 M.tlb k).page=P0 at *;generalize (A8 A7 M.tlb k).size=P1 at *;generalize (A8 A7 M.tlb k).out=P2 at *;generalize (A8 A7 M.tlb k).perm=P3 at *;generalize (A8 A7 M.tlb k).doom=P4 at *;have HEC:Hid _:=hec;have HUM1:Hid _:=hum;have HB1:Hid _:=hb;clear hae haf hr hf hN hga hag hum hb hec;(go_upto_region 11 with fail);(obtain⟨wE,hwE⟩:∃wE,wE=(wr.alloc (.cells #[.int .i64 P0,.int .i64 P1,.int .i64 P2,.int .i64 P3,.bool P4] 81)).alloc (.cells #[.int .i64 P0,.int .i64 P1,.bool P4] 154):=⟨_,rfl⟩);(have hzE:wE.heap.size=wr.heap.size+2:=by rw[hwE];simp);(have bE:Below wr.heap.size wr wE:=by rw[hwE];exact((Below.refl _ _).alloc (Nat.le_refl _) _).alloc (by simp) _);(have e2:wE.cell? ⟨wr.heap.size,2,none⟩=some (.int .i64 P2):=by rw[hwE];simp[go_sem]);(have e3:wE.cell? ⟨wr.heap.size,3,none⟩=some (.int .i64 P3):=by rw[hwE];simp[go_sem]);(have f0:wE.cell? ⟨wr.heap.size+1,0,none⟩=some (.int .i64 P0):=by rw[hwE];simp[go_sem]);(have f1:wE.cell? ⟨wr.heap.size+1,1,none⟩=some (.int .i64 P1):=by rw[hwE];simp[go_sem]);(have f2:wE.cell? ⟨wr.heap.size+1,2,none⟩=some (.bool P4):=by rw[hwE];simp[go_sem]);have v3:=(bE.cell (p:=⟨w3.heap.size,3,none⟩) (by simpa using hgl)).trans u3;have vf3:=(bE.frozen (p:=⟨w3.heap.size,3,none⟩) (by simpa using hgl)).trans uf3;have HBE:Hid _:=bE;(have n5:wr.heap.size<wE.heap.size:=by omega);(have n6:wr.heap.size+1<wE.heap.size:=by omega);(have n7:w3.heap.size<wE.heap.size:=by omega);have HZE:Hid (wE.heap.size=wr.heap.size+2):=hzE;rw[<- hwE];clear k0 k1 k2 k3 k4 u3 uf3 hwE bE x0 x1 x2 x3 hzE;have HOWN:Hid (wE.drew.ownsRow wb.heap.size 156 5 (.slice a4 k c4) k (AF At (M.tlb.take k))):=by
      have h1:A6 At wE.drew wb.heap.size (.slice a4 (M.tlb.take k).length c4) (M.tlb.take k):=HUM1.out.t.below ((HBE.out:Below wr.heap.size wr wE).drew);unfold A6 at h1;rw[htl] at h1;exact h1
     (have HOLT:Hid (∀j,Al a4=some j->wb.heap.size<=j/\j<wr.heap.size/\j≠w3.heap.size):=fun j hj=>⟨(HUM1.out.t.ownA j hj).1,(HUM1.out.t.ownA j hj).2,fun e=>HUM1.out.ap.g4 (e ▸ hj)⟩);(go_region_law (refine step_append_lies _ (by rfl) _ _ _ (by rfl) wb.heap.size 156 iT _ 5 40 underlying149 hiT hzT0 hzT1 hzT2 rfl (by omega) _ _ _ (by rfl) (World.ownsRow.alloc HOWN.out _) ⟨wE.heap.size,0,none⟩ 1 1 [.int .i64 P0,.int .i64 P1,.bool P4,.int .i64 P2,.int .i64 P3] (by rfl) rfl (World.news_of_block (heap_alloc_new wE.drew (.cells #[.int .i64 P0,.int .i64 P1,.bool P4,.int .i64 P2,.int .i64 P3] 156))) (by intro u hu;simp at hu;rcases hu with rfl|rfl|rfl|rfl|rfl<;>rfl) (by omega) (by unfold maxLen;omega) (by omega) (by have:=HZE.out;simp;omega) (wE.heap.size+1) (by simp) ?_;intro g1 cap1 wn hown hgrow hat hlt3;have hG:=hgrow.block w3.heap.size (by have:=HZE.out;simp;omega) (fun e=>by rw[AQ] at e;exact(HOLT.out _ e.symm).2.2 rfl);have hG2:=hG.trans (heap_alloc_old wE.drew _ (by have:=HZE.out;simp;omega));have z3:=(World.cell?_of_block (a:=⟨w3.heap.size,3,none⟩) hG2).trans v3;have z3f:=(World.frozen?_of_block (a:=⟨w3.heap.size,3,none⟩) hG2).trans vf3));all_goals
      have hnew:A6 At wn wb.heap.size (.slice (some ⟨g1,0,none⟩) (M.tlb.take (k+1)).length cap1) (M.tlb.take (k+1)):=by
       rw[htl1]
       exact A6.snoc (m:=k+1) hlt rfl (by rw[HEC.out];exact hown)
      have bX:Below wr.heap.size wr (wE.drew.alloc (.cells #[.int .i64 P0,.int .i64 P1,.bool P4,.int .i64 P2,.int .i64 P3] 156)):=HBE.out.drew.alloc (by have:=HZE.out;simp;omega) _
      have hzE:=HZE.out
      rw[AQ] at hgrow hat
      have ho:∀j,Al (some ⟨g1,0,none⟩)=some j->Al a4=some j\/(wE.drew.alloc (.cells #[.int .i64 P0,.int .i64 P1,.bool P4,.int .i64 P2,.int .i64 P3] 156)).heap.size<=j:=fun j hj=>by
       have:g1=j:=by simpa [Al,Value.ownBlock] using hj
       subst this
       rcases hat with h'|h'
       ·exact .inl h'
       ·exact .inr (by simp;omega)
      have st:=UM.newTlb (HUM1.out.below bX) hgrow (some ⟨g1,0,none⟩) cap1 _ hnew ho
      rw[htl1] at st
      have HB2:Hid (Below wb.heap.size wb (wn.setCell ⟨w3.heap.size,3,none⟩ (.slice (some ⟨g1,0,none⟩) (k+1) cap1))):=((HB1.out.trans (bX.mono (by omega))).grown hgrow (by simp;omega) (fun q hq=>(HOLT.out q hq).1)).setCell (by show wb.heap.size<=w3.heap.size;omega) _
      have HST:Hid _:=st.um
      clear hown hgrow hat hG hG2 z3 z3f hnew bX ho st
      go_wp2_with fail
      go_roundw
      case rel=>exact⟨k+1,some ⟨g1,0,none⟩,cap1,by omega,by go_num,HST.out,HB2.out⟩
      case measure=>simp[intOf];omega
    ·(have e:k=M.tlb.length:=by omega);subst e;rw[List.take_length] at hum;(have L2:¬(M.tlb.length:Int)<(M.tlb.length:Int):=by omega);have HUMC:Hid _:=hum;have HBC:Hid _:=hb;clear hum hb;(go_wp2_with fail);(go_loopw [78] (fun iv wr=>∃(k:Nat) (a5:Option Addr) (c5:Nat),k<=M.wc.length/\iv=.int .i64 k/\UM wr w3.heap.size wb.heap.size wb.heap.size true ⟨a1,c1,a2,M.mem.length,c2,a3,c3,a4,c4,a5,c5⟩ ⟨M.mem,M.pend,M.tlb,M.wc.take k⟩/\Below wb.heap.size wb wr) (fun iv _=>M.wc.length-(intOf iv).toNat));(case atStart=>exact⟨0,none,0,Nat.zero_le _,rfl,HUMC.out,HBC.out⟩);case round =>
      obtain⟨k,a5,c5,hk,rfl,hum,hb⟩:=hrel;obtain⟨x0,x1,x2,x3⟩:=HBOX.out wr hb;have hsz:=hb.size;have hgl:=hum.lt;(have N0:w.heap.size<wr.heap.size:=by omega);by_cases hlt:k<M.wc.length
      ·obtain⟨ga,ca,hae,haf⟩:=(HM.out wr hb).c.form;obtain⟨g,N,f,hag,_,hr,hN,hf⟩:=haf (by omega);have hga:s.a4=some ⟨g,0,none⟩:=by
        have h2:Value.slice s.a4 M.wc.length s.c4=.slice ga M.wc.length ca:=hae;simp only[Value.slice.injEq] at h2;exact h2.1.trans hag
       have hN':M.wc.length*4<=N:=hN;rw[hga] at x3 ⊢;have k0:=hr.cell (i:=k*4) (by omega);rw[show f (k*4)=.int .i64 (A8 AJ M.wc k).level from hf k hlt 0 (by decide)] at k0;have k1:=hr.cell (i:=k*4+1) (by omega);rw[show f (k*4+1)=.int .i64 (A8 AJ M.wc k).page from hf k hlt 1 (by decide)] at k1;have k2:=hr.cell (i:=k*4+2) (by omega);rw[show f (k*4+2)=.int .i64 (A8 AJ M.wc k).table from hf k hlt 2 (by decide)] at k2;have k3:=hr.cell (i:=k*4+3) (by omega);rw[show f (k*4+3)=.bool (A8 AJ M.wc k).doom from hf k hlt 3 (by decide)] at k3;have hrl:=hr.lt;(have htl:(M.wc.take k).length=k:=by rw[List.length_take];omega);(have htl1:(M.wc.take (k+1)).length=k+1:=by rw[List.length_take];omega);have u4:=hum.q4;have uf4:=hum.f4;simp only[htl] at u4;(have L1:(0:Int)<=(k:Int):=by omega);(have L2:(k:Int)<(M.wc.length:Int):=by omega);have n3:w3.heap.size<wr.heap.size:=hgl;have hec:As.enc (A8 As M.wc k)=[.int .i64 (A8 AJ M.wc k).page,.int .i64 (16*Ab (A8 AJ M.wc k).level),.bool (A8 AJ M.wc k).doom,.int .i64 (A8 AJ M.wc k).level,.int .i64 (A8 AJ M.wc k).table]:=rfl;generalize (A8 AJ M.wc k).level=P0 at *;generalize (A8 AJ M.wc k).page=P1 at *;generalize (A8 AJ M.wc k).table=P2 at *;generalize (A8 AJ M.wc k).doom=P3 at *;have HEC:Hid _:=hec;have HUM1:Hid _:=hum;have HB1:Hid _:=hb;clear hae haf hr hf hN hga hag hum hb hec;have htp:=Cc P0;generalize 16*Ab P0=PC at *;(go_upto_region 16 with fail);(obtain⟨wD,hwD⟩:∃wD,wD=wr.alloc (.cells #[.int .i64 P0,.int .i64 P1,.int .i64 P2,.bool P3] 113):=⟨_,rfl⟩);(have hzD:wD.heap.size=wr.heap.size+1:=by rw[hwD];simp);(have bD:Below wr.heap.size wr wD:=by rw[hwD];exact(Below.refl _ _).alloc (Nat.le_refl _) _);have HDC:Hid (∀wX,Below wD.heap.size wD wX->wX.cell? ⟨wr.heap.size,0,none⟩=some (.int .i64 P0)/\wX.cell? ⟨wr.heap.size,1,none⟩=some (.int .i64 P1)/\wX.cell? ⟨wr.heap.size,2,none⟩=some (.int .i64 P2)/\wX.cell? ⟨wr.heap.size,3,none⟩=some (.bool P3)):=fun wX hX=>by
        refine⟨?_,?_,?_,?_⟩;iterate 4 (exact(hX.cell (by simp;omega)).trans (by rw[hwD];simp[go_sem]))
       have HBD:Hid _:=bD;have HZD:Hid (wD.heap.size=wr.heap.size+1):=hzD;rw[<- hwD];clear k0 k1 k2 k3 hwD bD x0 x1 x2 x3 hzD;(go_cut [11] (fun d wx=>∃D,d=.pointer (some ⟨D,0,none⟩)/\wx.cell? ⟨D,0,none⟩=some (.int .i64 P1)/\wx.cell? ⟨D,1,none⟩=some (.int .i64 PC)/\wx.cell? ⟨D,2,none⟩=some (.bool P3)/\wD.heap.size<=D/\D<wx.heap.size/\Below wD.heap.size wD wx));case first =>
        go_region_held3 (fun wX=>wX.cell? ⟨wr.heap.size,0,none⟩=some (.int .i64 P0)/\wX.cell? ⟨wr.heap.size,1,none⟩=some (.int .i64 P1)/\wX.cell? ⟨wr.heap.size,2,none⟩=some (.int .i64 P2)/\wX.cell? ⟨wr.heap.size,3,none⟩=some (.bool P3))
         ((refine HDC.out _ ?_;repeat (first|exact Below.refl _ _|with_reducible refine Below.drew ?_|with_reducible refine Below.setCell ?_ (by first|omega|(simp<;>omega)) _|with_reducible refine Below.alloc ?_ (by first|omega|(simp<;>omega)) _)))
         (first|(go_at_call 102;refine(htp _).mono ?_;rintro e wF ⟨rfl,hwF⟩;obtain rfl:=hwF.symm))
        all_goals
         go_wp2_with fail
         go_meet
         case rel =>
          refine⟨_,rfl,?_,?_,?_,?_,?_,?_⟩
          ·simp[go_sem]
          ·simp[go_sem]
          ·simp[go_sem]
          ·first|omega|(simp<;>omega)
          ·first|omega|(simp<;>omega)
          ·repeat (first|exact Below.refl _ _|with_reducible refine Below.drew ?_|with_reducible refine Below.setCell ?_ (by first|omega|(simp<;>omega)) _|with_reducible refine Below.alloc ?_ (by first|omega|(simp<;>omega)) _)
       case rest =>
        (obtain⟨wE,rfl⟩:∃wE:World,wE=wc:=⟨_,rfl⟩);obtain⟨D,rfl,f0,f1,f2,hD0,hD1,hbx⟩:=hcut;have hzD:=HZD.out;have sE:=hbx.size;have bE:Below wr.heap.size wr wE:=HBD.out.trans (hbx.mono (by omega));obtain⟨e0,e1,e2,e3⟩:=HDC.out wE hbx;have v4:=(bE.cell (p:=⟨w3.heap.size,4,none⟩) (by simpa using hgl)).trans u4;have vf4:=(bE.frozen (p:=⟨w3.heap.size,4,none⟩) (by simpa using hgl)).trans uf4;have HBE:Hid _:=bE;(have n5:wr.heap.size<wE.heap.size:=by omega);(have n7:w3.heap.size<wE.heap.size:=by omega);have HZE:Hid (wr.heap.size+1<wE.heap.size):=(by omega:wr.heap.size+1<wE.heap.size);clear u4 uf4 bE hbx hzD sE htp e1 e3;(go_upto_region 17 with fail);have HOWN:Hid (wE.drew.ownsRow wb.heap.size 158 5 (.slice a5 k c5) k (AF As (M.wc.take k))):=by
         have h1:A6 As wE.drew wb.heap.size (.slice a5 (M.wc.take k).length c5) (M.wc.take k):=HUM1.out.c.below ((HBE.out:Below wr.heap.size wr wE).drew);unfold A6 at h1;rw[htl] at h1;exact h1
        (have HOLT:Hid (∀j,Al a5=some j->wb.heap.size<=j/\j<wr.heap.size/\j≠w3.heap.size):=fun j hj=>⟨(HUM1.out.c.ownA j hj).1,(HUM1.out.c.ownA j hj).2,fun e=>HUM1.out.ap.g5 (e ▸ hj)⟩);(go_region_law (refine step_append_lies _ (by rfl) _ _ _ (by rfl) wb.heap.size 158 iC _ 5 40 underlying150 hiC hzC0 hzC1 hzC2 rfl (by omega) _ _ _ (by rfl) (World.ownsRow.alloc HOWN.out _) ⟨wE.heap.size,0,none⟩ 1 1 [.int .i64 P1,.int .i64 PC,.bool P3,.int .i64 P0,.int .i64 P2] (by rfl) rfl (World.news_of_block (heap_alloc_new wE.drew (.cells #[.int .i64 P1,.int .i64 PC,.bool P3,.int .i64 P0,.int .i64 P2] 158))) (by intro u hu;simp at hu;rcases hu with rfl|rfl|rfl|rfl|rfl<;>rfl) (by omega) (by unfold maxLen;omega) (by omega) (by have:=HZE.out;simp;omega) (wE.heap.size+1) (by simp) ?_;intro g1 cap1 wn hown hgrow hat hlt3;have hG:=hgrow.block w3.heap.size (by have:=HZE.out;simp;omega) (fun e=>by rw[AQ] at e;exact(HOLT.out _ e.symm).2.2 rfl);have hG2:=hG.trans (heap_alloc_old wE.drew _ (by have:=HZE.out;simp;omega));have z3:=(World.cell?_of_block (a:=⟨w3.heap.size,4,none⟩) hG2).trans v4;have z3f:=(World.frozen?_of_block (a:=⟨w3.heap.size,4,none⟩) hG2).trans vf4));all_goals
         have hnew:A6 As wn wb.heap.size (.slice (some ⟨g1,0,none⟩) (M.wc.take (k+1)).length cap1) (M.wc.take (k+1)):=by
          rw[htl1]
          exact A6.snoc (m:=k+1) hlt rfl (by rw[HEC.out];exact hown)
         have bX:Below wr.heap.size wr (wE.drew.alloc (.cells #[.int .i64 P1,.int .i64 PC,.bool P3,.int .i64 P0,.int .i64 P2] 158)):=HBE.out.drew.alloc (by have:=HZE.out;simp;omega) _
         have hzE:=HZE.out
         rw[AQ] at hgrow hat
         have ho:∀j,Al (some ⟨g1,0,none⟩)=some j->Al a5=some j\/(wE.drew.alloc (.cells #[.int .i64 P1,.int .i64 PC,.bool P3,.int .i64 P0,.int .i64 P2] 158)).heap.size<=j:=fun j hj=>by
          have:g1=j:=by simpa [Al,Value.ownBlock] using hj
          subst this
          rcases hat with h'|h'
          ·exact .inl h'
          ·exact .inr (by simp;omega)
         have st:=UM.newWc (HUM1.out.below bX) hgrow (some ⟨g1,0,none⟩) cap1 _ hnew ho
         rw[htl1] at st
         have HB2:Hid (Below wb.heap.size wb (wn.setCell ⟨w3.heap.size,4,none⟩ (.slice (some ⟨g1,0,none⟩) (k+1) cap1))):=((HB1.out.trans (bX.mono (by omega))).grown hgrow (by simp;omega) (fun q hq=>(HOLT.out q hq).1)).setCell (by show wb.heap.size<=w3.heap.size;omega) _
         have HST:Hid _:=st.um
         clear hown hgrow hat hG hG2 z3 z3f hnew bX ho st
         go_wp2_with fail
         go_roundw
         case rel=>exact⟨k+1,some ⟨g1,0,none⟩,cap1,by omega,by go_num,HST.out,HB2.out⟩
         case measure=>simp[intOf];omega
      ·(have e:k=M.wc.length:=by omega);subst e;rw[List.take_length] at hum;(have L2:¬(M.wc.length:Int)<(M.wc.length:Int):=by omega);have HUMD:Hid _:=hum;have HBD:Hid (Below wb.heap.size wb wr):=hb;clear hum hb;(go_wp2_with fail);go_ret;refine⟨w3.heap.size,rfl,by omega,_,HUMD.out.rebase (by omega) (by omega),?_,HBB.out.trans (HBD.out.mono (by omega))⟩;refine⟨fun q h1 h3=>?_,fun q h1 h2=>?_,fun q h2 h3=>?_⟩
       ·have:=HO.out.1 q h1;have:=HO.out.2.2 q h3;omega
       ·have:=HO.out.1 q h1;have:=HO.out.2.1 q h2;omega
       ·have:=HO.out.2.1 q h2;have:=HO.out.2.2 q h3;omega
theorem Lq(s:SV)(M:A9)(b:Nat)(w:World)(hok:Cv M)(hpa:∀i,i<M.pend.length->0<=(A8 AA M.pend i).addr/\(A8 AA M.pend i).addr<M.mem.length)(h:AB w b (s.mv M) M):Calls prog 51 #[.agg #[.slice s.a1 M.mem.length s.c1,.slice s.a2 M.pend.length s.c2,.slice s.a3 M.tlb.length s.c3,.slice s.a4 M.wc.length s.c4]] w fun r w'=>∃gu u,r=.returned (.pointer (some ⟨gu,0,none⟩))/\w.heap.size<=gu/\UM w' gu w.heap.size w.heap.size true u M/\(∀k,u.o1=some k->u.o3≠some k)/\Below w.heap.size w w':=by
 refine(G6 s M b w hok hpa h).mono ?_;rintro r w' ⟨gu,u,h1,h2,h3,h4,h5⟩;exact⟨gu,u,h1,h2,h3,h4.a13,h5⟩
end Go.Proofs.YtnmhkgmmpkjjeabGreat
