import Derived.Test.YtnmhkgmmpkjjeabGreatE32
namespace Go.Proofs.YtnmhkgmmpkjjeabGreat
open ChangeShapes WideShapes ChangeAt RowKit Proofs.Tryz
set_option linter.all false
set_option maxRecDepth 100000
set_option maxHeartbeats 4000000
attribute [local go_sem ↓] wp_at_zero wp_at_succ
theorem FC(g:Nat)(zs:List Int)(c:Nat)(f:Int)(hz:EG zs)(hcc:zs.length<=c)(w:World)(hg:Bj w g zs):Calls prog 156 #[.agg #[.slice (some ⟨g,0,none⟩) zs.length c],.int .i64 f] w fun e w'=>e=.returned (.bool (C1 (AK zs) f))/\Below w.heap.size w w':=by
 obtain⟨wb,hwb⟩:∃wb,wb=w.alloc (.cells #[.slice (some ⟨g,0,none⟩) zs.length c] 31):=⟨_,rfl⟩
 have hbb:Below w.heap.size w wb:=by rw[hwb];exact(Below.refl _ _).alloc (Nat.le_refl _) _
 have hpl:=FD g zs c hz hcc wb (hg.below hbb hg.lt);have hle:=CG zs;rw[hwb] at hpl;have HWB:Hid (wb=_):=hwb;have HBB:Hid (Below w.heap.size w wb):=hbb;clear hwb hbb hz hg;obtain⟨ps,hps⟩:∃ps,ps=AK zs:=⟨_,rfl⟩
 rw[<- hps] at hpl hle ⊢;clear hps;go_enter func156,ntmps156
 go_wp2_with fail
 refine hpl.mono ?_;rintro e w1 ⟨g1,c1,rfl,hr,hb1'⟩;have hb1:Below wb.heap.size wb w1:=by rw[HWB.out];exact hb1'
 have b1:Below w.heap.size w w1:=HBB.out.trans (hb1.mono HBB.out.size);obtain⟨gp,hp1,hp2⟩:=ES hr;have HP1:Hid _:=hp1;have HP2:Hid _:=hp2;have HB1:Hid (Below w.heap.size w w1):=b1;clear hb1 hb1' hpl hr hp1 hp2 b1;go_wp2_with fail
 go_loopw [10] (fun i wr=>∃k:Nat,k<=ps.length/\i=.int .i64 k/\Hid (∀j,j<k->decide ((BQ ps j).fr=f)=false)/\Below w1.heap.size w1 wr) (fun i _=>ps.length-(intOf i).toNat)
 case atStart=>exact⟨0,Nat.zero_le _,rfl,fun j hj=>absurd hj (by omega),Below.refl _ _⟩
 case round =>
  obtain⟨k,hk,rfl,hall,hb⟩:=hrel;by_cases hlt:k<ps.length
  ·(obtain⟨E,hE⟩:∃E,BQ ps k=E:=⟨_,rfl⟩);obtain⟨F,L,P⟩:=E;obtain⟨hge,hgl⟩:=HP1.out (by omega);simp only[Option.some.injEq,Addr.mk.injEq,and_true] at hge;obtain rfl:=hge.symm;obtain⟨c0,c1,c2⟩:=HP2.out k F L P hlt hE wr hb;have HE:Hid (BQ ps k=_):=hE;(have L1:(0:Int)<=(k:Int):=by omega);(have L2:(k:Int)<(ps.length:Int):=by omega);have HB:Hid (Below w1.heap.size w1 wr):=hb;have hsz:=hb.size;clear hE hb hge;by_cases hf:F=f
   ·(have d:(F==f)=true:=by simpa using hf);have HR:Hid (C1 ps f=true):=BF _ k _ hlt (by rw[HE.out];exact decide_eq_true hf);clear hf;(go_wp2_with fail);go_ret;refine⟨by rw[HR.out];rfl,HB1.out.trans ((HB.out.alloc hsz _).mono HB1.out.size)⟩
   ·(have d:(F==f)=false:=by simpa using hf);(have HN:Hid (decide ((BQ ps k).fr=f)=false):=by rw[HE.out];exact decide_eq_false hf);clear hf;(go_wp2_with fail);go_roundw;case rel =>
     refine⟨k+1,by omega,by go_num,fun j hj=>?_,HB.out.alloc hsz _⟩;by_cases e:j=k
     ·rw[e];exact HN.out
     ·exact hall.out j (by omega)
    case measure=>simp[intOf];omega
  ·have HR:Hid (C1 ps f=false):=BZ _ _ (fun j hj=>hall.out j (by omega));(go_wp2_with fail);go_ret;exact⟨by rw[HR.out];rfl,HB1.out.trans (hb.mono HB1.out.size)⟩
theorem Jq(gu b0 B:Nat)(u:UV)(M:A9)(F L Q ix:Int)(w:World)(hv:AG M=true)(hl:L=1\/L=2\/L=3)(hq0:0<=Q)(hq1:Q<=20000)(hi0:0<=ix)(hi1:ix<16)(ht:M.tlb.length<=256)(hc:M.wc.length<=256)(h:UM w gu b0 B true u M):Calls prog 155 #[.pointer (some ⟨gu,0,none⟩),.agg #[.int .i64 F,.int .i64 L,.int .i64 Q],.int .i64 ix] w fun e w'=>e=.returned (.bool (BD M L (Q+ix*Ab L) (Ab L)))/\Below w.heap.size w w':=by
 have hcb:1<=Ab L/\Ab L<=256:=by rcases hl with rfl|rfl|rfl<;>decide
 have hmul:0<=ix*Ab L/\ix*Ab L<=3840:=by rcases hl with rfl|rfl|rfl<;>(simp only[Ab];constructor<;>(simp;omega))
 obtain⟨wb,hwb⟩:∃wb,wb=w.alloc (.cells #[.int .i64 F,.int .i64 L,.int .i64 Q] 172):=⟨_,rfl⟩
 have hbb:Below w.heap.size w wb:=by rw[hwb];exact(Below.refl _ _).alloc (Nat.le_refl _) _
 have hzb:wb.heap.size=w.heap.size+1:=by rw[hwb];simp
 have hep:=Bc L;obtain⟨gt,ht1,ht2⟩:=Gu h.t;obtain⟨gw,hw1,hw2⟩:=GP h.c;have hlt:=h.lt;have HQ:Hid (∀wX,Below wb.heap.size wb wX->(wX.cell? ⟨w.heap.size,0,none⟩=some (.int .i64 F)/\wX.cell? ⟨w.heap.size,1,none⟩=some (.int .i64 L)/\wX.cell? ⟨w.heap.size,2,none⟩=some (.int .i64 Q))/\wX.cell? ⟨gu,3,none⟩=some (.slice u.a4 M.tlb.length u.c4)/\wX.cell? ⟨gu,4,none⟩=some (.slice u.a5 M.wc.length u.c5)):=fun wX hX=>by
  have hu:=h.below (hbb.trans (hX.mono (by omega)));refine⟨⟨?_,?_,?_⟩,hu.q3,hu.q4⟩;iterate 3 (exact(hX.cell (by simp;omega)).trans (by rw[hwb];simp[go_sem]))
 have HT2:Hid (∀k P S O R D,k<M.tlb.length->A8 A7 M.tlb k=⟨P,S,O,R,D⟩->u.a4=some ⟨gt,0,none⟩/\gt<w.heap.size/\∀wX,Below wb.heap.size wb wX->wX.cell? ⟨gt,k*5,none⟩=some (.int .i64 P)/\wX.cell? ⟨gt,k*5+1,none⟩=some (.int .i64 S)/\wX.cell? ⟨gt,k*5+2,none⟩=some (.bool D)/\wX.cell? ⟨gt,k*5+3,none⟩=some (.int .i64 O)/\wX.cell? ⟨gt,k*5+4,none⟩=some (.int .i64 R)):=fun k P S O R D hk he=>by
  obtain⟨e1,e2⟩:=ht1 (by omega);exact⟨e1,e2,fun wX hX=>ht2 k P S O R D hk he wX ((hbb.trans (hX.mono (by omega))).block gt e2)⟩
 have HW2:Hid (∀k L P T D,k<M.wc.length->A8 AJ M.wc k=⟨L,P,T,D⟩->u.a5=some ⟨gw,0,none⟩/\gw<w.heap.size/\∀wX,Below wb.heap.size wb wX->wX.cell? ⟨gw,k*5,none⟩=some (.int .i64 P)/\wX.cell? ⟨gw,k*5+1,none⟩=some (.int .i64 (16*Ab L))/\wX.cell? ⟨gw,k*5+2,none⟩=some (.bool D)/\wX.cell? ⟨gw,k*5+3,none⟩=some (.int .i64 L)/\wX.cell? ⟨gw,k*5+4,none⟩=some (.int .i64 T)):=fun k L P T D hk he=>by
  obtain⟨e1,e2⟩:=hw1 (by omega);exact⟨e1,e2,fun wX hX=>hw2 k L P T D hk he wX ((hbb.trans (hX.mono (by omega))).block gw e2)⟩
 have HV:Hid (AG M=true):=hv;have HWB:Hid (wb=_):=hwb;have HBB:Hid (Below w.heap.size w wb):=hbb;have HZ:Hid (wb.heap.size=w.heap.size+1):=hzb;have q3:=h.q3;obtain⟨cL,hcL⟩:∃cL,cL=Ab L:=⟨_,rfl⟩
 rw[<- hcL] at hcb hmul hep ⊢;have hW1:IntKind.i64.wrap (ix*cL)=ix*cL:=by rw[IntKind.wrap_i64];omega
 obtain⟨m0,hm0⟩:∃m0,m0=ix*cL:=⟨_,rfl⟩
 have hW2:IntKind.i64.wrap (Q+ix*cL)=Q+ix*cL:=by rw[IntKind.wrap_i64];omega
 obtain⟨fs,hfs⟩:∃fs,fs=Q+ix*cL:=⟨_,rfl⟩
 have hf0:0<=fs/\fs<100000:=by omega
 clear h ht1 ht2 hw1 hw2 hv hwb hbb hzb hcL hm0;go_enter func155,ntmps155
 go_wp2_with (go_at_call 128;refine(hep _).mono ?_;rintro e w1 ⟨rfl,hw1⟩;obtain rfl:=hw1.symm)
 rw[<- HWB.out,<- hfs];have HFS:Hid (fs=_):=hfs;clear hfs hW1 hW2 hmul q3;go_loopw [27] (fun i wr=>∃k:Nat,k<=M.tlb.length/\i=.int .i64 k/\Hid (∀j,j<k->E7 M fs cL j=false)/\Below wb.heap.size wb wr) (fun i _=>M.tlb.length-(intOf i).toNat)
 case atStart=>exact⟨0,Nat.zero_le _,rfl,fun j hj=>absurd hj (by omega),Below.refl _ _⟩
 case round =>
  obtain⟨k,hk,rfl,hall,hb⟩:=hrel;by_cases hlt2:k<M.tlb.length
  ·(obtain⟨E,hE⟩:∃E,A8 A7 M.tlb k=E:=⟨_,rfl⟩);obtain⟨P,S,O,R,D⟩:=E;obtain⟨hae,hgt,hcs⟩:=HT2.out k P S O R D hlt2 hE;rw[hae];obtain⟨c0,c1,c2,c3,c4⟩:=hcs wr hb;have htv:=CV HV.out k hlt2;rw[hE] at htv;have hts:(0<=P/\P<100000)/\(0<=S/\S<100000):=by
    simp only[AH,AP,Bool.and_eq_true,Bool.or_eq_true,decide_eq_true_eq] at htv;omega
   (obtain⟨wx,hwx⟩:∃wx,wx=wr.alloc (.cells #[.int .i64 P,.int .i64 S,.bool D,.int .i64 O,.int .i64 R] 156):=⟨_,rfl⟩);have hov:=D7 wr.heap.size 0 P S fs cL hts.1 hts.2 hf0 (by omega) wx (by rw[hwx];simp[go_sem]) (by rw[hwx];simp[go_sem]);(have bx:Below wb.heap.size wb wx:=by rw[hwx];exact hb.alloc hb.size _);(have HCT:Hid (E7 M fs cL k=BM P S fs cL):=by unfold E7;rw[hE];rfl);rw[hwx] at hov;have HWX:Hid (wx=_):=hwx;have HBX:Hid (Below wb.heap.size wb wx):=bx;(have L1:(0:Int)<=(k:Int):=by omega);(have L2:(k:Int)<(M.tlb.length:Int):=by omega);clear hwx bx htv hts hE hcs hae;cases hm:BM P S fs cL<;>rw[hm] at hov
   ·(have HF:Hid (E7 M fs cL k=false):=by rw[HCT.out];exact hm);clear hm;(go_wp2_with (go_at_call 147;refine hov.mono ?_;rintro e w2 ⟨rfl,hb2⟩));rw[<- HWX.out] at hb2;go_roundw;case rel =>
     refine⟨k+1,by omega,by go_num,fun j hj=>?_,HBX.out.trans (hb2.mono HBX.out.size)⟩;by_cases e:j=k
     ·rw[e];exact HF.out
     ·exact hall.out j (by omega)
    case measure=>simp[intOf];omega
   ·(have HR:Hid (BD M L fs cL=true):=by unfold BD;rw[BF _ k _ hlt2 (by rw[HCT.out];exact hm)];rfl);clear hm;(go_wp2_with (go_at_call 147;refine hov.mono ?_;rintro e w2 ⟨rfl,hb2⟩));rw[<- HWX.out] at hb2;go_ret;exact⟨by rw[<- HFS.out,HR.out];rfl,HBB.out.trans ((HBX.out.trans (hb2.mono HBX.out.size)).mono HBB.out.size)⟩
  ·have HTN:Hid (BW (E7 M fs cL) M.tlb.length=false):=BZ _ _ (fun j hj=>hall.out j (by omega));(obtain⟨wA,rfl⟩:∃wA:World,wA=wr:=⟨_,rfl⟩);have q4A:=(HQ.out wA hb).2.2;have HBA:Hid (Below wb.heap.size wb wA):=hb;clear hall hb;(go_wp2_with fail);clear q4A;(go_loopw [41] (fun i wr=>∃k:Nat,k<=M.wc.length/\i=.int .i64 k/\Hid (∀j,j<k->De M L fs cL j=false)/\Below wb.heap.size wb wr) (fun i _=>M.wc.length-(intOf i).toNat));(case atStart=>exact⟨0,Nat.zero_le _,rfl,fun j hj=>absurd hj (by omega),HBA.out⟩);case round =>
    obtain⟨k,hk,rfl,hall,hb⟩:=hrel;by_cases hlt2:k<M.wc.length
    ·(obtain⟨E,hE⟩:∃E,A8 AJ M.wc k=E:=⟨_,rfl⟩);obtain⟨L2',P,T,D⟩:=E;obtain⟨hae,hgt,hcs⟩:=HW2.out k L2' P T D hlt2 hE;rw[hae];obtain⟨c0,c1,c2,c3,c4⟩:=hcs wr hb;have htv:=Ca HV.out k hlt2;rw[hE] at htv;have hts:(0<=P/\P<100000)/\(L2'=2\/L2'=3):=by
      simp only[AX,AP,Bool.and_eq_true,Bool.or_eq_true,decide_eq_true_eq] at htv;omega
     (obtain⟨S,hS⟩:∃S,S=16*Ab L2':=⟨_,rfl⟩);(have hS2:0<=S/\S<100000:=by rw[hS];rcases hts.2 with rfl|rfl<;>decide);rw[<- hS] at c1;(obtain⟨wx,hwx⟩:∃wx,wx=wr.alloc (.cells #[.int .i64 P,.int .i64 S,.bool D,.int .i64 L2',.int .i64 T] 158):=⟨_,rfl⟩);have hov:=D7 wr.heap.size 0 P S fs cL hts.1 hS2 hf0 (by omega) wx (by rw[hwx];simp[go_sem]) (by rw[hwx];simp[go_sem]);(have bx:Below wb.heap.size wb wx:=by rw[hwx];exact hb.alloc hb.size _);(have HCT:Hid (De M L fs cL k=(decide (L<L2')&&BM P S fs cL)):=by unfold De;rw[hE,hS];rfl);rw[hwx] at hov;have HWX:Hid (wx=_):=hwx;have HBX:Hid (Below wb.heap.size wb wx):=bx;obtain⟨⟨p0,p1,p2⟩,_,_⟩:=HQ.out wr hb;(have N0:w.heap.size<wr.heap.size:=by have:=hb.size;have:=HZ.out;omega);(have L1:(0:Int)<=(k:Int):=by omega);(have L2:(k:Int)<(M.wc.length:Int):=by omega);have HBR:Hid (Below wb.heap.size wb wr):=hb;clear hwx bx htv hts hE hcs hae hb hS;by_cases hLL:L<L2'
     ·have dL:decide (L<L2')=true:=decide_eq_true hLL;cases hm:BM P S fs cL<;>rw[hm] at hov
      ·(have HF:Hid (De M L fs cL k=false):=by rw[HCT.out,hm,Bool.and_false];rfl);clear hm;(go_wp2_with (go_at_call 147;refine hov.mono ?_;rintro e w2 ⟨rfl,hb2⟩));rw[<- HWX.out] at hb2;go_roundw;case rel =>
        refine⟨k+1,by omega,by go_num,fun j hj=>?_,HBX.out.trans (hb2.mono HBX.out.size)⟩;by_cases e:j=k
        ·rw[e];exact HF.out
        ·exact hall.out j (by omega)
       case measure=>simp[intOf];omega
      ·(have HR:Hid (BD M L fs cL=true):=by unfold BD;rw[BF (De M L fs cL) k _ hlt2 (by rw[HCT.out,hm,dL];rfl),Bool.or_true];rfl);clear hm;(go_wp2_with (go_at_call 147;refine hov.mono ?_;rintro e w2 ⟨rfl,hb2⟩));rw[<- HWX.out] at hb2;go_ret;exact⟨by rw[<- HFS.out,HR.out];rfl,HBB.out.trans ((HBX.out.trans (hb2.mono HBX.out.size)).mono HBB.out.size)⟩
     ·have dL:decide (L<L2')=false:=decide_eq_false hLL;(have HF:Hid (De M L fs cL k=false):=by rw[HCT.out,dL];rfl);clear hov;(go_wp2_with fail);go_roundw;case rel =>
       refine⟨k+1,by omega,by go_num,fun j hj=>?_,HBR.out.alloc HBR.out.size _⟩;by_cases e:j=k
       ·rw[e];exact HF.out
       ·exact hall.out j (by omega)
      case measure=>simp[intOf];omega
    ·(have HR:Hid (BD M L fs cL=false):=by unfold BD;rw[HTN.out,BZ _ _ (fun j hj=>hall.out j (by omega))];rfl);(go_wp2_with fail);go_ret;exact⟨by rw[<- HFS.out,HR.out];rfl,HBB.out.trans (hb.mono HBB.out.size)⟩
theorem JN(b o:Nat)(hp hn first pages:Int)(D:Bool)(h0:0<=hp/\hp<100000)(h1:0<=hn/\hn<100000)(h2:0<=first/\first<100000)(h3:0<=pages/\pages<100000)(w:World)(hb:b<w.heap.size)(c0:w.cell? ⟨b,o,none⟩=some (.int .i64 hp))(c1:w.cell? ⟨b,o+1,none⟩=some (.int .i64 hn))(c2:w.cell? ⟨b,o+2,none⟩=some (.bool D))(f2:w.frozen? ⟨b,o+2,none⟩=false):Calls prog 194 #[.pointer (some ⟨b,o,none⟩),.int .i64 first,.int .i64 pages] w fun e w'=>e=.returned (.tuple #[])/\∃w2,Below w.heap.size w w2/\w'=if BM hp hn first pages then w2.setCell ⟨b,o+2,none⟩ (.bool true) else w2:=by
 have hov:=D7 b o hp hn first pages h0 h1 h2 h3 w c0 c1
 cases hm:BM hp hn first pages<;>rw[hm] at hov
 ·simp only[Bool.false_eq_true,if_false];clear hm;go_enter func194,ntmps194
  go_wp2_with fail
  refine hov.mono ?_;rintro e w1 ⟨rfl,hb1⟩;go_wp2_with fail
  exact bodyPost_end (v:=.tuple #[]) (by simp[results,results194,go_sem]) rfl ⟨rfl,w1,hb1,rfl⟩
 ·simp only[if_true];clear hm;go_enter func194,ntmps194
  go_wp2_with fail
  refine hov.mono ?_;rintro e w1 ⟨rfl,hb1⟩;have d2:=(hb1.cell (p:=⟨b,o+2,none⟩) hb).trans c2;have g2:=(hb1.frozen (p:=⟨b,o+2,none⟩) hb).trans f2;go_wp2_with fail
  exact bodyPost_end (v:=.tuple #[]) (by simp[results,results194,go_sem]) rfl ⟨rfl,w1,hb1,rfl⟩
theorem Iw{sz:Nat}(i j:Nat)(hj:j<sz):(i*sz+j)/sz=i:=by
 rw[Nat.mul_comm,Nat.mul_add_div (by omega),Nat.div_eq_of_lt hj];rfl
theorem A6.setAt{α:Type}{E:DL α}{w:World}{base g n c:Nat}{xs:List α}(h:A6 E w base (.slice (some ⟨g,0,none⟩) n c) xs)(k j:Nat)(hk:k<xs.length)(hj:j<E.sz)(v:Value)(x:α)(hx:E.enc x=(E.enc (A8 E xs k)).set j v):A6 E (w.setCell ⟨g,k*E.sz+j,none⟩ v) base (.slice (some ⟨g,0,none⟩) n c) (xs.set k x):=by
 rcases h.2 with⟨e,_⟩|⟨g',cap,cur,e,hb,hg,hn,hm,hs,ht⟩
 ·simp at e
 ·simp only[Value.slice.injEq,Option.some.injEq,Addr.mk.injEq,and_true] at e;obtain⟨rfl,rfl,rfl⟩:=e;obtain⟨a',c',e',hf⟩:=h.form;obtain⟨g2,N,f,hag,hbg,hr,hN,hc⟩:=hf (by omega);simp only[Value.slice.injEq] at e';have hgg:some (⟨g,0,none⟩:Addr)=some ⟨g2,0,none⟩:=e'.1.trans hag;simp only[Option.some.injEq,Addr.mk.injEq,and_true] at hgg;subst hgg;have hNs:N=cur.size:=by
   obtain⟨cur2,hg2,hs2,_⟩:=hr;rw[hg] at hg2;simp only[Option.some.injEq,Obj.cells.injEq] at hg2;rw[<- hs2,hg2.1]
  refine A6.of_row (n:=xs.length) (by simp) hb (hr.set (k*E.sz+j) v) (by rw[hNs,hs]) hn hm (fun i hi q hq=>?_);have hat:A8 E (xs.set k x) i=if i=k then x else A8 E xs i:=by
   unfold A8;rw[List.getD_eq_getElem?_getD,List.getD_eq_getElem?_getD,List.getElem?_set];by_cases e:i=k
   ·subst e;simp[hi]
   ·rw[if_neg (fun e'=>e e'.symm),if_neg e]
  by_cases e:i=k
  ·subst e;by_cases eq:q=j
   ·subst eq;rw[if_pos rfl];unfold AL;rw[hat,if_pos rfl,hx,List.getElem?_set_self (by rw[E.len];exact hq)];rfl
   ·rw[if_neg (by omega),hc i hi q hq];unfold AL;rw[hat,if_pos rfl,hx,List.getElem?_set_ne (fun e'=>eq e'.symm)]
  ·rw[if_neg (fun e2=>by
    have h1:=Iw (sz:=E.sz) i q hq
    have h2:=Iw (sz:=E.sz) k j hj
    rw[e2] at h1
    exact e (h1.symm.trans h2)),hc i hi q hq]
   unfold AL;rw[hat,if_neg e]
theorem UM.rowTlb{W W':World}{gu b0 B:Nat}{L:Bool}{u:UV}{M:A9}(h:UM W gu b0 B L u M)(hT:A5 (fun k=>u.o4=some k) W W')(ys:List Am)(hl:ys.length=M.tlb.length)(hc:A6 At W' B (.slice u.a4 ys.length u.c4) ys):UM W' gu b0 B L u ⟨M.mem,M.pend,ys,M.wc⟩:=by
 have hk:=hT.block gu h.lt (fun e=>h.ap.g4 e)
 exact⟨Nat.lt_of_lt_of_le h.lt hT.size,(World.cell?_of_block hk).trans h.q0,(World.cell?_of_block hk).trans h.q1,(World.cell?_of_block hk).trans h.q2,by rw[show (A9.mk M.mem M.pend ys M.wc).tlb.length=M.tlb.length from hl];exact(World.cell?_of_block hk).trans h.q3,(World.cell?_of_block hk).trans h.q4,(World.frozen?_of_block hk).trans h.f2,(World.frozen?_of_block hk).trans h.f3,(World.frozen?_of_block hk).trans h.f4,
  h.w.touchA hT (fun k hk e=>h.ap.t1 k e hk),fun hl=>⟨(h.l hl).1,(h.l hl).2.touchA hT (fun k hk e=>h.ap.t2 k e hk)⟩,h.p.touchA hT (fun k hk e=>h.ap.t3 k e hk),hc,h.c.touchA hT (fun k hk e=>h.ap.t5 k e hk),h.ap,fun k hk=>Nat.lt_of_lt_of_le (h.o2 k hk) hT.size⟩
theorem UM.rowWc{W W':World}{gu b0 B:Nat}{L:Bool}{u:UV}{M:A9}(h:UM W gu b0 B L u M)(hT:A5 (fun k=>u.o5=some k) W W')(ys:List CI)(hl:ys.length=M.wc.length)(hc:A6 As W' B (.slice u.a5 ys.length u.c5) ys):UM W' gu b0 B L u ⟨M.mem,M.pend,M.tlb,ys⟩:=by
 have hk:=hT.block gu h.lt (fun e=>h.ap.g5 e)
 exact⟨Nat.lt_of_lt_of_le h.lt hT.size,(World.cell?_of_block hk).trans h.q0,(World.cell?_of_block hk).trans h.q1,(World.cell?_of_block hk).trans h.q2,(World.cell?_of_block hk).trans h.q3,by rw[show (A9.mk M.mem M.pend M.tlb ys).wc.length=M.wc.length from hl];exact(World.cell?_of_block hk).trans h.q4,(World.frozen?_of_block hk).trans h.f2,(World.frozen?_of_block hk).trans h.f3,(World.frozen?_of_block hk).trans h.f4,
  h.w.touchA hT (fun k hk e=>h.ap.w1 k e hk),fun hl=>⟨(h.l hl).1,(h.l hl).2.touchA hT (fun k hk e=>h.ap.w2 k e hk)⟩,h.p.touchA hT (fun k hk e=>h.ap.w3 k e hk),h.t.touchA hT (fun k hk e=>h.ap.t5 k hk e),hc,h.ap,fun k hk=>Nat.lt_of_lt_of_le (h.o2 k hk) hT.size⟩
def Av {α:Type} (f:α->α) (xs:List α) (k:Nat):List α:=(xs.take k).map f++xs.drop k
theorem BE{α:Type}(f:α->α)(xs:List α)(k:Nat):(Av f xs k).length=xs.length:=by simp[Av];omega
theorem GK{α:Type}(f:α->α)(xs:List α):Av f xs 0=xs:=by simp[Av]
theorem Hl{α:Type}(f:α->α)(xs:List α):Av f xs xs.length=xs.map f:=by simp[Av]
theorem FM{α:Type}(f:α->α)(xs:List α)(k i:Nat):(Av f xs k)[i]?=if i<k then (xs[i]?).map f else xs[i]?:=by
 unfold Av;by_cases h:i<k
 ·rw[if_pos h];by_cases hx:i<xs.length
  ·rw[List.getElem?_append_left (by simp;omega)];simp[h]
  ·rw[List.getElem?_append_right (by simp;omega),List.getElem?_drop,List.getElem?_eq_none (by simp;omega),List.getElem?_eq_none (by omega)];rfl
 ·rw[if_neg h];by_cases hx:k<=xs.length
  ·rw[List.getElem?_append_right (by simp;omega),List.getElem?_drop];congr 1;simp;omega
  ·rw[List.getElem?_append_right (by simp;omega),List.getElem?_drop,List.getElem?_eq_none (by simp;omega),List.getElem?_eq_none (by omega)]
theorem Ez{α:Type}(E:DL α)(f:α->α)(xs:List α)(k:Nat):A8 E (Av f xs k) k=A8 E xs k:=by
 unfold A8;rw[List.getD_eq_getElem?_getD,List.getD_eq_getElem?_getD,FM,if_neg (by omega)]
theorem G7{α:Type}(E:DL α)(f:α->α)(xs:List α)(k:Nat)(hk:k<xs.length):Av f xs (k+1)=(Av f xs k).set k (f (A8 E xs k)):=by
 apply List.ext_getElem?;intro i;rw[FM,List.getElem?_set,FM];by_cases e:k=i
 ·subst e;rw[if_pos (by omega),if_pos rfl,if_pos (by rw[BE];exact hk),List.getElem?_eq_getElem hk];unfold A8;rw[List.getD_eq_getElem?_getD,List.getElem?_eq_getElem hk];rfl
 ·rw[if_neg e];by_cases h:i<k
  ·rw[if_pos (by omega),if_pos h]
  ·rw[if_neg (by omega),if_neg h]
theorem Fn{α:Type}(E:DL α)(xs:List α)(k:Nat)(hk:k<xs.length):xs.set k (A8 E xs k)=xs:=by
 apply List.ext_getElem?;intro i;rw[List.getElem?_set];by_cases e:k=i
 ·subst e;rw[if_pos rfl,if_pos hk];unfold A8;rw[List.getD_eq_getElem?_getD,List.getElem?_eq_getElem hk];rfl
 ·rw[if_neg e]
theorem Mr{gu b0 B:Nat}{u:UV}{M:A9}{a b:Int}{k g:Nat}{wr w1 w2:World}(hk:k<M.tlb.length)(hga:u.a4=some ⟨g,0,none⟩)(h:UM wr gu b0 B true u ⟨M.mem,M.pend,Av (An a b) M.tlb k,M.wc⟩)(hb:Below wr.heap.size wr w2)(he:w1=if BM (A8 A7 M.tlb k).page (A8 A7 M.tlb k).size a b then w2.setCell ⟨g,k*5+2,none⟩ (.bool true) else w2):UM w1 gu b0 B true u ⟨M.mem,M.pend,Av (An a b) M.tlb (k+1),M.wc⟩/\A5 (fun q=>u.o4=some q) wr w1:=by
 have ho:u.o4=some g:=by unfold UV.o4;rw[hga];rfl
 have hl:=BE (An a b) M.tlb k;have h2:=h.below hb;have hat:=Ez At (An a b) M.tlb k;have hsc:=G7 At (An a b) M.tlb k hk;have hE:A8 At M.tlb k=A8 A7 M.tlb k:=rfl;cases hm:BM (A8 A7 M.tlb k).page (A8 A7 M.tlb k).size a b
 ·rw[hm] at he;simp only[Bool.false_eq_true,if_false] at he;subst he;have hd:An a b (A8 At M.tlb k)=A8 At M.tlb k:=by
   rw[hE];unfold An;rw[hm,Bool.or_false]
  have hsame:Av (An a b) M.tlb (k+1)=Av (An a b) M.tlb k:=by
   rw[hsc,hd,<- hat];exact Fn At _ k (by rw[hl];exact hk)
  rw[hsame];exact⟨h2,A5.of_below hb⟩
 ·rw[hm] at he;simp only[if_true] at he;have hT:A5 (fun q=>u.o4=some q) w2 w1:=by
   rw[he];exact⟨rfl,rfl,rfl,by simp,fun q hq hn=>Below.heap_setCell _ _ _ _ (fun e=>hn (by rw[e];exact ho))⟩
  have hrow:A6 At w1 B (.slice u.a4 (Av (An a b) M.tlb (k+1)).length u.c4) (Av (An a b) M.tlb (k+1)):=by
   have h3:=h2.t;rw[hga] at h3 ⊢;rw[BE,hsc,he];have h4:A6 At w2 B (.slice (some ⟨g,0,none⟩) (Av (An a b) M.tlb k).length u.c4) (Av (An a b) M.tlb k):=h3;rw[hl] at h4;refine h4.setAt k 2 (by rw[hl];exact hk) (by decide) (.bool true) _ ?_;rw[hat,hE];unfold An;rw[hm,Bool.or_true];rfl
  refine⟨?_,(A5.of_below hb).trans hT⟩;have h5:=h2.rowTlb hT (Av (An a b) M.tlb (k+1)) (by show _=(Av _ _ _).length;rw[BE,BE]) hrow;exact h5
theorem Mv{gu b0 B:Nat}{u:UV}{M:A9}{a b:Int}{k g:Nat}{wr w1 w2:World}(hk:k<M.wc.length)(hga:u.a5=some ⟨g,0,none⟩)(h:UM wr gu b0 B true u ⟨M.mem,M.pend,M.tlb,Av (B8 a b) M.wc k⟩)(hb:Below wr.heap.size wr w2)(he:w1=if BM (A8 AJ M.wc k).page (16*Ab (A8 AJ M.wc k).level) a b then w2.setCell ⟨g,k*5+2,none⟩ (.bool true) else w2):UM w1 gu b0 B true u ⟨M.mem,M.pend,M.tlb,Av (B8 a b) M.wc (k+1)⟩/\A5 (fun q=>u.o5=some q) wr w1:=by
 have ho:u.o5=some g:=by unfold UV.o5;rw[hga];rfl
 have hl:=BE (B8 a b) M.wc k;have h2:=h.below hb;have hat:=Ez As (B8 a b) M.wc k;have hsc:=G7 As (B8 a b) M.wc k hk;have hE:A8 As M.wc k=A8 AJ M.wc k:=rfl;cases hm:BM (A8 AJ M.wc k).page (16*Ab (A8 AJ M.wc k).level) a b
 ·rw[hm] at he;simp only[Bool.false_eq_true,if_false] at he;subst he;have hd:B8 a b (A8 As M.wc k)=A8 As M.wc k:=by
   rw[hE];unfold B8;rw[hm,Bool.or_false]
  have hsame:Av (B8 a b) M.wc (k+1)=Av (B8 a b) M.wc k:=by
   rw[hsc,hd,<- hat];exact Fn As _ k (by rw[hl];exact hk)
  rw[hsame];exact⟨h2,A5.of_below hb⟩
 ·rw[hm] at he;simp only[if_true] at he;have hT:A5 (fun q=>u.o5=some q) w2 w1:=by
   rw[he];exact⟨rfl,rfl,rfl,by simp,fun q hq hn=>Below.heap_setCell _ _ _ _ (fun e=>hn (by rw[e];exact ho))⟩
  have hrow:A6 As w1 B (.slice u.a5 (Av (B8 a b) M.wc (k+1)).length u.c5) (Av (B8 a b) M.wc (k+1)):=by
   have h3:=h2.c;rw[hga] at h3 ⊢;rw[BE,hsc,he];have h4:A6 As w2 B (.slice (some ⟨g,0,none⟩) (Av (B8 a b) M.wc k).length u.c5) (Av (B8 a b) M.wc k):=h3;rw[hl] at h4;refine h4.setAt k 2 (by rw[hl];exact hk) (by decide) (.bool true) _ ?_;rw[hat,hE];unfold B8;rw[hm,Bool.or_true];rfl
  refine⟨?_,(A5.of_below hb).trans hT⟩;have h5:=h2.rowWc hT (Av (B8 a b) M.wc (k+1)) (by show _=(Av _ _ _).length;rw[BE,BE]) hrow;exact h5
theorem A6.frz{α:Type}{E:DL α}{w:World}{b g n c:Nat}{xs:List α}(h:A6 E w b (.slice (some ⟨g,0,none⟩) n c) xs)(i:Nat):w.frozen? ⟨g,i,none⟩=false:=by
 rcases h.2 with⟨e,_⟩|⟨g',cap,cur,e,hb,hg,hn,hm,hs,ht⟩
 ·simp at e
 ·simp only[Value.slice.injEq,Option.some.injEq,Addr.mk.injEq,and_true] at e;obtain⟨rfl,_,_⟩:=e;have hr:w.rowIs g E.T cur.size (fun i=>cur.getD i (.bool false)):=⟨cur,hg,rfl,fun i hi=>by simp[hi]⟩;exact hr.frozen i
theorem II(gu b0 B:Nat)(u:UV)(M:A9)(K a b W:Int)(w:World)(hv:AG M=true)(ha0:0<=a)(ha1:a<4096)(hb0:1<=b)(hb1:b<=4096)(ht:M.tlb.length<=256)(hc:M.wc.length<=256)(h:UM w gu b0 B true u M):Calls prog 192 #[.agg #[.int .i64 K,.int .i64 a,.int .i64 b,.int .u64 W],.pointer (some ⟨gu,0,none⟩)] w fun e w'=>e=.returned (.tuple #[])/\UM w' gu b0 B true u ⟨M.mem,M.pend,M.tlb.map (An a b),M.wc.map (B8 a b)⟩/\A5 (fun q=>u.o4=some q\/u.o5=some q) w w':=by
 obtain⟨wb,hwb⟩:∃wb,wb=w.alloc (.cells #[.int .i64 K,.int .i64 a,.int .i64 b,.int .u64 W] 202):=⟨_,rfl⟩
 have hbb:Below w.heap.size w wb:=by rw[hwb];exact(Below.refl _ _).alloc (Nat.le_refl _) _
 have hzb:wb.heap.size=w.heap.size+1:=by rw[hwb];simp
 have hl4:∀q,u.o4=some q->q<w.heap.size:=fun q hq=>(h.t.ownA q hq).2
 have hl5:∀q,u.o5=some q->q<w.heap.size:=fun q hq=>(h.c.ownA q hq).2
 have HLT:Hid ((∀q,u.o4=some q->q<w.heap.size)/\(∀q,u.o5=some q->q<w.heap.size)):=⟨hl4,hl5⟩;have HBOX:Hid (∀wX,A5 (fun q=>u.o4=some q\/u.o5=some q) wb wX->wX.cell? ⟨w.heap.size,0,none⟩=some (.int .i64 K)/\wX.cell? ⟨w.heap.size,1,none⟩=some (.int .i64 a)/\wX.cell? ⟨w.heap.size,2,none⟩=some (.int .i64 b)/\wX.cell? ⟨w.heap.size,3,none⟩=some (.int .u64 W)):=fun wX hX=>by
  have hk:=hX.block w.heap.size (by omega) (fun e=>by
   rcases e with e|e
   ·have:=hl4 _ e;omega
   ·have:=hl5 _ e;omega)
  refine⟨?_,?_,?_,?_⟩;iterate 4 (exact(World.cell?_of_block hk).trans (by rw[hwb];simp[go_sem]))
 have hSZ:Hid (∀wX,A5 (fun q=>u.o4=some q\/u.o5=some q) wb wX->w.heap.size<wX.heap.size):=fun wX hX=>by have:=hX.size;omega
 have humb:=h.below hbb;have q3:=h.q3;have hlt:=h.lt;have HV:Hid (AG M=true):=hv;have HWB:Hid (wb=_):=hwb;have HBB:Hid (Below w.heap.size w wb):=hbb;have HUB:Hid (UM wb gu b0 B true u ⟨M.mem,M.pend,Av (An a b) M.tlb 0,M.wc⟩):=by rw[GK];exact humb
 clear h hwb hbb hzb hl4 hl5 hv humb;go_enter func192,ntmps192
 go_wp2_with fail
 rw[<- HWB.out];clear q3;go_loopw [11] (fun i wr=>∃k:Nat,k<=M.tlb.length/\i=.int .i64 k/\UM wr gu b0 B true u ⟨M.mem,M.pend,Av (An a b) M.tlb k,M.wc⟩/\A5 (fun q=>u.o4=some q) wb wr) (fun i _=>M.tlb.length-(intOf i).toNat)
 case atStart=>exact⟨0,Nat.zero_le _,rfl,HUB.out,A5.of_below (Below.refl _ _)⟩
 case round =>
  obtain⟨k,hk,rfl,hum,htw0⟩:=hrel;have htw:A5 (fun q=>u.o4=some q\/u.o5=some q) wb wr:=⟨htw0.os,htw0.tape,htw0.output,htw0.size,fun q hq hn=>htw0.block q hq (fun e=>hn (.inl e))⟩;by_cases hlt2:k<M.tlb.length
  ·(obtain⟨E,hE'⟩:∃E,A8 A7 M.tlb k=E:=⟨_,rfl⟩);have hEM:A8 A7 (Av (An a b) M.tlb k) k=E:=(Ez At _ _ k).trans hE';have hml:=BE (An a b) M.tlb k;have hrow:A6 At wr B (.slice u.a4 (Av (An a b) M.tlb k).length u.c4) (Av (An a b) M.tlb k):=hum.t;obtain⟨g,hg1,hg2⟩:=Gu hrow;obtain⟨hga,hgl⟩:=hg1 (by omega);(have hfz:wr.frozen? ⟨g,k*5+2,none⟩=false:=by rw[hga] at hrow;exact hrow.frz _);have htv:=CV HV.out k hlt2;rw[hE'] at htv;obtain⟨P,S,O,R,D⟩:=E;have hg3:=hg2 k P S O R D (by rw[hml];exact hlt2) hEM wr.drew rfl;have HKEEP:Hid (∀wX,A5 (fun q=>u.o4=some q) wr wX->wX.cell? ⟨gu,3,none⟩=some (.slice (some ⟨g,0,none⟩) M.tlb.length u.c4)/\(wX.cell? ⟨w.heap.size,0,none⟩=some (.int .i64 K)/\wX.cell? ⟨w.heap.size,1,none⟩=some (.int .i64 a)/\wX.cell? ⟨w.heap.size,2,none⟩=some (.int .i64 b)/\wX.cell? ⟨w.heap.size,3,none⟩=some (.int .u64 W))):=fun wX hX=>by
    have hk:=hX.block gu hum.lt (fun e=>hum.ap.g4 e);have q:=(World.cell?_of_block (a:=⟨gu,3,none⟩) hk).trans hum.q3;have hbx:=hX.block w.heap.size (by have:=hSZ.out wr htw;omega) (fun e=>by have:=HLT.out.1 _ e;omega);obtain⟨x0,x1,x2,x3⟩:=HBOX.out wr htw;refine⟨by rw[<- hga,<- hml];exact q,(World.cell?_of_block hbx).trans x0,(World.cell?_of_block hbx).trans x1,(World.cell?_of_block hbx).trans x2,(World.cell?_of_block hbx).trans x3⟩
   have hts:(0<=P/\P<100000)/\(0<=S/\S<100000):=by
    simp only[AH,AP,Bool.and_eq_true,Bool.or_eq_true,decide_eq_true_eq] at htv;omega
   have hdm:=JN g (k*5) P S a b D hts.1 hts.2 (by omega) (by omega) wr.drew hgl hg3.1 hg3.2.1 hg3.2.2.1 hfz;obtain⟨qa,bx0,bx1,bx2,bx3⟩:=HKEEP.out wr (A5.of_below (Below.refl _ _));have HUM:Hid (UM wr gu b0 B true u ⟨M.mem,M.pend,Av (An a b) M.tlb k,M.wc⟩):=hum;have HTW:Hid _:=htw0;(have L1:(0:Int)<=(k:Int):=by omega);(have L2:(k:Int)<(M.tlb.length:Int):=by omega);have HGA:Hid (u.a4=_):=hga;clear hum htw htw0 hrow hg1 hg2 hg3 htv hts hfz hga;(go_wp2_with fail);refine wp_region_held_drew (S:=(fun wX=>wX.cell? ⟨gu,3,none⟩=some (.slice (some ⟨g,0,none⟩) M.tlb.length u.c4)/\(wX.cell? ⟨w.heap.size,0,none⟩=some (.int .i64 K)/\wX.cell? ⟨w.heap.size,1,none⟩=some (.int .i64 a)/\wX.cell? ⟨w.heap.size,2,none⟩=some (.int .i64 b)/\wX.cell? ⟨w.heap.size,3,none⟩=some (.int .u64 W)))) (by kernel_rfl) (HKEEP.out _ (A5.of_below ((Below.refl _ _).drew))) (fun hHeld=>?_);refine tk 0 ?_;refine tk 1 ?_;refine tk 2 ?_;refine tk 3 ?_;refine tk 4 ?_;refine tk 5 ?_;refine tk 6 ?_;refine tk 7 ?_;refine tk 8 ?_;refine tk 9 ?_;refine tk 10 ?_;refine wpAnyH_ready (rs:=[11]) (by kernel_rfl) (by simp) ?_;refine AllReadyH.cons rfl (fun K hK=>?_) AllReadyH.nil;go_simp;(go_at_call 194);refine hdm.mono ?_;rintro e w1 ⟨rfl,w2,hb2,he⟩;obtain⟨hum2,ht2⟩:=Mr (M:=M) (w1:=w1) hlt2 HGA.out HUM.out ((Below.refl _ _).drew.trans (hb2.mono (by simp))) (by rw[hE'];exact he);clear he hb2;(go_wp2_with fail);refine hK.out _ _ (HKEEP.out w1 ht2) (fun hHeld2=>?_);clear hK K;refine wpAnyH_done (by kernel_rfl) ?_ _;(go_wp2_with fail);go_roundw;(case rel=>exact⟨k+1,by omega,by go_num,hum2,HTW.out.trans ht2⟩);case measure=>simp[intOf];omega
  ·(obtain rfl:k=M.tlb.length:=by omega);rw[Hl] at hum;(obtain⟨wA,rfl⟩:∃wA:World,wA=wr:=⟨_,rfl⟩);(have HUA:Hid (UM wA gu b0 B true u ⟨M.mem,M.pend,M.tlb.map (An a b),Av (B8 a b) M.wc 0⟩):=by rw[GK];exact hum);have HTA:Hid (A5 (fun q=>u.o4=some q\/u.o5=some q) wb wA):=htw;have q4:wA.cell? ⟨gu,4,none⟩=some (.slice u.a5 M.wc.length u.c5):=hum.q4;clear hum htw htw0;(go_wp2_with fail);clear q4;(go_loopw [32] (fun i wr=>∃k:Nat,k<=M.wc.length/\i=.int .i64 k/\UM wr gu b0 B true u ⟨M.mem,M.pend,M.tlb.map (An a b),Av (B8 a b) M.wc k⟩/\A5 (fun q=>u.o4=some q\/u.o5=some q) wb wr) (fun i _=>M.wc.length-(intOf i).toNat));(case atStart=>exact⟨0,Nat.zero_le _,rfl,HUA.out,HTA.out⟩);case round =>
    obtain⟨k,hk,rfl,hum,htw⟩:=hrel;by_cases hlt2:k<M.wc.length
    ·(obtain⟨E,hE'⟩:∃E,A8 AJ M.wc k=E:=⟨_,rfl⟩);have hEM:A8 AJ (Av (B8 a b) M.wc k) k=E:=(Ez As _ _ k).trans hE';have hml:=BE (B8 a b) M.wc k;have hrow:A6 As wr B (.slice u.a5 (Av (B8 a b) M.wc k).length u.c5) (Av (B8 a b) M.wc k):=hum.c;obtain⟨g,hg1,hg2⟩:=GP hrow;obtain⟨hga,hgl⟩:=hg1 (by omega);(have hfz:wr.frozen? ⟨g,k*5+2,none⟩=false:=by rw[hga] at hrow;exact hrow.frz _);have htv:=Ca HV.out k hlt2;rw[hE'] at htv;obtain⟨L,P,T,D⟩:=E;have hg3:=hg2 k L P T D (by rw[hml];exact hlt2) hEM wr.drew rfl;have HKEEP:Hid (∀wX,A5 (fun q=>u.o5=some q) wr wX->wX.cell? ⟨gu,4,none⟩=some (.slice (some ⟨g,0,none⟩) M.wc.length u.c5)/\(wX.cell? ⟨w.heap.size,0,none⟩=some (.int .i64 K)/\wX.cell? ⟨w.heap.size,1,none⟩=some (.int .i64 a)/\wX.cell? ⟨w.heap.size,2,none⟩=some (.int .i64 b)/\wX.cell? ⟨w.heap.size,3,none⟩=some (.int .u64 W))):=fun wX hX=>by
      have hk:=hX.block gu hum.lt (fun e=>hum.ap.g5 e);have q:=(World.cell?_of_block (a:=⟨gu,4,none⟩) hk).trans hum.q4;have hbx:=hX.block w.heap.size (by have:=hSZ.out wr htw;omega) (fun e=>by have:=HLT.out.2 _ e;omega);obtain⟨x0,x1,x2,x3⟩:=HBOX.out wr htw;refine⟨by rw[<- hga,<- hml];exact q,(World.cell?_of_block hbx).trans x0,(World.cell?_of_block hbx).trans x1,(World.cell?_of_block hbx).trans x2,(World.cell?_of_block hbx).trans x3⟩
     have hts:(0<=P/\P<100000)/\(0<=(16*Ab L)/\(16*Ab L)<100000):=by
      simp only[AX,AP,Bool.and_eq_true,Bool.or_eq_true,decide_eq_true_eq] at htv;refine⟨by omega,?_⟩;rcases htv.1.1.1.1 with e|e<;>(rw[e];decide)
     have hdm:=JN g (k*5) P (16*Ab L) a b D hts.1 hts.2 (by omega) (by omega) wr.drew hgl hg3.1 hg3.2.1 hg3.2.2.1 hfz;obtain⟨qa,bx0,bx1,bx2,bx3⟩:=HKEEP.out wr (A5.of_below (Below.refl _ _));have HUM:Hid (UM wr gu b0 B true u ⟨M.mem,M.pend,M.tlb.map (An a b),Av (B8 a b) M.wc k⟩):=hum;have HTW:Hid _:=htw;(have L1:(0:Int)<=(k:Int):=by omega);(have L2:(k:Int)<(M.wc.length:Int):=by omega);have HGA:Hid (u.a5=_):=hga;clear hum htw hrow hg1 hg2 hg3 htv hts hfz hga;(go_wp2_with fail);refine wp_region_held_drew (S:=(fun wX=>wX.cell? ⟨gu,4,none⟩=some (.slice (some ⟨g,0,none⟩) M.wc.length u.c5)/\(wX.cell? ⟨w.heap.size,0,none⟩=some (.int .i64 K)/\wX.cell? ⟨w.heap.size,1,none⟩=some (.int .i64 a)/\wX.cell? ⟨w.heap.size,2,none⟩=some (.int .i64 b)/\wX.cell? ⟨w.heap.size,3,none⟩=some (.int .u64 W)))) (by kernel_rfl) (HKEEP.out _ (A5.of_below ((Below.refl _ _).drew))) (fun hHeld=>?_);refine tk 0 ?_;refine tk 1 ?_;refine tk 2 ?_;refine tk 3 ?_;refine tk 4 ?_;refine tk 5 ?_;refine tk 6 ?_;refine tk 7 ?_;refine tk 8 ?_;refine tk 9 ?_;refine tk 10 ?_;refine wpAnyH_ready (rs:=[11]) (by kernel_rfl) (by simp) ?_;refine AllReadyH.cons rfl (fun K hK=>?_) AllReadyH.nil;go_simp;(go_at_call 194);refine hdm.mono ?_;rintro e w1 ⟨rfl,w2,hb2,he⟩;obtain⟨hum2,ht2⟩:=Mv (M:=⟨M.mem,M.pend,M.tlb.map (An a b),M.wc⟩) (w1:=w1) hlt2 HGA.out HUM.out ((Below.refl _ _).drew.trans (hb2.mono (by simp))) (by rw[hE'];exact he);clear he hb2;(go_wp2_with fail);refine hK.out _ _ (HKEEP.out w1 ht2) (fun hHeld2=>?_);clear hK K;refine wpAnyH_done (by kernel_rfl) ?_ _;(go_wp2_with fail);go_roundw;(case rel=>exact⟨k+1,by omega,by go_num,hum2,HTW.out.then ht2 (fun q hq e=>.inr e)⟩);case measure=>simp[intOf];omega
    ·(obtain rfl:k=M.wc.length:=by omega);rw[Hl] at hum;have HUM:Hid _:=hum;have HTW:Hid _:=htw;clear hum htw;(go_wp2_with fail);exact bodyPost_end (v:=.tuple #[]) (by simp[results,results192,go_sem]) rfl ⟨rfl,HUM.out,(A5.of_below HBB.out).trans HTW.out⟩
theorem Gm(gu:Nat)(K A B W:Int)(w:World):Calls prog 195 #[.agg #[.int .i64 K,.int .i64 A,.int .i64 B,.int .u64 W],.pointer (some ⟨gu,0,none⟩)] w fun e w'=>e=.returned (.tuple #[])/\Below w.heap.size w w':=by
 go_enter func195,ntmps195
 go_wp2_with fail
 exact bodyPost_end (v:=.tuple #[]) (by simp[results,results195,go_sem]) rfl ⟨rfl,(Below.refl _ _).alloc (Nat.le_refl _) _⟩
end Go.Proofs.YtnmhkgmmpkjjeabGreat
