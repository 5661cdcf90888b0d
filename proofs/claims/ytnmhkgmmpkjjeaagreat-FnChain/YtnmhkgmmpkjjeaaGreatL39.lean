import Derived.Test.YtnmhkgmmpkjjeaaGreatL38
import Derived.Test.YtnmhkgmmpkjjeaaGreatL32
namespace Go.Proofs.YtnmhkgmmpkjjeaaGreat
open Go.ChangeShapes Go.WideShapes Go.ChangeAt Go.RowKit
set_option linter.unusedVariables false
set_option maxRecDepth 100000
attribute [local go_sem ↓] Go.wp_at_zero Go.wp_at_succ
theorem M6 {w wq wn:World} {g c g1 c1:Nat} {l:List AF} {x:AF} (hbel:Below w.heap.size w wq) (hr:A6 A8 wq w.heap.size (.slice (some ⟨g,0,none⟩) l.length c) l) (hown:wn.ownsRow w.heap.size A8.T A8.sz (.slice (some ⟨g1,0,none⟩) (l.length+1) c1) (l.length+1) (AE A8 l++A8.enc x)) (hgrow:wq.grownBy wn (Value.ownBlock (.slice (some ⟨g,0,none⟩) l.length c))) : A6 A8 wn w.heap.size (.slice (some ⟨g1,0,none⟩) (l++[x]).length c1) (l++[x])/\Below w.heap.size w wn:=by
 refine⟨?_,hbel.grown hgrow hbel.size (fun q hq=>(hr.own q hq).1)⟩;have:=It rfl hown;rw[List.length_append,List.length_singleton];exact this
set_option maxHeartbeats 4000000 in
theorem OW (a:Option Addr) (c:Nat) (all:List St) (w:World) (hle:all.length<=1000) (hok:∀s∈all,EX s) (hr:Oh w a all) : Calls Tryz.prog 38 #[.slice a all.length c] w fun e w'=>∃g c1,e=.returned (.slice (some ⟨g,0,none⟩) (Am all 4096).length c1)/\A6 A8 w' w.heap.size (.slice (some ⟨g,0,none⟩) (Am all 4096).length c1) (Am all 4096)/\Below w.heap.size w w':=by
 obtain⟨i0,hi,hz0,hz1,hz2⟩:=info_parts SM;have HP:Hid (∀(k:Nat) wX,k<4096->Below w.heap.size w wX->Calls Tryz.prog 104 #[.slice a all.length c,.int .i64 (k:Int)] wX fun e w'=>e=.returned (QS (CQ all (k:Nat)))/\Below wX.heap.size wX w'):=A2 fun k wX hk hX=>Oc a c all (k:Nat) wX hle hok (by omega) (by omega) (hr.below hX)
 have HW:Hid (∀k,k<=4096->(Am all k).length<=k/\∀e∈Am all k,VJ k e):=A2 fun k hk=>NH hok k hk
 have HS0:Hid (A6 A8 (w.alloc (.cells #[] 103)) w.heap.size (.slice (some ⟨w.heap.size,0,none⟩) 0 0) []):=A2 (A6.empty A8 w w.heap.size (Nat.le_refl _));clear hr hok;go_enter Tryz.func38,Tryz.ntmps38
 go_wp2_with fail
 go_loopw [3,4] (fun vv pv wr=>∃(k:Nat) (L:List AF) (gv cv:Nat),k<=4096/\pv=.int .i64 (k:Int)/\vv=.slice (some ⟨gv,0,none⟩) L.length cv/\Hid (Am all k=L)/\Hid (A6 A8 wr w.heap.size (.slice (some ⟨gv,0,none⟩) L.length cv) L)/\Below w.heap.size w wr) (fun _ pv _=>4096-(intOf pv).toNat)
 case atStart=>exact⟨0,[],w.heap.size,0,by omega,rfl,rfl,A2 rfl,HS0,Ao⟩
 case round =>
  obtain⟨k,L,gv,cv,hk,rfl,rfl,HL,HRW,hb⟩:=hrel;have sr:=hb.size;have HB:Hid (Below _ w wr):=hb;by_cases hlt:k<4096
  ·(have K1:(k:Int)<4096:=by omega);have hp:=HP.out k wr hlt hb;have HST:Hid (Am all (k+1)=Cz L (CQ all (k:Nat))):=A2 (by rw[<- HL.out];rfl);have hLw:=HW.out k (by omega);rw[HL.out] at hLw;obtain⟨hLl,hLe⟩:=hLw;have HLE:Hid _:=hLe;unfold QS at hp;generalize CQ all (k:Nat)=SS at *;obtain⟨B0,B1,B2,B3,B4⟩:=SS;dsimp only at hp;clear hb hLe;(go_wp2_with fail);refine hp.mono ?_;rintro e w1 ⟨rfl,hb1'⟩;have hb1:Below w.heap.size w w1:=HB.out.trans (hb1'.mono sr);have s1:=hb1.size;have hgv:=(HRW.out.own gv rfl).2;have z1:=hb1'.size;by_cases h1:B1=1
   ·subst h1;(obtain⟨wb,hwb⟩:∃wb,wb=w1.alloc (.cells #[.int .i64 B0,.int .i64 1,.int .i64 B2,.int .i64 B3,.bool B4] 103):=⟨_,rfl⟩);(have hbb:Below w.heap.size w wb:=by rw[hwb];exact hb1.alloc s1 _);(have zb:w1.heap.size<wb.heap.size:=by rw[hwb];simp);(have hrwb:A6 A8 wb w.heap.size (.slice (some ⟨gv,0,none⟩) L.length cv) L:=by rw[hwb];exact(HRW.out.below hb1').below Ao);have HSB:Hid (∀wX,Below wb.heap.size wb wX->wX.cell? ⟨w1.heap.size,0,none⟩=some (.int .i64 B0)/\wX.cell? ⟨w1.heap.size,1,none⟩=some (.int .i64 1)/\wX.cell? ⟨w1.heap.size,2,none⟩=some (.int .i64 B2)/\wX.cell? ⟨w1.heap.size,3,none⟩=some (.int .i64 B3)/\wX.cell? ⟨w1.heap.size,4,none⟩=some (.bool B4)):=A2 fun wX hX=>by
     refine⟨?_,?_,?_,?_,?_⟩;iterate 5 (exact(hX.cell (by simpa using zb)).trans (by rw[hwb];simp[go_sem]))
    have HRB:Hid (A6 _ _ _ _ _):=hrwb;have HBB:Hid (Below _ w wb):=hbb;have HWB:Hid (wb=_):=hwb;have HSS:Hid (Cz L ⟨B0,1,B2,B3,B4⟩=if 0<L.length/\C5 (Gm L) ⟨B0,1,B2,B3,B4⟩=true then L.set (L.length-1) (Uz (Gm L)) else L++[⟨B0,1,B2,B3,B4⟩]):=A2 (by unfold Cz;rw[if_pos rfl]);(have gb:gv<wb.heap.size:=by omega);obtain⟨x0,x1,x2,x3,x4⟩:=HSB.out wb (Below.refl _ _);clear hb1' hb1 hwb hbb hrwb hp;by_cases hn:L.length=0
    ·obtain rfl:L=[]:=List.length_eq_zero_iff.1 hn;have HV:Hid (Am all (k+1)=([]:List AF)++[⟨B0,1,B2,B3,B4⟩]):=A2 (by rw[HST.out,HSS.out,if_neg (by simp)]);clear HST HSS hn hLl;dsimp only[List.length_nil] at HRB;(go_upto_region 8 with fail);rw[<- HWB.out];refine wp_region_held_drew (S:=(fun wX=>wX.cell? ⟨w1.heap.size,0,none⟩=some (.int .i64 B0)/\wX.cell? ⟨w1.heap.size,1,none⟩=some (.int .i64 1)/\wX.cell? ⟨w1.heap.size,2,none⟩=some (.int .i64 B2)/\wX.cell? ⟨w1.heap.size,3,none⟩=some (.int .i64 B3)/\wX.cell? ⟨w1.heap.size,4,none⟩=some (.bool B4))) (by kernel_rfl) (HSB.out _ (Below.refl _ _).drew) (fun hHeld=>?_);refine tk 0 ?_;refine tk 1 ?_;refine tk 2 ?_;refine sk 3 ?_;refine sk 4 ?_;refine sk 5 ?_;refine sk 6 ?_;refine sk 7 ?_;refine sk 8 ?_;refine sk 9 ?_;refine tk 10 ?_;refine wpAnyH_done (by kernel_rfl) ?_ _;clear hHeld;have HRD:Hid (A6 A8 (wb.alloc (.cells #[.int .i64 B0,.int .i64 1,.int .i64 B2,.int .i64 B3,.bool B4] 103)).drew w.heap.size (.slice (some ⟨gv,0,none⟩) 0 cv) []):=A2 (HRB.out.below Ao.drew);have HBD:Hid (Below w.heap.size w (wb.alloc (.cells #[.int .i64 B0,.int .i64 1,.int .i64 B2,.int .i64 B3,.bool B4] 103)).drew):=A2 (HBB.out.alloc HBB.out.size _).drew;(go_wp2_with (at_builtin;refine wpList_append_lies _ rfl (.tmp 46) (.tmp 48) 30 rfl w.heap.size 103 i0 _ 5 40 Tryz.underlying30 hi hz0 hz1 hz2 rfl (by omega) _ _ _ rfl HRD.out ⟨_,0,none⟩ 1 1 [.int .i64 B0,.int .i64 1,.int .i64 B2,.int .i64 B3,.bool B4] rfl rfl ?c1 ?c2 (by omega) ?c3 ?c4 ?c5 _ rfl ?_));(case c1=>exact World.news_of_block (show (wb.alloc (.cells #[.int .i64 B0,.int .i64 1,.int .i64 B2,.int .i64 B3,.bool B4] 103)).drew.heap[wb.heap.size]?=_ from heap_alloc_new wb _));(case c2=>intro u hu;simp at hu;rcases hu with rfl|rfl|rfl|rfl|rfl<;>rfl);(case c3=>unfold maxLen;first|omega|(simp;done)|(simp;omega));(case c4=>first|omega|(simp;done)|(simp;omega));(case c5=>first|omega|(simp;omega));intro g7 c7 w7 hown hgrow hat hlt3;obtain⟨hr7,hb7⟩:=M6 (x:=⟨B0,1,B2,B3,B4⟩) HBD.out HRD.out hown hgrow;have HR7:Hid (A6 A8 w7 w.heap.size (.slice (some ⟨g7,0,none⟩) (([]:List AF)++[(⟨B0,1,B2,B3,B4⟩:AF)]).length c7) (([]:List AF)++[(⟨B0,1,B2,B3,B4⟩:AF)])):=hr7;have HB7:Hid (Below w.heap.size w w7):=hb7;clear hown hgrow hat hlt3 hr7 hb7;(go_wp2_with fail);go_roundw;(case rel=>exact⟨k+1,([]:List AF)++[(⟨B0,1,B2,B3,B4⟩:AF)],g7,c7,by omega,by go_num,by simp,HV,HR7,HB7.out⟩);case measure=>first|(simp[intOf];done)|(simp[intOf];omega)
    ·(obtain⟨M,hM⟩:∃M,L.length=M+1:=⟨L.length-1,by omega⟩);have HM:Hid (L.length=M+1):=hM;(have EM:(L.length:Int)-1=(M:Int):=by omega);(have M0:(0:Int)<=(M:Int):=by omega);(have M1:(M:Int)<(L.length:Int):=by omega);(have WM:IntKind.i64.wrap (M:Int)=(M:Int):=by rw[IntKind.wrap_i64];omega);have hnb:decide ((0:Int)<(L.length:Int))=true:=decide_eq_true (by omega);(have hnp:0<L.length:=by omega);(obtain⟨⟨L0,L1,L2,L3,L4⟩,hLL⟩:∃S,Gm L=S:=⟨_,rfl⟩);have hLM:AI A8 L M=⟨L0,L1,L2,L3,L4⟩:=by rw[<- hLL];unfold Gm;rw[hM];rfl
     have hLw2:=HLE.out _ (show AI A8 L M∈L by
      unfold AI
      rw[List.getD_eq_getElem?_getD,List.getElem?_eq_getElem (by omega)]
      exact List.getElem_mem _)
     rw[hLM] at hLw2;obtain⟨v1,v2,v3,v4,v5,v6⟩:=hLw2;dsimp only at v1 v2 v3 v4 v5 v6;obtain⟨gq,hgq,hcq⟩:=I5 HRB.out;obtain⟨eg,_⟩:=hgq hnp;simp only[Option.some.injEq,Addr.mk.injEq,and_true] at eg;subst eg;(have HCL:Hid (∀wX,Below wb.heap.size wb wX->wX.cell? ⟨gv,M*5,none⟩=some (.int .i64 L0)/\wX.cell? ⟨gv,M*5+1,none⟩=some (.int .i64 L1)/\wX.cell? ⟨gv,M*5+2,none⟩=some (.int .i64 L2)/\wX.cell? ⟨gv,M*5+3,none⟩=some (.int .i64 L3)/\wX.cell? ⟨gv,M*5+4,none⟩=some (.bool L4)):=A2 fun wX hX=>hcq M L0 L1 L2 L3 L4 (by omega) hLM wX hX);have hjn:=fun wX=>Hr L0 L1 L2 L3 L4 B0 1 B2 B3 B4 wX v1 (by omega) v3 (by omega) (by omega) (by omega)
     have HSS2:Hid (Cz L ⟨B0,1,B2,B3,B4⟩=if C5 ⟨L0,L1,L2,L3,L4⟩ ⟨B0,1,B2,B3,B4⟩=true then L.set M ⟨L0,L1+1,L2,L3,L4⟩ else L++[⟨B0,1,B2,B3,B4⟩]):=A2 (by
      rw[HSS.out,hLL]
      have e:L.length-1=M:=by omega
      rw[e]
      unfold Uz
      by_cases hj:C5 ⟨L0,L1,L2,L3,L4⟩ ⟨B0,1,B2,B3,B4⟩=true
      ·rw[if_pos ⟨hnp,hj⟩,if_pos hj]
      ·rw[if_neg (fun h=>hj h.2),if_neg hj])
     (have HSA:Hid (∀wX,Below wb.heap.size wb wX->(wX.cell? ⟨w1.heap.size,0,none⟩=some (.int .i64 B0)/\wX.cell? ⟨w1.heap.size,1,none⟩=some (.int .i64 1)/\wX.cell? ⟨w1.heap.size,2,none⟩=some (.int .i64 B2)/\wX.cell? ⟨w1.heap.size,3,none⟩=some (.int .i64 B3)/\wX.cell? ⟨w1.heap.size,4,none⟩=some (.bool B4))/\wX.cell? ⟨gv,M*5,none⟩=some (.int .i64 L0)/\wX.cell? ⟨gv,M*5+1,none⟩=some (.int .i64 L1)/\wX.cell? ⟨gv,M*5+2,none⟩=some (.int .i64 L2)/\wX.cell? ⟨gv,M*5+3,none⟩=some (.int .i64 L3)/\wX.cell? ⟨gv,M*5+4,none⟩=some (.bool L4)):=A2 fun wX hX=>⟨HSB.out wX hX,HCL.out wX hX⟩);generalize C5 ⟨L0,L1,L2,L3,L4⟩ ⟨B0,1,B2,B3,B4⟩=J at *;clear hn hM hLM hLL hcq hgq HSS;(go_upto_region 8 with fail);rw[<- HWB.out];refine wp_region_held_drew (S:=(fun wX=>(wX.cell? ⟨w1.heap.size,0,none⟩=some (.int .i64 B0)/\wX.cell? ⟨w1.heap.size,1,none⟩=some (.int .i64 1)/\wX.cell? ⟨w1.heap.size,2,none⟩=some (.int .i64 B2)/\wX.cell? ⟨w1.heap.size,3,none⟩=some (.int .i64 B3)/\wX.cell? ⟨w1.heap.size,4,none⟩=some (.bool B4))/\wX.cell? ⟨gv,M*5,none⟩=some (.int .i64 L0)/\wX.cell? ⟨gv,M*5+1,none⟩=some (.int .i64 L1)/\wX.cell? ⟨gv,M*5+2,none⟩=some (.int .i64 L2)/\wX.cell? ⟨gv,M*5+3,none⟩=some (.int .i64 L3)/\wX.cell? ⟨gv,M*5+4,none⟩=some (.bool L4))) (by kernel_rfl) (HSA.out _ (Below.refl _ _).drew) (fun hHeld=>?_);refine tk 0 ?_;refine tk 1 ?_;refine tk 2 ?_;refine tk 3 ?_;refine tk 4 ?_;refine tk 5 ?_;refine tk 6 ?_;refine tk 7 ?_;refine tk 8 ?_;refine wpAnyH_ready (rs:=[9]) (by kernel_rfl) (by simp) ?_;refine AllReadyH.cons rfl (fun K hK=>?_) AllReadyH.nil;go_simp;(go_at_call 105);refine(hjn _).mono ?_;rintro e w2 ⟨rfl,hb2⟩;have hB2:Below wb.heap.size wb w2:=(Below.refl _ _).drew.trans (hb2.mono (by simp));(go_wp2_with fail);refine hK.out _ _ (HSA.out _ hB2) (fun hHeld2=>?_);clear hK K;refine tk 10 ?_;refine wpAnyH_done (by kernel_rfl) ?_ _;have HR2:Hid (A6 A8 w2 w.heap.size (.slice (some ⟨gv,0,none⟩) L.length cv) L):=A2 (HRB.out.below hB2);have HB2:Hid (Below w.heap.size w w2):=A2 (HBB.out.trans (hB2.mono HBB.out.size));obtain⟨⟨y0,y1,y2,y3,y4⟩,u0,u1,u2,u3,u4⟩:=HSA.out w2 hB2;have s2:=HB2.out.size;clear hHeld hHeld2 hb2 hB2 x0 x1 x2 x3 x4;cases J
     ·have HV:Hid (Am all (k+1)=L++[⟨B0,1,B2,B3,B4⟩]):=A2 (by rw[HST.out,HSS2.out];rfl);clear HST HSS2;have HRD:Hid (A6 A8 (w2.alloc (.cells #[.int .i64 B0,.int .i64 1,.int .i64 B2,.int .i64 B3,.bool B4] 103)) w.heap.size (.slice (some ⟨gv,0,none⟩) L.length cv) L):=A2 (HR2.out.below Ao);have HBD:Hid (Below w.heap.size w (w2.alloc (.cells #[.int .i64 B0,.int .i64 1,.int .i64 B2,.int .i64 B3,.bool B4] 103))):=A2 (HB2.out.alloc s2 _);(go_wp2_with (at_builtin;refine wpList_append_lies _ rfl (.tmp 46) (.tmp 48) 30 rfl w.heap.size 103 i0 _ 5 40 Tryz.underlying30 hi hz0 hz1 hz2 rfl (by omega) _ _ _ rfl HRD.out ⟨_,0,none⟩ 1 1 [.int .i64 B0,.int .i64 1,.int .i64 B2,.int .i64 B3,.bool B4] rfl rfl ?c1 ?c2 (by omega) ?c3 ?c4 ?c5 _ rfl ?_));(case c1=>exact World.news_of_block (heap_alloc_new _ (.cells #[.int .i64 B0,.int .i64 1,.int .i64 B2,.int .i64 B3,.bool B4] 103)));(case c2=>intro u hu;simp at hu;rcases hu with rfl|rfl|rfl|rfl|rfl<;>rfl);(case c3=>unfold maxLen;first|omega|(simp;done)|(simp;omega));(case c4=>first|omega|(simp;done)|(simp;omega));(case c5=>first|omega|(simp;omega));intro g7 c7 w7 hown hgrow hat hlt3;obtain⟨hr7,hb7⟩:=M6 (x:=⟨B0,1,B2,B3,B4⟩) HBD.out HRD.out hown hgrow;have HR7:Hid (A6 A8 w7 w.heap.size (.slice (some ⟨g7,0,none⟩) (L++[(⟨B0,1,B2,B3,B4⟩:AF)]).length c7) (L++[(⟨B0,1,B2,B3,B4⟩:AF)])):=hr7;have HB7:Hid (Below w.heap.size w w7):=hb7;clear hown hgrow hat hlt3 hr7 hb7;(go_wp2_with fail);go_roundw;(case rel=>exact⟨k+1,L++[(⟨B0,1,B2,B3,B4⟩:AF)],g7,c7,by omega,by go_num,by simp,HV,HR7,HB7.out⟩);case measure=>first|(simp[intOf];done)|(simp[intOf];omega)
     ·have HV:Hid (Am all (k+1)=L.set M ⟨L0,L1+1,L2,L3,L4⟩):=A2 (by rw[HST.out,HSS2.out];rfl);clear HST HSS2;have HFZ:Hid (∀j,w2.frozen? ⟨gv,j,none⟩=false):=A2 fun j=>by
       obtain⟨aa,cc,ee,hf⟩:=HR2.out.form;obtain⟨g',N,f,e2,_,hrr,_⟩:=hf hnp;simp only[Value.slice.injEq] at ee;rw[e2] at ee;simp only[Option.some.injEq,Addr.mk.injEq,and_true] at ee;rw[ee.1];exact hrr.frozen j
      have z0:=HFZ.out (M*5);have zz1:=HFZ.out (M*5+1);have z2:=HFZ.out (M*5+2);have z3:=HFZ.out (M*5+3);have z4:=HFZ.out (M*5+4);have g2:=(HR2.out.own gv rfl).2;have gz2:=(HR2.out.own gv rfl).1
      have HF:Hid (A6 A8 ((((((w2.setCell ⟨gv,M*5,none⟩ (.int .i64 L0)).setCell ⟨gv,M*5+1,none⟩ (.int .i64 (L1+1))).setCell ⟨gv,M*5+2,none⟩ (.int .i64 L2)).setCell ⟨gv,M*5+3,none⟩ (.int .i64 L3)).setCell ⟨gv,M*5+4,none⟩ (.bool L4)).alloc (.cells #[.int .i64 L0,.int .i64 (L1+1),.int .i64 L2,.int .i64 L3,.bool L4] 103)) w.heap.size (.slice (some ⟨gv,0,none⟩) (L.set M ⟨L0,L1+1,L2,L3,L4⟩).length cv) (L.set M ⟨L0,L1+1,L2,L3,L4⟩)):=A2 (by
       rw[List.length_set]
       exact(Kx HR2.out (by omega)).below Ao)
      have HFB:Hid (Below w.heap.size w ((((((w2.setCell ⟨gv,M*5,none⟩ (.int .i64 L0)).setCell ⟨gv,M*5+1,none⟩ (.int .i64 (L1+1))).setCell ⟨gv,M*5+2,none⟩ (.int .i64 L2)).setCell ⟨gv,M*5+3,none⟩ (.int .i64 L3)).setCell ⟨gv,M*5+4,none⟩ (.bool L4)).alloc (.cells #[.int .i64 L0,.int .i64 (L1+1),.int .i64 L2,.int .i64 L3,.bool L4] 103))):=A2 ((((((HB2.out.setCell gz2 _).setCell gz2 _).setCell gz2 _).setCell gz2 _).setCell gz2 _).alloc (by simp;omega) _);(go_wp2_with fail);go_roundw;(case rel=>exact⟨k+1,L.set M ⟨L0,L1+1,L2,L3,L4⟩,gv,cv,by omega,by go_num,by simp,HV,HF,HFB.out⟩);case measure=>first|(simp[intOf];done)|(simp[intOf];omega)
   ·(have h1b:(B1==1)=false:=by simpa using h1);have HV:Hid (Am all (k+1)=L):=A2 (by rw[HST.out];unfold Cz;rw[if_neg h1]);have HB1:Hid (Below w.heap.size w (w1.alloc (.cells #[.int .i64 B0,.int .i64 B1,.int .i64 B2,.int .i64 B3,.bool B4] 103))):=A2 (hb1.alloc s1 _);have HR1:Hid (A6 A8 (w1.alloc (.cells #[.int .i64 B0,.int .i64 B1,.int .i64 B2,.int .i64 B3,.bool B4] 103)) w.heap.size (.slice (some ⟨gv,0,none⟩) L.length cv) L):=A2 ((HRW.out.below hb1').below Ao);clear hb1' hb1 hp;(go_wp2_with fail);go_roundw;(case rel=>exact⟨k+1,L,gv,cv,by omega,by go_num,rfl,HV,HR1,HB1.out⟩);case measure=>first|(simp[intOf];done)|(simp[intOf];omega)
  ·(have ek:k=4096:=by omega);have HV:Hid (Am all 4096=L):=A2 (by rw[<- ek];exact HL.out);(have K1:¬(k:Int)<4096:=by omega);clear hb ek;(go_wp2_with fail);rw[HV.out];go_ret;exact⟨gv,cv,rfl,HRW.out,HB.out⟩
end Go.Proofs.YtnmhkgmmpkjjeaaGreat
namespace Go.Proofs.YtnmhkgmmpkjjeaaGreat
open Go.ChangeShapes Go.WideShapes Go.ChangeAt Go.RowKit
set_option linter.unusedVariables false
set_option maxRecDepth 100000
set_option linter.unusedSimpArgs false
theorem Pb (ts:List AS):(CS ts).kind=0\/(CS ts).kind=1\/(CS ts).kind=2\/(CS ts).kind=3:=by
 unfold CS TI Tj V5;repeat' split
 all_goals simp[AP]
theorem Oz (a:Option Addr) (c:Nat) (all:List St) (s:St) (w:World) (hle:all.length<=1000) (hr:Oh w a all) (hall:∀t∈all,EX t) (hs:EX s) (hk:s.kind=0\/s.kind=1\/s.kind=2\/s.kind=3) : Calls Tryz.prog 37 #[.slice a all.length c,Bn s] w fun e w'=>e=.returned (.int .i64 (BP all s))/\Below w.heap.size w w':=by
 obtain⟨K,M,A,B,P,X⟩:=s;dsimp only at hk;rcases hk with rfl|rfl|rfl|rfl
 ·have e:BP all ⟨0,M,A,B,P,X⟩=4:=rfl;rw[e];exact W6 a c all M A B P X w
 ·exact Vq a c all M A B P X w hle hr hall ⟨hs.a0,hs.a1⟩ ⟨hs.b0,hs.b1⟩
 ·exact WE a c all M A B P X w hle hr hall hs
 ·exact WK a c all M A B P X w hle hr hall hs
def BM (ts:List AS) (k:Nat):List Nat:=(List.range k).filter (fun i=>ER ts i==[59])
theorem Nx (ts:List AS) (k:Nat):BM ts (k+1)=if ER ts k==[59] then BM ts k++[k] else BM ts k:=by
 unfold BM;rw[List.range_succ,List.filter_append,List.filter_cons];split<;>simp
theorem Pp (ts:List AS) (k:Nat):(BM ts k).length<=k:=by
 unfold BM;exact Nat.le_trans (List.length_filter_le _ _) (by simp)
theorem Qz (ts:List AS) (k:Nat):∀e∈BM ts k,e<k:=fun e he=>List.mem_range.1 (List.mem_filter.1 he).1
theorem LH (ts:List AS) (k:Nat):(BM ts k).Pairwise (fun a b=>a<b):=List.Pairwise.filter _ (List.pairwise_lt_range)
def FQ (es:List Nat) (k:Nat):Nat:=es.getD k 0
def Cm (es:List Nat):Nat->Nat
 | 0=>0
 | k+1=>FQ es k+1
def Jp (ts:List AS) (i j:Nat):List AS:=(ts.drop i).take (j-i)
def XC (ts:List AS) (es:List Nat) (k:Nat):St:=CS (Jp ts (Cm es k) (FQ es k))
def Ej (ts:List AS) (es:List Nat) (k:Nat):List St:=(List.range k).map (XC ts es)
def Eo (ts:List AS) (es:List Nat) (k:Nat):Int:=BP (Ej ts es k) (XC ts es k)
theorem Oo (ts:List AS) (es:List Nat) (k:Nat):Ej ts es (k+1)=Ej ts es k++[XC ts es k]:=by
 unfold Ej;rw[List.range_succ,List.map_append];rfl
theorem RF (ts:List AS) (es:List Nat) (k:Nat):(Ej ts es k).length=k:=by unfold Ej;simp
theorem IR (ts:List AS) (es:List Nat) (k:Nat):∀s∈Ej ts es k,EX s:=by
 intro s hs;unfold Ej at hs;obtain⟨i,_,rfl⟩:=List.mem_map.1 hs;exact OG _
theorem Qr {ts:List AS} {n k:Nat} (h:k<(BM ts n).length):Cm (BM ts n) k<=FQ (BM ts n) k/\FQ (BM ts n) k<n:=by
 have hm:FQ (BM ts n) k∈BM ts n:=by
  unfold FQ;rw[List.getD_eq_getElem?_getD,List.getElem?_eq_getElem h];exact List.getElem_mem h
 refine⟨?_,Qz ts n _ hm⟩;cases k with
 | zero=>exact Nat.zero_le _
 | succ k =>
  have:=List.pairwise_iff_getElem.1 (LH ts n) k (k+1) (by omega) h (by omega);show FQ _ k+1<=FQ _ (k+1);unfold FQ;rw[List.getD_eq_getElem?_getD,List.getD_eq_getElem?_getD,List.getElem?_eq_getElem h,List.getElem?_eq_getElem (by omega)];exact this
theorem TH {ts:List AS} {n k:Nat} (h:k<=(BM ts n).length):Cm (BM ts n) k<=n:=by
 cases k with
 | zero=>exact Nat.zero_le _
 | succ k =>
  have:=(Qr (ts:=ts) (n:=n) (k:=k) (by omega)).2;show FQ _ k+1<=n;omega
def JR (ts:List AS) (es:List Nat):List AF×Int×Int :=
 match (List.range es.length).find? (fun k=>!(Eo ts es k==0)) with
 | some k=>([],Eo ts es k,(k:Nat))
 | none=>if Cm es es.length<ts.length then ([],4,(es.length:Nat)) else (Am (Ej ts es es.length) 4096,0,0)
def JQ (ts:List AS):List AF×Int×Int :=
 if 1000<(BM ts ts.length).length then ([],3,1000) else JR ts (BM ts ts.length)
def A9 (text:AS):List AF×Int×Int :=
 if 20000<text.length then ([],1,0)
 else if 0<=Fm 0 (Bf false text) then ([],2,Fm 0 (Bf false text))
 else JQ (Dd [] (Bf false text))
theorem TZ {ts:List AS} {es:List Nat} {k:Nat} (hk:k<es.length) (h:∀j,j<k->Eo ts es j=0) (h2:Eo ts es k≠0):JR ts es=([],Eo ts es k,((k:Nat):Int)):=by
 unfold JR;have e:(List.range es.length).find? (fun k=>!(Eo ts es k==0))=some k:=by
  have e1:es.length=k+((es.length-k-1)+1):=by omega
  rw[e1,List.range_add,List.find?_append,List.range_succ_eq_map,List.map_cons,List.find?_cons_of_pos (by simpa using h2)];have:(List.range k).find? (fun k=>!(Eo ts es k==0))=none:=by
   rw[List.find?_eq_none];intro x hx;rw[h x (List.mem_range.1 hx)];decide
  rw[this];rfl
 rw[e]
theorem Re {ts:List AS} {es:List Nat} (h:∀j,j<es.length->Eo ts es j=0):JR ts es=if Cm es es.length<ts.length then ([],(4:Int),((es.length:Nat):Int)) else (Am (Ej ts es es.length) 4096,(0:Int),(0:Int)):=by
 unfold JR;have:(List.range es.length).find? (fun k=>!(Eo ts es k==0))=none:=by
  rw[List.find?_eq_none];intro x hx;rw[h x (List.mem_range.1 hx)];decide
 rw[this]
theorem KS:∀(b:Bool) (l:AS),(Bf b l).length=l.length
 | _,[]=>rfl
 | b,c :: r=>by
  unfold Bf;rw[List.length_cons,List.length_cons,KS]
theorem MH:∀(w l:AS),(Dd w l).length<=w.length+l.length/\∀t∈Dd w l,t.length<=w.length+l.length
 | w,[]=>by
  unfold Dd De;split
  ·simp
  ·rename_i h;have:0<w.length:=List.length_pos_iff.2 h;refine⟨by simp;omega,fun t ht=>?_⟩;rw[List.mem_singleton] at ht;subst ht;simp
 | w,c :: r=>by
  unfold Dd;split
  ·obtain⟨h1,h2⟩:=MH (w++[c]) r;rw[List.length_append,List.length_singleton] at h1 h2;exact⟨by rw[List.length_cons];omega,fun t ht=>by have:=h2 t ht;rw[List.length_cons];omega⟩
  ·obtain⟨h1,h2⟩:=MH [] r;simp only[List.length_nil,Nat.zero_add] at h1 h2;have hf:(De w).length<=w.length/\∀t∈De w,t.length<=w.length:=by
    unfold De;split
    ·simp
    ·rename_i h;have:0<w.length:=List.length_pos_iff.2 h;exact⟨by simp;omega,fun t ht=>by rw[List.mem_singleton] at ht;subst ht;exact Nat.le_refl _⟩
   refine⟨?_,fun t ht=>?_⟩
   ·rw[List.length_append,List.length_append,List.length_cons];(have:(if decide (c.toNat=59)=true then [[59]] else ([]:List AS)).length<=1:=by split<;>simp);omega
   ·rw[List.length_cons];rcases List.mem_append.1 ht with ht|ht
    ·have:=hf.2 t ht;omega
    ·rcases List.mem_append.1 ht with ht|ht
     ·split at ht
      ·rw[List.mem_singleton] at ht;subst ht;show 1<=_;omega
      ·cases ht
     ·have:=h2 t ht;omega
theorem QD {ts:List AS} {i j k:Nat} (hj:j<=ts.length) (hk:k<j-i):ER (Jp ts i j) k=ER ts (i+k):=by
 unfold Jp ER;rw[List.getD_eq_getElem?_getD,List.getD_eq_getElem?_getD,List.getElem?_take,if_pos hk,List.getElem?_drop]
theorem IB {ts:List AS} {i j:Nat} (hij:i<=j) (hj:j<=ts.length):(Jp ts i j).length=j-i:=by
 unfold Jp;rw[List.length_take,List.length_drop];omega
structure XS (e:AF):Prop where
 p:0<=e.page/\e.page<=4096
 c:0<=e.count/\e.count<=4096
 o:-2000000<=e.out/\e.out<=2000000
 r:0<=e.perm/\e.perm<=7
theorem U4 {all:List St} (hok:∀s∈all,EX s) (p:Int):0<=(CQ all p).perm/\(CQ all p).perm<=7:=by
 unfold CQ;split
 ·rename_i s h;have:=hok s (List.mem_of_find?_eq_some h);exact⟨this.p0,this.p1⟩
 ·exact⟨by decide,by decide⟩
theorem QJ {all:List St} (hok:∀s∈all,EX s):∀k,∀e∈Am all k,0<=e.perm/\e.perm<=7
 | 0=>by intro e he;simp[Am] at he
 | k+1=>by
  intro e he;have hp:=U4 hok (k:Nat);have ih:=QJ hok k;unfold Am Cz at he;generalize CQ all (k:Nat)=s at *;split at he
  ·split at he
   ·rename_i hj;rcases List.mem_or_eq_of_mem_set he with h|h
    ·exact ih e h
    ·subst h;have hm:Gm (Am all k)∈Am all k:=by
      unfold Gm AI;rw[List.getD_eq_getElem?_getD,List.getElem?_eq_getElem (by have:=hj.1;omega)];exact List.getElem_mem _
     have h5:=ih _ hm;exact h5
   ·rcases List.mem_append.1 he with h|h
    ·exact ih e h
    ·rw[List.mem_singleton.1 h];exact hp
  ·exact ih e he
theorem Vg (ts:List AS) (es:List Nat):(JR ts es).1.length<=4096/\∀e∈(JR ts es).1,XS e:=by
 unfold JR;split
 ·exact⟨Nat.zero_le _,fun e he=>by simp at he⟩
 ·split
  ·exact⟨Nat.zero_le _,fun e he=>by simp at he⟩
  ·obtain⟨h1,h2⟩:=NH (IR ts es es.length) 4096 (Nat.le_refl _);have h3:=QJ (IR ts es es.length) 4096;exact⟨h1,fun e he=>⟨⟨(h2 e he).1,(h2 e he).2.1⟩,⟨(h2 e he).2.2.1,(h2 e he).2.2.2.1⟩,⟨(h2 e he).2.2.2.2.1,(h2 e he).2.2.2.2.2⟩,h3 e he⟩⟩
theorem FZ (l:AS):(A9 l).1.length<=4096/\∀e∈(A9 l).1,XS e:=by
 unfold A9 JQ;split
 ·exact⟨Nat.zero_le _,fun e he=>by simp at he⟩
 ·split
  ·exact⟨Nat.zero_le _,fun e he=>by simp at he⟩
  ·split
   ·exact⟨Nat.zero_le _,fun e he=>by simp at he⟩
   ·exact Vg _ _
theorem Gd (H:Nat->Ht):∀g,(AA H g).length<=1+g+(g+15)/16
 | 0=>by simp[AA]
 | g+1=>by
  rw[GQ,List.length_append];have:=Gd H g;have h0:=Jc H (g*16);unfold EY;rw[List.length_append];split
  ·rename_i hg;have:=hg.1;simp only[List.length_singleton];omega
  ·simp only[List.length_nil];omega
theorem WN (xs:List AF):0<=RJ xs/\RJ xs<=273:=by
 unfold RJ;split
 ·exact⟨by omega,by have:=Gd (lay xs) 256;omega⟩
 ·exact⟨by omega,by omega⟩
def Tx (x:Int):Prop:=0<=x/\x<2 ^ 64
theorem Vp (l k o p:Int):Tx (BZ l k o p):=by
 unfold BZ Tx;split
 ·rename_i h;unfold D0;split<;>omega
 ·omega
theorem VF (H:Nat->Ht) (all:List P3) (lv pg:Int):Tx (Bv H all lv pg):=by
 unfold Bv;repeat' split
 all_goals first|exact Vp _ _ _ _|exact⟨by omega,by omega⟩
def GL (l:List Ay):Prop:=∀o∈l,o.kind=1->Tx o.word
theorem GL.app {l m:List Ay} (h1:GL l) (h2:GL m):GL (l++m):=fun o ho=>(List.mem_append.1 ho).elim (h1 o) (h2 o)
theorem GL.seal {l:List Ay} (h:GL l):GL (BB l):=by
 unfold BB;split
 ·intro o ho;cases ho
 ·refine h.app (fun o ho hk=>?_);rw[List.mem_singleton] at ho;subst ho;cases hk
theorem Ja (zs:List Int) (n:Nat) (H:Nat->Ht) (ps:List P3):GL (AO zs n H ps):=by
 unfold AO;refine GL.app (GL.seal (fun o ho hk=>?_)) (GL.app (GL.seal (fun o ho hk=>?_)) (GL.app (fun o ho hk=>?_) (GL.app (GL.seal (fun o ho hk=>?_)) (GL.seal (fun o ho hk=>?_)))))
 ·unfold AR at ho;obtain⟨e,he,rfl⟩:=List.mem_map.1 ho;exact(show Tx 0 from ⟨by decide,by decide⟩)
 ·unfold Av at ho;obtain⟨e,he,rfl⟩:=List.mem_map.1 ho;cases hk
 ·unfold Ah at ho;obtain⟨e,he,rfl⟩:=List.mem_map.1 ho;cases hk
 ·unfold AK at ho;obtain⟨t,ht,ho⟩:=List.mem_flatMap.1 ho;unfold Al at ho;obtain⟨i,hi,rfl⟩:=List.mem_map.1 ho;exact VF _ _ _ _
 ·unfold AZ at ho;obtain⟨e,he,rfl⟩:=List.mem_map.1 ho;exact VF _ _ _ _
theorem Qu:∀(l:List Ay) (zs:List Int),GL l->(∀i,Tx (zs.getD i 0))->∀i,Tx ((Bu zs l).getD i 0)
 | [],zs,_,hz=>hz
 | o :: l,zs,hl,hz=>by
  show ∀i,Tx ((Bu (LQ zs o) l).getD i 0)
  refine Qu l (LQ zs o) (fun o' ho'=>hl o' (List.mem_cons_of_mem _ ho')) (fun i=>?_);unfold LQ;split
  ·rename_i hk;have:=hl o List.mem_cons_self hk;rw[List.getD_eq_getElem?_getD,List.getElem?_set];split
   ·split
    ·exact this
    ·exact⟨by decide,by decide⟩
   ·have:=hz i;rw[List.getD_eq_getElem?_getD] at this;exact this
  ·exact hz i
theorem Fk {zs:List Int} {xs:List AF} (h:(BU zs xs).2=0):BO zs=true/\Eh xs=true/\¬Ae zs.length<((AA (lay xs) 256).length:Nat):=by
 by_cases h1:BO zs=true
 ·by_cases h2:Eh xs=true
  ·by_cases h3:Ae zs.length<((AA (lay xs) 256).length:Nat)
   ·rw[Ge h1 h2 h3] at h;cases h
   ·exact⟨h1,h2,h3⟩
  ·rw[GV h1 (by simpa using h2)] at h;cases h
 ·rw[Gh (by simpa using h1)] at h;cases h
theorem MA (xs:List AF) (fr:Int) (h:(An xs fr).2=0):0<(An xs fr).1.length/\∀i,0<=(An xs fr).1.getD i 0/\(An xs fr).1.getD i 0<2 ^ 64:=by
 unfold An at h ⊢;split at h
 ·cases h
 ·rename_i hv;rw[if_neg hv];split at h
  ·cases h
  ·rename_i hf;rw[if_neg hf];split at h
   ·cases h
   ·rename_i hp;rw[if_neg hp];(have hp0:(BU (Ap fr.toNat) xs).2=0:=by simpa using hp);obtain⟨p1,p2,p3⟩:=Fk hp0;rw[EU p1 p2 p3];refine⟨?_,?_⟩
    ·show 0<(Bu _ _).length;rw[CI,Ch];omega
    ·exact Qu _ _ (Ja _ _ _ _) (fun i=>by rw[FI];exact⟨by decide,by decide⟩)
theorem OU (xs:List AF) (fr:Int):0<=(An xs fr).2/\(An xs fr).2<=3:=by
 unfold An;split
 ·exact⟨by decide,by decide⟩
 ·split
  ·exact⟨by decide,by decide⟩
  ·split
   ·exact⟨by decide,by decide⟩
   ·exact⟨Int.le_refl 0,(by decide:(0:Int)<=3)⟩
theorem QW (zs:List Int) (xs:List AF):0<=(BU zs xs).2/\(BU zs xs).2<=3:=by
 by_cases h1:BO zs=true
 ·by_cases h2:Eh xs=true
  ·by_cases h3:Ae zs.length<((AA (lay xs) 256).length:Nat)
   ·rw[Ge h1 h2 h3];exact⟨by decide,by decide⟩
   ·rw[EU h1 h2 h3];exact⟨Int.le_refl 0,(by decide:(0:Int)<=3)⟩
  ·rw[GV h1 (by simpa using h2)];exact⟨by decide,by decide⟩
 ·rw[Gh (by simpa using h1)];exact⟨by decide,by decide⟩
theorem V6 (all:List St) (s:St):0<=BP all s/\BP all s<=10:=by
 unfold BP;repeat' split
 all_goals exact⟨by decide,by decide⟩
theorem Mo (l:AS):0<=(A9 l).2.1/\(A9 l).2.1<=10:=by
 unfold A9 JQ;split
 ·dsimp only;omega
 split
 ·dsimp only;omega
 split
 ·dsimp only;omega
 unfold JR;split
 ·exact V6 _ _
 split
 ·dsimp only;omega
 ·dsimp only;omega
theorem F5 (l:AS):∀i,i<(A9 l).1.length->RY (AI A8 (A9 l).1 i):=fun i hi=>by
 have hm:AI A8 (A9 l).1 i∈(A9 l).1:=by
  unfold AI;rw[List.getD_eq_getElem?_getD,List.getElem?_eq_getElem hi];exact List.getElem_mem hi
 have h:=(FZ l).2 _ hm;have:=h.p;have:=h.c;have:=h.o;have:=h.r;unfold RY;omega
def QV (ta tb:AS) (fr:Int):List Ay×Int×Int:=Eu (A9 ta) (A9 tb) (An (A9 ta).1 fr) (BU (An (A9 ta).1 fr).1 (A9 tb).1)
end Go.Proofs.YtnmhkgmmpkjjeaaGreat
