import Derived.Test.YtnmhkgmmpkjjeaaGreatK12
import Derived.Test.YtnmhkgmmpkjjeaaGreatK13
namespace Go.Proofs.YtnmhkgmmpkjjeaaGreat
open Go.ChangeShapes Go.WideShapes Go.ChangeAt Go.RowKit
set_option linter.unusedVariables false
set_option maxRecDepth 100000
attribute [local go_sem ↓] Go.wp_at_zero Go.wp_at_succ
theorem MV {w wq wn:World} {g c g1 c1:Nat} {l:List A9} {x:A9} (hbel:Below w.heap.size w wq) (hr:A6 A7 wq w.heap.size (.slice (some ⟨g,0,none⟩) l.length c) l) (hown:wn.ownsRow w.heap.size A7.T A7.sz (.slice (some ⟨g1,0,none⟩) (l.length+1) c1) (l.length+1) (AK A7 l++A7.enc x)) (hgrow:wq.grownBy wn (Value.ownBlock (.slice (some ⟨g,0,none⟩) l.length c))) : A6 A7 wn w.heap.size (.slice (some ⟨g1,0,none⟩) (l++[x]).length c1) (l++[x])/\Below w.heap.size w wn:=by
 refine⟨?_,hbel.grown hgrow hbel.size (fun q hq=>(hr.own q hq).1)⟩;have:=Ea rfl hown;rw[List.length_append,List.length_singleton];exact this
set_option maxHeartbeats 4000000 in
theorem Ox (a:Option Addr) (c:Nat) (all:List St) (w:World) (hle:all.length<=1000) (hok:∀s∈all,EO s) (hr:PO w a all) : Calls Tryz.prog 38 #[.slice a all.length c] w fun e w'=>∃g c1,e=.returned (.slice (some ⟨g,0,none⟩) (AZ all 4096).length c1)/\A6 A7 w' w.heap.size (.slice (some ⟨g,0,none⟩) (AZ all 4096).length c1) (AZ all 4096)/\Below w.heap.size w w':=by
 obtain⟨i0,hi,hz0,hz1,hz2⟩:=info_parts OF;have HP:Hid (∀(k:Nat) wX,k<4096->Below w.heap.size w wX->Calls Tryz.prog 104 #[.slice a all.length c,.int .i64 (k:Int)] wX fun e w'=>e=.returned (RJ (BY all (k:Nat)))/\Below wX.heap.size wX w'):=A0 fun k wX hk hX=>PH a c all (k:Nat) wX hle hok (by omega) (by omega) (hr.below hX)
 have HW:Hid (∀k,k<=4096->(AZ all k).length<=k/\∀e∈AZ all k,Wf k e):=A0 fun k hk=>Mz hok k hk
 have HS0:Hid (A6 A7 (w.alloc (.cells #[] 103)) w.heap.size (.slice (some ⟨w.heap.size,0,none⟩) 0 0) []):=A0 (A6.empty A7 w w.heap.size (Nat.le_refl _));clear hr hok;go_enter Tryz.func38,Tryz.ntmps38
 go_wp2_with fail
 go_loopw [3,4] (fun vv pv wr=>∃(k:Nat) (L:List A9) (gv cv:Nat),k<=4096/\pv=.int .i64 (k:Int)/\vv=.slice (some ⟨gv,0,none⟩) L.length cv/\Hid (AZ all k=L)/\Hid (A6 A7 wr w.heap.size (.slice (some ⟨gv,0,none⟩) L.length cv) L)/\Below w.heap.size w wr) (fun _ pv _=>4096-(intOf pv).toNat)
 case atStart=>exact⟨0,[],w.heap.size,0,by omega,rfl,rfl,A0 rfl,HS0,Ax⟩
 case round =>
  obtain⟨k,L,gv,cv,hk,rfl,rfl,HL,HRW,hb⟩:=hrel;have sr:=hb.size;have HB:Hid (Below _ w wr):=hb;by_cases hlt:k<4096
  ·(have K1:(k:Int)<4096:=by omega);have hp:=HP.out k wr hlt hb;have HST:Hid (AZ all (k+1)=CK L (BY all (k:Nat))):=A0 (by rw[<- HL.out];rfl);have hLw:=HW.out k (by omega);rw[HL.out] at hLw;obtain⟨hLl,hLe⟩:=hLw;have HLE:Hid _:=hLe;unfold RJ at hp;generalize BY all (k:Nat)=SS at *;obtain⟨B0,B1,B2,B3,B4⟩:=SS;dsimp only at hp;clear hb hLe;(go_wp2_with fail);refine hp.mono ?_;rintro e w1 ⟨rfl,hb1'⟩;have hb1:Below w.heap.size w w1:=HB.out.trans (hb1'.mono sr);have s1:=hb1.size;have hgv:=(HRW.out.own gv rfl).2;have z1:=hb1'.size;by_cases h1:B1=1
   ·subst h1;(obtain⟨wb,hwb⟩:∃wb,wb=w1.alloc (.cells #[.int .i64 B0,.int .i64 1,.int .i64 B2,.int .i64 B3,.bool B4] 103):=⟨_,rfl⟩);(have hbb:Below w.heap.size w wb:=by rw[hwb];exact hb1.alloc s1 _);(have zb:w1.heap.size<wb.heap.size:=by rw[hwb];simp);(have hrwb:A6 A7 wb w.heap.size (.slice (some ⟨gv,0,none⟩) L.length cv) L:=by rw[hwb];exact(HRW.out.below hb1').below Ax);have HSB:Hid (∀wX,Below wb.heap.size wb wX->wX.cell? ⟨w1.heap.size,0,none⟩=some (.int .i64 B0)/\wX.cell? ⟨w1.heap.size,1,none⟩=some (.int .i64 1)/\wX.cell? ⟨w1.heap.size,2,none⟩=some (.int .i64 B2)/\wX.cell? ⟨w1.heap.size,3,none⟩=some (.int .i64 B3)/\wX.cell? ⟨w1.heap.size,4,none⟩=some (.bool B4)):=A0 fun wX hX=>by
     refine⟨?_,?_,?_,?_,?_⟩;iterate 5 (exact(hX.cell (by simpa using zb)).trans (by rw[hwb];simp[go_sem]))
    have HRB:Hid (A6 _ _ _ _ _):=hrwb;have HBB:Hid (Below _ w wb):=hbb;have HWB:Hid (wb=_):=hwb;have HSS:Hid (CK L ⟨B0,1,B2,B3,B4⟩=if 0<L.length/\BX (CZ L) ⟨B0,1,B2,B3,B4⟩=true then L.set (L.length-1) (SC (CZ L)) else L++[⟨B0,1,B2,B3,B4⟩]):=A0 (by unfold CK;rw[if_pos rfl]);(have gb:gv<wb.heap.size:=by omega);obtain⟨x0,x1,x2,x3,x4⟩:=HSB.out wb (Below.refl _ _);clear hb1' hb1 hwb hbb hrwb hp;by_cases hn:L.length=0
    ·obtain rfl:L=[]:=List.length_eq_zero_iff.1 hn;have HV:Hid (AZ all (k+1)=([]:List A9)++[⟨B0,1,B2,B3,B4⟩]):=A0 (by rw[HST.out,HSS.out,if_neg (by simp)]);clear HST HSS hn hLl;dsimp only[List.length_nil] at HRB;(go_upto_region 8 with fail);rw[<- HWB.out];refine wp_region_held_drew (S:=(fun wX=>wX.cell? ⟨w1.heap.size,0,none⟩=some (.int .i64 B0)/\wX.cell? ⟨w1.heap.size,1,none⟩=some (.int .i64 1)/\wX.cell? ⟨w1.heap.size,2,none⟩=some (.int .i64 B2)/\wX.cell? ⟨w1.heap.size,3,none⟩=some (.int .i64 B3)/\wX.cell? ⟨w1.heap.size,4,none⟩=some (.bool B4))) (by kernel_rfl) (HSB.out _ (Below.refl _ _).drew) (fun hHeld=>?_);refine tk 0 ?_;refine tk 1 ?_;refine tk 2 ?_;refine sk 3 ?_;refine sk 4 ?_;refine sk 5 ?_;refine sk 6 ?_;refine sk 7 ?_;refine sk 8 ?_;refine sk 9 ?_;refine tk 10 ?_;refine wpAnyH_done (by kernel_rfl) ?_ _;clear hHeld;have HRD:Hid (A6 A7 (wb.alloc (.cells #[.int .i64 B0,.int .i64 1,.int .i64 B2,.int .i64 B3,.bool B4] 103)).drew w.heap.size (.slice (some ⟨gv,0,none⟩) 0 cv) []):=A0 (HRB.out.below Ax.drew);have HBD:Hid (Below w.heap.size w (wb.alloc (.cells #[.int .i64 B0,.int .i64 1,.int .i64 B2,.int .i64 B3,.bool B4] 103)).drew):=A0 (HBB.out.alloc HBB.out.size _).drew;(go_wp2_with (at_builtin;refine wpList_append_lies _ rfl (.tmp 46) (.tmp 48) 30 rfl w.heap.size 103 i0 _ 5 40 Tryz.underlying30 hi hz0 hz1 hz2 rfl (by omega) _ _ _ rfl HRD.out ⟨_,0,none⟩ 1 1 [.int .i64 B0,.int .i64 1,.int .i64 B2,.int .i64 B3,.bool B4] rfl rfl ?c1 ?c2 (by omega) ?c3 ?c4 ?c5 _ rfl ?_));(case c1=>exact World.news_of_block (show (wb.alloc (.cells #[.int .i64 B0,.int .i64 1,.int .i64 B2,.int .i64 B3,.bool B4] 103)).drew.heap[wb.heap.size]?=_ from heap_alloc_new wb _));(case c2=>intro u hu;simp at hu;rcases hu with rfl|rfl|rfl|rfl|rfl<;>rfl);(case c3=>unfold maxLen;first|omega|(simp;done)|(simp;omega));(case c4=>first|omega|(simp;done)|(simp;omega));(case c5=>first|omega|(simp;omega));intro g7 c7 w7 hown hgrow hat hlt3;obtain⟨hr7,hb7⟩:=MV (x:=⟨B0,1,B2,B3,B4⟩) HBD.out HRD.out hown hgrow;have HR7:Hid (A6 A7 w7 w.heap.size (.slice (some ⟨g7,0,none⟩) (([]:List A9)++[(⟨B0,1,B2,B3,B4⟩:A9)]).length c7) (([]:List A9)++[(⟨B0,1,B2,B3,B4⟩:A9)])):=hr7;have HB7:Hid (Below w.heap.size w w7):=hb7;clear hown hgrow hat hlt3 hr7 hb7;(go_wp2_with fail);go_roundw;(case rel=>exact⟨k+1,([]:List A9)++[(⟨B0,1,B2,B3,B4⟩:A9)],g7,c7,by omega,by go_num,by simp,HV,HR7,HB7.out⟩);case measure=>first|(simp[intOf];done)|(simp[intOf];omega)
    ·(obtain⟨M,hM⟩:∃M,L.length=M+1:=⟨L.length-1,by omega⟩);have HM:Hid (L.length=M+1):=hM;(have EM:(L.length:Int)-1=(M:Int):=by omega);(have M0:(0:Int)<=(M:Int):=by omega);(have M1:(M:Int)<(L.length:Int):=by omega);(have WM:IntKind.i64.wrap (M:Int)=(M:Int):=by rw[IntKind.wrap_i64];omega);have hnb:decide ((0:Int)<(L.length:Int))=true:=decide_eq_true (by omega);(have hnp:0<L.length:=by omega);(obtain⟨⟨L0,L1,L2,L3,L4⟩,hLL⟩:∃S,CZ L=S:=⟨_,rfl⟩);have hLM:AI A7 L M=⟨L0,L1,L2,L3,L4⟩:=by rw[<- hLL];unfold CZ;rw[hM];rfl
     have hLw2:=HLE.out _ (show AI A7 L M∈L by
      unfold AI
      rw[List.getD_eq_getElem?_getD,List.getElem?_eq_getElem (by omega)]
      exact List.getElem_mem _)
     rw[hLM] at hLw2;obtain⟨v1,v2,v3,v4,v5,v6⟩:=hLw2;dsimp only at v1 v2 v3 v4 v5 v6;obtain⟨gq,hgq,hcq⟩:=HU HRB.out;obtain⟨eg,_⟩:=hgq hnp;simp only[Option.some.injEq,Addr.mk.injEq,and_true] at eg;subst eg;(have HCL:Hid (∀wX,Below wb.heap.size wb wX->wX.cell? ⟨gv,M*5,none⟩=some (.int .i64 L0)/\wX.cell? ⟨gv,M*5+1,none⟩=some (.int .i64 L1)/\wX.cell? ⟨gv,M*5+2,none⟩=some (.int .i64 L2)/\wX.cell? ⟨gv,M*5+3,none⟩=some (.int .i64 L3)/\wX.cell? ⟨gv,M*5+4,none⟩=some (.bool L4)):=A0 fun wX hX=>hcq M L0 L1 L2 L3 L4 (by omega) hLM wX hX);have hjn:=fun wX=>Id L0 L1 L2 L3 L4 B0 1 B2 B3 B4 wX v1 (by omega) v3 (by omega) (by omega) (by omega)
     have HSS2:Hid (CK L ⟨B0,1,B2,B3,B4⟩=if BX ⟨L0,L1,L2,L3,L4⟩ ⟨B0,1,B2,B3,B4⟩=true then L.set M ⟨L0,L1+1,L2,L3,L4⟩ else L++[⟨B0,1,B2,B3,B4⟩]):=A0 (by
      rw[HSS.out,hLL]
      have e:L.length-1=M:=by omega
      rw[e]
      unfold SC
      by_cases hj:BX ⟨L0,L1,L2,L3,L4⟩ ⟨B0,1,B2,B3,B4⟩=true
      ·rw[if_pos ⟨hnp,hj⟩,if_pos hj]
      ·rw[if_neg (fun h=>hj h.2),if_neg hj])
     (have HSA:Hid (∀wX,Below wb.heap.size wb wX->(wX.cell? ⟨w1.heap.size,0,none⟩=some (.int .i64 B0)/\wX.cell? ⟨w1.heap.size,1,none⟩=some (.int .i64 1)/\wX.cell? ⟨w1.heap.size,2,none⟩=some (.int .i64 B2)/\wX.cell? ⟨w1.heap.size,3,none⟩=some (.int .i64 B3)/\wX.cell? ⟨w1.heap.size,4,none⟩=some (.bool B4))/\wX.cell? ⟨gv,M*5,none⟩=some (.int .i64 L0)/\wX.cell? ⟨gv,M*5+1,none⟩=some (.int .i64 L1)/\wX.cell? ⟨gv,M*5+2,none⟩=some (.int .i64 L2)/\wX.cell? ⟨gv,M*5+3,none⟩=some (.int .i64 L3)/\wX.cell? ⟨gv,M*5+4,none⟩=some (.bool L4)):=A0 fun wX hX=>⟨HSB.out wX hX,HCL.out wX hX⟩);generalize BX ⟨L0,L1,L2,L3,L4⟩ ⟨B0,1,B2,B3,B4⟩=J at *;clear hn hM hLM hLL hcq hgq HSS;(go_upto_region 8 with fail);rw[<- HWB.out];refine wp_region_held_drew (S:=(fun wX=>(wX.cell? ⟨w1.heap.size,0,none⟩=some (.int .i64 B0)/\wX.cell? ⟨w1.heap.size,1,none⟩=some (.int .i64 1)/\wX.cell? ⟨w1.heap.size,2,none⟩=some (.int .i64 B2)/\wX.cell? ⟨w1.heap.size,3,none⟩=some (.int .i64 B3)/\wX.cell? ⟨w1.heap.size,4,none⟩=some (.bool B4))/\wX.cell? ⟨gv,M*5,none⟩=some (.int .i64 L0)/\wX.cell? ⟨gv,M*5+1,none⟩=some (.int .i64 L1)/\wX.cell? ⟨gv,M*5+2,none⟩=some (.int .i64 L2)/\wX.cell? ⟨gv,M*5+3,none⟩=some (.int .i64 L3)/\wX.cell? ⟨gv,M*5+4,none⟩=some (.bool L4))) (by kernel_rfl) (HSA.out _ (Below.refl _ _).drew) (fun hHeld=>?_);refine tk 0 ?_;refine tk 1 ?_;refine tk 2 ?_;refine tk 3 ?_;refine tk 4 ?_;refine tk 5 ?_;refine tk 6 ?_;refine tk 7 ?_;refine tk 8 ?_;refine wpAnyH_ready (rs:=[9]) (by kernel_rfl) (by simp) ?_;refine AllReadyH.cons rfl (fun K hK=>?_) AllReadyH.nil;go_simp;(go_at_call 105);refine(hjn _).mono ?_;rintro e w2 ⟨rfl,hb2⟩;have hB2:Below wb.heap.size wb w2:=(Below.refl _ _).drew.trans (hb2.mono (by simp));(go_wp2_with fail);refine hK.out _ _ (HSA.out _ hB2) (fun hHeld2=>?_);clear hK K;refine tk 10 ?_;refine wpAnyH_done (by kernel_rfl) ?_ _;have HR2:Hid (A6 A7 w2 w.heap.size (.slice (some ⟨gv,0,none⟩) L.length cv) L):=A0 (HRB.out.below hB2);have HB2:Hid (Below w.heap.size w w2):=A0 (HBB.out.trans (hB2.mono HBB.out.size));obtain⟨⟨y0,y1,y2,y3,y4⟩,u0,u1,u2,u3,u4⟩:=HSA.out w2 hB2;have s2:=HB2.out.size;clear hHeld hHeld2 hb2 hB2 x0 x1 x2 x3 x4;cases J
     ·have HV:Hid (AZ all (k+1)=L++[⟨B0,1,B2,B3,B4⟩]):=A0 (by rw[HST.out,HSS2.out];rfl);clear HST HSS2;have HRD:Hid (A6 A7 (w2.alloc (.cells #[.int .i64 B0,.int .i64 1,.int .i64 B2,.int .i64 B3,.bool B4] 103)) w.heap.size (.slice (some ⟨gv,0,none⟩) L.length cv) L):=A0 (HR2.out.below Ax);have HBD:Hid (Below w.heap.size w (w2.alloc (.cells #[.int .i64 B0,.int .i64 1,.int .i64 B2,.int .i64 B3,.bool B4] 103))):=A0 (HB2.out.alloc s2 _);(go_wp2_with (at_builtin;refine wpList_append_lies _ rfl (.tmp 46) (.tmp 48) 30 rfl w.heap.size 103 i0 _ 5 40 Tryz.underlying30 hi hz0 hz1 hz2 rfl (by omega) _ _ _ rfl HRD.out ⟨_,0,none⟩ 1 1 [.int .i64 B0,.int .i64 1,.int .i64 B2,.int .i64 B3,.bool B4] rfl rfl ?c1 ?c2 (by omega) ?c3 ?c4 ?c5 _ rfl ?_));(case c1=>exact World.news_of_block (heap_alloc_new _ (.cells #[.int .i64 B0,.int .i64 1,.int .i64 B2,.int .i64 B3,.bool B4] 103)));(case c2=>intro u hu;simp at hu;rcases hu with rfl|rfl|rfl|rfl|rfl<;>rfl);(case c3=>unfold maxLen;first|omega|(simp;done)|(simp;omega));(case c4=>first|omega|(simp;done)|(simp;omega));(case c5=>first|omega|(simp;omega));intro g7 c7 w7 hown hgrow hat hlt3;obtain⟨hr7,hb7⟩:=MV (x:=⟨B0,1,B2,B3,B4⟩) HBD.out HRD.out hown hgrow;have HR7:Hid (A6 A7 w7 w.heap.size (.slice (some ⟨g7,0,none⟩) (L++[(⟨B0,1,B2,B3,B4⟩:A9)]).length c7) (L++[(⟨B0,1,B2,B3,B4⟩:A9)])):=hr7;have HB7:Hid (Below w.heap.size w w7):=hb7;clear hown hgrow hat hlt3 hr7 hb7;(go_wp2_with fail);go_roundw;(case rel=>exact⟨k+1,L++[(⟨B0,1,B2,B3,B4⟩:A9)],g7,c7,by omega,by go_num,by simp,HV,HR7,HB7.out⟩);case measure=>first|(simp[intOf];done)|(simp[intOf];omega)
     ·have HV:Hid (AZ all (k+1)=L.set M ⟨L0,L1+1,L2,L3,L4⟩):=A0 (by rw[HST.out,HSS2.out];rfl);clear HST HSS2;have HFZ:Hid (∀j,w2.frozen? ⟨gv,j,none⟩=false):=A0 fun j=>by
       obtain⟨aa,cc,ee,hf⟩:=HR2.out.form;obtain⟨g',N,f,e2,_,hrr,_⟩:=hf hnp;simp only[Value.slice.injEq] at ee;rw[e2] at ee;simp only[Option.some.injEq,Addr.mk.injEq,and_true] at ee;rw[ee.1];exact hrr.frozen j
      have z0:=HFZ.out (M*5);have zz1:=HFZ.out (M*5+1);have z2:=HFZ.out (M*5+2);have z3:=HFZ.out (M*5+3);have z4:=HFZ.out (M*5+4);have g2:=(HR2.out.own gv rfl).2;have gz2:=(HR2.out.own gv rfl).1
      have HF:Hid (A6 A7 ((((((w2.setCell ⟨gv,M*5,none⟩ (.int .i64 L0)).setCell ⟨gv,M*5+1,none⟩ (.int .i64 (L1+1))).setCell ⟨gv,M*5+2,none⟩ (.int .i64 L2)).setCell ⟨gv,M*5+3,none⟩ (.int .i64 L3)).setCell ⟨gv,M*5+4,none⟩ (.bool L4)).alloc (.cells #[.int .i64 L0,.int .i64 (L1+1),.int .i64 L2,.int .i64 L3,.bool L4] 103)) w.heap.size (.slice (some ⟨gv,0,none⟩) (L.set M ⟨L0,L1+1,L2,L3,L4⟩).length cv) (L.set M ⟨L0,L1+1,L2,L3,L4⟩)):=A0 (by
       rw[List.length_set]
       exact(Lu HR2.out (by omega)).below Ax)
      have HFB:Hid (Below w.heap.size w ((((((w2.setCell ⟨gv,M*5,none⟩ (.int .i64 L0)).setCell ⟨gv,M*5+1,none⟩ (.int .i64 (L1+1))).setCell ⟨gv,M*5+2,none⟩ (.int .i64 L2)).setCell ⟨gv,M*5+3,none⟩ (.int .i64 L3)).setCell ⟨gv,M*5+4,none⟩ (.bool L4)).alloc (.cells #[.int .i64 L0,.int .i64 (L1+1),.int .i64 L2,.int .i64 L3,.bool L4] 103))):=A0 ((((((HB2.out.setCell gz2 _).setCell gz2 _).setCell gz2 _).setCell gz2 _).setCell gz2 _).alloc (by simp;omega) _);(go_wp2_with fail);go_roundw;(case rel=>exact⟨k+1,L.set M ⟨L0,L1+1,L2,L3,L4⟩,gv,cv,by omega,by go_num,by simp,HV,HF,HFB.out⟩);case measure=>first|(simp[intOf];done)|(simp[intOf];omega)
   ·(have h1b:(B1==1)=false:=by simpa using h1);have HV:Hid (AZ all (k+1)=L):=A0 (by rw[HST.out];unfold CK;rw[if_neg h1]);have HB1:Hid (Below w.heap.size w (w1.alloc (.cells #[.int .i64 B0,.int .i64 B1,.int .i64 B2,.int .i64 B3,.bool B4] 103))):=A0 (hb1.alloc s1 _);have HR1:Hid (A6 A7 (w1.alloc (.cells #[.int .i64 B0,.int .i64 B1,.int .i64 B2,.int .i64 B3,.bool B4] 103)) w.heap.size (.slice (some ⟨gv,0,none⟩) L.length cv) L):=A0 ((HRW.out.below hb1').below Ax);clear hb1' hb1 hp;(go_wp2_with fail);go_roundw;(case rel=>exact⟨k+1,L,gv,cv,by omega,by go_num,rfl,HV,HR1,HB1.out⟩);case measure=>first|(simp[intOf];done)|(simp[intOf];omega)
  ·(have ek:k=4096:=by omega);have HV:Hid (AZ all 4096=L):=A0 (by rw[<- ek];exact HL.out);(have K1:¬(k:Int)<4096:=by omega);clear hb ek;(go_wp2_with fail);rw[HV.out];go_ret;exact⟨gv,cv,rfl,HRW.out,HB.out⟩
end Go.Proofs.YtnmhkgmmpkjjeaaGreat
namespace Go.Proofs.YtnmhkgmmpkjjeaaGreat
open Go.ChangeShapes Go.WideShapes Go.ChangeAt Go.RowKit
set_option linter.unusedVariables false
set_option maxRecDepth 100000
theorem QL (ts:List Ap):(CR ts).kind=0\/(CR ts).kind=1\/(CR ts).kind=2\/(CR ts).kind=3:=by
 unfold CR Ss Sx TZ;repeat' split
 all_goals simp[AR]
theorem Qa (a:Option Addr) (c:Nat) (all:List St) (s:St) (w:World) (hle:all.length<=1000) (hr:PO w a all) (hall:∀t∈all,EO t) (hs:EO s) (hk:s.kind=0\/s.kind=1\/s.kind=2\/s.kind=3) : Calls Tryz.prog 37 #[.slice a all.length c,Bu s] w fun e w'=>e=.returned (.int .i64 (Be all s))/\Below w.heap.size w w':=by
 obtain⟨K,M,A,B,P,X⟩:=s;dsimp only at hk;rcases hk with rfl|rfl|rfl|rfl
 ·have e:Be all ⟨0,M,A,B,P,X⟩=4:=rfl;rw[e];exact XQ a c all M A B P X w
 ·exact Xu a c all M A B P X w hle hr hall ⟨hs.a0,hs.a1⟩ ⟨hs.b0,hs.b1⟩
 ·exact Xc a c all M A B P X w hle hr hall hs
 ·exact Xm a c all M A B P X w hle hr hall hs
def BQ (ts:List Ap) (k:Nat):List Nat:=(List.range k).filter (fun i=>EF ts i==[59])
theorem Oh (ts:List Ap) (k:Nat):BQ ts (k+1)=if EF ts k==[59] then BQ ts k++[k] else BQ ts k:=by
 unfold BQ;rw[List.range_succ,List.filter_append,List.filter_cons];split<;>simp
theorem Q4 (ts:List Ap) (k:Nat):(BQ ts k).length<=k:=by
 unfold BQ;exact Nat.le_trans (List.length_filter_le _ _) (by simp)
theorem S3 (ts:List Ap) (k:Nat):∀e∈BQ ts k,e<k:=fun e he=>List.mem_range.1 (List.mem_filter.1 he).1
theorem Lp (ts:List Ap) (k:Nat):(BQ ts k).Pairwise (fun a b=>a<b):=List.Pairwise.filter _ (List.pairwise_lt_range)
def Fc (es:List Nat) (k:Nat):Nat:=es.getD k 0
def D8 (es:List Nat):Nat->Nat
 | 0=>0
 | k+1=>Fc es k+1
def KY (ts:List Ap) (i j:Nat):List Ap:=(ts.drop i).take (j-i)
def Xk (ts:List Ap) (es:List Nat) (k:Nat):St:=CR (KY ts (D8 es k) (Fc es k))
def Dm (ts:List Ap) (es:List Nat) (k:Nat):List St:=(List.range k).map (Xk ts es)
def EA (ts:List Ap) (es:List Nat) (k:Nat):Int:=Be (Dm ts es k) (Xk ts es k)
theorem Py (ts:List Ap) (es:List Nat) (k:Nat):Dm ts es (k+1)=Dm ts es k++[Xk ts es k]:=by
 unfold Dm;rw[List.range_succ,List.map_append];rfl
theorem SZ (ts:List Ap) (es:List Nat) (k:Nat):(Dm ts es k).length=k:=by unfold Dm;simp
theorem Gm (ts:List Ap) (es:List Nat) (k:Nat):∀s∈Dm ts es k,EO s:=by
 intro s hs;unfold Dm at hs;obtain⟨i,_,rfl⟩:=List.mem_map.1 hs;exact P8 _
theorem RR {ts:List Ap} {n k:Nat} (h:k<(BQ ts n).length):D8 (BQ ts n) k<=Fc (BQ ts n) k/\Fc (BQ ts n) k<n:=by
 have hm:Fc (BQ ts n) k∈BQ ts n:=by
  unfold Fc;rw[List.getD_eq_getElem?_getD,List.getElem?_eq_getElem h];exact List.getElem_mem h
 refine⟨?_,S3 ts n _ hm⟩;cases k with
 | zero=>exact Nat.zero_le _
 | succ k =>
  have:=List.pairwise_iff_getElem.1 (Lp ts n) k (k+1) (by omega) h (by omega);show Fc _ k+1<=Fc _ (k+1);unfold Fc;rw[List.getD_eq_getElem?_getD,List.getD_eq_getElem?_getD,List.getElem?_eq_getElem h,List.getElem?_eq_getElem (by omega)];exact this
theorem TU {ts:List Ap} {n k:Nat} (h:k<=(BQ ts n).length):D8 (BQ ts n) k<=n:=by
 cases k with
 | zero=>exact Nat.zero_le _
 | succ k =>
  have:=(RR (ts:=ts) (n:=n) (k:=k) (by omega)).2;show Fc _ k+1<=n;omega
def JU (ts:List Ap) (es:List Nat):List A9×Int×Int :=
 match (List.range es.length).find? (fun k=>!(EA ts es k==0)) with
 | some k=>([],EA ts es k,(k:Nat))
 | none=>if D8 es es.length<ts.length then ([],4,(es.length:Nat)) else (AZ (Dm ts es es.length) 4096,0,0)
def K6 (ts:List Ap):List A9×Int×Int :=
 if 1000<(BQ ts ts.length).length then ([],3,1000) else JU ts (BQ ts ts.length)
def GO (text:Ap):List A9×Int×Int :=
 if 20000<text.length then ([],1,0)
 else if 0<=Ft 0 (Bn false text) then ([],2,Ft 0 (Bn false text))
 else K6 (Di [] (Bn false text))
theorem Tt {ts:List Ap} {es:List Nat} {k:Nat} (hk:k<es.length) (h:∀j,j<k->EA ts es j=0) (h2:EA ts es k≠0):JU ts es=([],EA ts es k,((k:Nat):Int)):=by
 unfold JU;have e:(List.range es.length).find? (fun k=>!(EA ts es k==0))=some k:=by
  have e1:es.length=k+((es.length-k-1)+1):=by omega
  rw[e1,List.range_add,List.find?_append,List.range_succ_eq_map,List.map_cons,List.find?_cons_of_pos (by simpa using h2)];have:(List.range k).find? (fun k=>!(EA ts es k==0))=none:=by
   rw[List.find?_eq_none];intro x hx;rw[h x (List.mem_range.1 hx)];decide
  rw[this];rfl
 rw[e]
theorem Sd {ts:List Ap} {es:List Nat} (h:∀j,j<es.length->EA ts es j=0):JU ts es=if D8 es es.length<ts.length then ([],(4:Int),((es.length:Nat):Int)) else (AZ (Dm ts es es.length) 4096,(0:Int),(0:Int)):=by
 unfold JU;have:(List.range es.length).find? (fun k=>!(EA ts es k==0))=none:=by
  rw[List.find?_eq_none];intro x hx;rw[h x (List.mem_range.1 hx)];decide
 rw[this]
theorem Kf:∀(b:Bool) (l:Ap),(Bn b l).length=l.length
 | _,[]=>rfl
 | b,c :: r=>by
  unfold Bn;rw[List.length_cons,List.length_cons,Kf]
theorem Nt:∀(w l:Ap),(Di w l).length<=w.length+l.length/\∀t∈Di w l,t.length<=w.length+l.length
 | w,[]=>by
  unfold Di Dl;split
  ·simp
  ·rename_i h;have:0<w.length:=List.length_pos_iff.2 h;refine⟨by simp;omega,fun t ht=>?_⟩;rw[List.mem_singleton] at ht;subst ht;simp
 | w,c :: r=>by
  unfold Di;split
  ·obtain⟨h1,h2⟩:=Nt (w++[c]) r;rw[List.length_append,List.length_singleton] at h1 h2;exact⟨by rw[List.length_cons];omega,fun t ht=>by have:=h2 t ht;rw[List.length_cons];omega⟩
  ·obtain⟨h1,h2⟩:=Nt [] r;simp only[List.length_nil,Nat.zero_add] at h1 h2;have hf:(Dl w).length<=w.length/\∀t∈Dl w,t.length<=w.length:=by
    unfold Dl;split
    ·simp
    ·rename_i h;have:0<w.length:=List.length_pos_iff.2 h;exact⟨by simp;omega,fun t ht=>by rw[List.mem_singleton] at ht;subst ht;exact Nat.le_refl _⟩
   refine⟨?_,fun t ht=>?_⟩
   ·rw[List.length_append,List.length_append,List.length_cons];(have:(if decide (c.toNat=59)=true then [[59]] else ([]:List Ap)).length<=1:=by split<;>simp);omega
   ·rw[List.length_cons];rcases List.mem_append.1 ht with ht|ht
    ·have:=hf.2 t ht;omega
    ·rcases List.mem_append.1 ht with ht|ht
     ·split at ht
      ·rw[List.mem_singleton] at ht;subst ht;show 1<=_;omega
      ·cases ht
     ·have:=h2 t ht;omega
theorem RH {ts:List Ap} {i j k:Nat} (hj:j<=ts.length) (hk:k<j-i):EF (KY ts i j) k=EF ts (i+k):=by
 unfold KY EF;rw[List.getD_eq_getElem?_getD,List.getD_eq_getElem?_getD,List.getElem?_take,if_pos hk,List.getElem?_drop]
theorem J7 {ts:List Ap} {i j:Nat} (hij:i<=j) (hj:j<=ts.length):(KY ts i j).length=j-i:=by
 unfold KY;rw[List.length_take,List.length_drop];omega
end Go.Proofs.YtnmhkgmmpkjjeaaGreat
