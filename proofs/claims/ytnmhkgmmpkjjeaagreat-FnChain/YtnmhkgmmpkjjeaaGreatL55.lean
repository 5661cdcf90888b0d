import Derived.Lib.SmallJoins
import Derived.RegionTactic
import Derived.ChangeAlike
import Derived.Test.YtnmhkgmmpkjjeaaGreatL49
import Derived.Test.YtnmhkgmmpkjjeaaGreatL52
import Derived.Test.YtnmhkgmmpkjjeaaGreatL54
namespace Go.Proofs.YtnmhkgmmpkjjeaaGreat
open Go.ChangeShapes Go.WideShapes Go.ChangeAt Go.RowKit Go.Joins
set_option linter.unusedVariables false
set_option linter.unusedSimpArgs false
set_option maxRecDepth 100000
attribute [local go_sem ↓] Go.wp_at_zero Go.wp_at_succ
open Go.ChangeShapes Go.WideShapes Go.ChangeAt Go.RowKit
set_option maxHeartbeats 4000000 in
theorem LD (A B:ByteArray) (fr:Int) (xa xb:List AF) (ca da cb db:Int) (zs:List Int) (cc:Int) (l:List Ay) (cd:Int) (w:World) (bca:0<=ca/\ca<=10) (bcb:0<=cb/\cb<=10) (bcc:0<=cc/\cc<=3) (bcd:0<=cd/\cd<=3) (hzs:cc=0->0<zs.length) (hA:∀wX,Calls Tryz.prog 11 #[.string A] wX fun e w'=>∃a c,e=.returned (.tuple #[.slice a xa.length c,.agg #[.int .i64 ca,.int .i64 da]])/\A6 A8 w' wX.heap.size (.slice a xa.length c) xa/\Below wX.heap.size wX w') (hB:∀wX,Calls Tryz.prog 11 #[.string B] wX fun e w'=>∃a c,e=.returned (.tuple #[.slice a xb.length c,.agg #[.int .i64 cb,.int .i64 db]])/\A6 A8 w' wX.heap.size (.slice a xb.length c) xb/\Below wX.heap.size wX w') (hC:∀a c b wX,A6 A8 wX b (.slice a xa.length c) xa->Calls Tryz.prog 15 #[.slice a xa.length c,.int .i64 fr] wX fun e w'=>∃a c,e=.returned (.tuple #[.agg #[.slice a zs.length c],.int .i64 cc])/\A6 Aa w' wX.heap.size (.slice a zs.length c) zs/\Below wX.heap.size wX w') (hD:∀g cz a c b wX,cc=0->At wX g zs->zs.length<=cz->A6 A8 wX b (.slice a xb.length c) xb->Calls Tryz.prog 24 #[.agg #[.slice (some ⟨g,0,none⟩) zs.length cz],.slice a xb.length c] wX fun e w'=>∃a c,e=.returned (.tuple #[.slice a l.length c,.int .i64 cd])/\A6 Az w' wX.heap.size (.slice a l.length c) l/\Below wX.heap.size wX w') : Calls Tryz.prog 9 #[.string A,.string B,.int .i64 fr] w fun e w'=>Cx w (Eu (xa,ca,da) (xb,cb,db) (zs,cc) (l,cd)) e w':=by
 obtain⟨wb,hwb⟩:∃wb,wb=(w.alloc (.cells #[.int .i64 0,.int .i64 0] 27)).alloc (.cells #[] 77):=⟨_,rfl⟩
 have hbb:Below w.heap.size w wb:=by rw[hwb];exact Ao.alloc (by simp) _
 have hzb:w.heap.size+1<wb.heap.size:=by rw[hwb];simp
 have HQ:Hid (∀wX,Below wb.heap.size wb wX->(wX.cell? ⟨w.heap.size,0,none⟩=some (.int .i64 0)/\wX.cell? ⟨w.heap.size,1,none⟩=some (.int .i64 0))/\(wX.frozen? ⟨w.heap.size,0,none⟩=false/\wX.frozen? ⟨w.heap.size,1,none⟩=false)):=A3 fun wX hX=>by
  refine⟨⟨?_,?_⟩,⟨?_,?_⟩⟩;iterate 2 (exact(hX.cell (by simp;omega)).trans (by rw[hwb];simp[go_sem]))
  iterate 2 (exact(hX.frozen (by simp;omega)).trans (by rw[hwb];simp[go_sem]))
 have HV:Hid (∀wX,Below wb.heap.size wb wX->wX.heap[w.heap.size+1]?=some (.cells #[] 77)):=A3 fun wX hX=>by
  rw[hX.block _ hzb,hwb];have:=heap_alloc_new (w.alloc (.cells #[.int .i64 0,.int .i64 0] 27)) (.cells #[] 77);rwa [World.size_alloc] at this
 have HEND:Hid (∀(wX:World) (c d:Int),Below wb.heap.size wb wX->Cx w ([],c,d) (.returned (.tuple #[.slice (some ⟨w.heap.size+1,0,none⟩) 0 0,.agg #[.int .i64 c,.int .i64 d]])) ((wX.setCell ⟨w.heap.size,0,none⟩ (.int .i64 c)).setCell ⟨w.heap.size,1,none⟩ (.int .i64 d))):=A3 fun wX c d hX=>by
  refine⟨_,0,rfl,?_,hbb.trans (((hX.mono (by omega)).setCell (by simp) _).setCell (by simp) _)⟩;refine((Sy (w.heap.size+1) (HV.out wX hX) (by omega)).kept (Bp (World.grownBy.refl _ _) 0 _) ?_).kept (Bp (World.grownBy.refl _ _) 1 _) ?_;all_goals
   intro q hq
   have:w.heap.size+1=q:=by simpa [Value.ownBlock] using hq
   simp;omega
 have HWB:Hid (wb=_):=hwb;have HBB:Hid (Below w.heap.size w wb):=hbb;have HC:Hid _:=hC;have HD:Hid _:=hD;have HR1:Hid (ca≠0->Eu (xa,ca,da) (xb,cb,db) (zs,cc) (l,cd)=([],100+ca,da)):=A3 fun h=>by unfold Eu;rw[if_pos h]
 have HR2:Hid (ca=0->cb≠0->Eu (xa,ca,da) (xb,cb,db) (zs,cc) (l,cd)=([],200+cb,db)):=A3 fun h h2=>by unfold Eu;rw[if_neg (by simpa using h),if_pos h2]
 have HR3:Hid (ca=0->cb=0->cc≠0->Eu (xa,ca,da) (xb,cb,db) (zs,cc) (l,cd)=([],300+cc,0)):=A3 fun h h2 h3=>by unfold Eu;rw[if_neg (by simpa using h),if_neg (by simpa using h2),if_pos h3]
 have HR4:Hid (ca=0->cb=0->cc=0->cd≠0->Eu (xa,ca,da) (xb,cb,db) (zs,cc) (l,cd)=([],400+cd,0)):=A3 fun h h2 h3 h4=>by unfold Eu;rw[if_neg (by simpa using h),if_neg (by simpa using h2),if_neg (by simpa using h3),if_pos h4]
 have HR5:Hid (ca=0->cb=0->cc=0->cd=0->Eu (xa,ca,da) (xb,cb,db) (zs,cc) (l,cd)=(l,0,0)):=A3 fun h h2 h3 h4=>by unfold Eu;rw[if_neg (by simpa using h),if_neg (by simpa using h2),if_neg (by simpa using h3),if_neg (by simpa using h4)]
 generalize Eu (xa,ca,da) (xb,cb,db) (zs,cc) (l,cd)=R at *;have HBq:Hid _:=hB;have t1:=A3 (hA wb);obtain⟨bca0,bca1⟩:=bca;obtain⟨bcb0,bcb1⟩:=bcb;obtain⟨bcc0,bcc1⟩:=bcc;obtain⟨bcd0,bcd1⟩:=bcd;clear hA hB hC hD hwb hbb;go_enter Tryz.func9,Tryz.ntmps9
 go_wp2_with fail
 rw[<- HWB.out];refine t1.out.mono ?_;rintro e w1 ⟨a1,c1,rfl,hr1,hb1⟩;obtain⟨w2,hw2⟩:∃w2,w2=w1.alloc (.cells #[.int .i64 ca,.int .i64 da] 27):=⟨_,rfl⟩
 have hb12:Below w1.heap.size w1 w2:=by rw[hw2];exact Ao
 have hz2:w1.heap.size<w2.heap.size:=by rw[hw2];simp
 have hb2:Below wb.heap.size wb w2:=hb1.trans (hb12.mono hb1.size);have x0:w2.cell? ⟨w1.heap.size,0,none⟩=some (.int .i64 ca):=by rw[hw2];simp[go_sem]
 have x1:w2.cell? ⟨w1.heap.size,1,none⟩=some (.int .i64 da):=by rw[hw2];simp[go_sem]
 have HW2:Hid (w2=_):=hw2;have HB2:Hid (Below wb.heap.size wb w2):=hb2;have HRA:Hid (∀wX,Below w2.heap.size w2 wX->A6 A8 wX wb.heap.size (.slice a1 xa.length c1) xa):=A3 fun wX hX=>(hr1.below hb12).below hX
 obtain⟨⟨q0,q1⟩,f0,f1⟩:=HQ.out w2 hb2;have n1:w.heap.size<w1.heap.size:=by have:=hb1.size;omega
 clear t1 hr1 hb1 hb12 hb2 hw2;go_upto_if 25 with fail
 rw[<- HW2.out];by_cases k1:ca=0;case neg =>
  have kb:(ca != 0)=true:=by simpa using k1
  have W1:IntKind.i64.wrap (100+ca)=100+ca:=by rw[IntKind.wrap_i64];omega
  obtain⟨z0,z1⟩:=Wh (.int .i64 (100+ca)) (.int .i64 da) q0 q1;have HE:=HEND.out w2 (100+ca) da HB2.out;rw[<- HR1.out k1] at HE;have HEH:Hid _:=HE;clear HE;go_wp2_with fail
  go_region
  go_wp2_with fail
  exact bodyPost_ret (v:=.tuple #[.slice (some ⟨w.heap.size+1,0,none⟩) 0 0,.agg #[.int .i64 (100+ca),.int .i64 da]]) (by simp[results,Tryz.results9,go_sem,z0,z1]) rfl (Cx.drew HEH.out)
 case pos =>
 have kb:(ca != 0)=false:=by simpa using k1
 have t3:=A3 (HBq.out w2);clear HR1 x0 x1 q0 q1 f0 f1 HBq;go_wp2_with fail
 refine t3.out.mono ?_;rintro e w3 ⟨a3,c3,rfl,hr3,hb3⟩;obtain⟨w4,hw4⟩:∃w4,w4=w3.alloc (.cells #[.int .i64 cb,.int .i64 db] 27):=⟨_,rfl⟩
 have hb34:Below w3.heap.size w3 w4:=by rw[hw4];exact Ao
 have hz4:w3.heap.size<w4.heap.size:=by rw[hw4];simp
 have hb24:Below w2.heap.size w2 w4:=hb3.trans (hb34.mono hb3.size);have hb4:Below wb.heap.size wb w4:=HB2.out.trans (hb24.mono HB2.out.size);have x0:w4.cell? ⟨w3.heap.size,0,none⟩=some (.int .i64 cb):=by rw[hw4];simp[go_sem]
 have x1:w4.cell? ⟨w3.heap.size,1,none⟩=some (.int .i64 db):=by rw[hw4];simp[go_sem]
 have HW4:Hid (w4=_):=hw4;have HB4:Hid (Below wb.heap.size wb w4):=hb4;have HRB:Hid (∀wX,Below w4.heap.size w4 wX->A6 A8 wX w2.heap.size (.slice a3 xb.length c3) xb):=A3 fun wX hX=>(hr3.below hb34).below hX
 have t5:=A3 (HC.out a1 c1 _ w4 (HRA.out w4 hb24));obtain⟨⟨q0,q1⟩,f0,f1⟩:=HQ.out w4 hb4;have n3:w.heap.size<w3.heap.size:=by have:=hb3.size;omega
 clear t3 hr3 hb3 hb34 hb24 hb4 hw4 HRA HC;go_upto_if 40 with fail
 rw[<- HW4.out];by_cases k2:cb=0;case neg =>
  have kb2:(cb != 0)=true:=by simpa using k2
  have W1:IntKind.i64.wrap (200+cb)=200+cb:=by rw[IntKind.wrap_i64];omega
  obtain⟨z0,z1⟩:=Wh (.int .i64 (200+cb)) (.int .i64 db) q0 q1;have HE:=HEND.out w4 (200+cb) db HB4.out;rw[<- HR2.out k1 k2] at HE;have HEH:Hid _:=HE;clear HE;go_wp2_with fail
  go_region
  go_wp2_with fail
  exact bodyPost_ret (v:=.tuple #[.slice (some ⟨w.heap.size+1,0,none⟩) 0 0,.agg #[.int .i64 (200+cb),.int .i64 db]]) (by simp[results,Tryz.results9,go_sem,z0,z1]) rfl (Cx.drew HEH.out)
 case pos =>
 have kb2:(cb != 0)=false:=by simpa using k2
 clear HR2 x0 x1 q0 q1 f0 f1;go_wp2_with fail
 refine t5.out.mono ?_;rintro e w5 ⟨a5,c5,rfl,hr5,hb5⟩;obtain⟨w6,hw6⟩:∃w6,w6=w5.alloc (.cells #[.slice a5 zs.length c5] 35):=⟨_,rfl⟩
 have hb56:Below w5.heap.size w5 w6:=by rw[hw6];exact Ao
 have hb46:Below w4.heap.size w4 w6:=hb5.trans (hb56.mono hb5.size);have hb6:Below wb.heap.size wb w6:=HB4.out.trans (hb46.mono HB4.out.size);have x0:w6.cell? ⟨w5.heap.size,0,none⟩=some (.slice a5 zs.length c5):=by rw[hw6];simp[go_sem]
 have HW6:Hid (w6=_):=hw6;have HB6:Hid (Below wb.heap.size wb w6):=hb6;have HRC:Hid (A6 Aa w6 w4.heap.size (.slice a5 zs.length c5) zs):=A3 (hr5.below hb56);have HRB6:Hid (A6 A8 w6 w2.heap.size (.slice a3 xb.length c3) xb):=A3 (HRB.out w6 hb46);obtain⟨⟨q0,q1⟩,f0,f1⟩:=HQ.out w6 hb6;clear t5 hr5 hb5 hb56 hb46 hb6 hw6 HRB;go_upto_if 55 with fail
 rw[<- HW6.out];by_cases k3:cc=0;case neg =>
  have kb3:(cc != 0)=true:=by simpa using k3
  have W1:IntKind.i64.wrap (300+cc)=300+cc:=by rw[IntKind.wrap_i64];omega
  have HE:=HEND.out w6 (300+cc) 0 HB6.out;rw[<- HR3.out k1 k2 k3] at HE;have HEH:Hid _:=HE;clear HE;go_wp2_with fail
  exact bodyPost_ret (v:=.tuple #[.slice (some ⟨w.heap.size+1,0,none⟩) 0 0,.agg #[.int .i64 (300+cc),.int .i64 0]]) (by simp[results,Tryz.results9,go_sem,q0,q1]) rfl HEH.out
 case pos =>
 have kb3:(cc != 0)=false:=by simpa using k3
 obtain⟨gz,ez,_,hcz,hcr⟩:=GG HRC.out (hzs k3);subst ez;have t7:=A3 (HD.out gz c5 a3 c3 _ w6 k3 hcr hcz HRB6.out);clear HR3 q0 q1 f0 f1 hcr hcz;go_wp2_with fail
 refine t7.out.mono ?_;rintro e w7 ⟨a7,c7,rfl,hr7,hb7⟩;have hb67:Below wb.heap.size wb w7:=HB6.out.trans (hb7.mono HB6.out.size);obtain⟨⟨q0,q1⟩,f0,f1⟩:=HQ.out w7 hb67;have HB7:Hid (Below wb.heap.size wb w7):=hb67;have HR7:Hid (A6 Az w7 w6.heap.size (.slice a7 l.length c7) l):=hr7;have s6:wb.heap.size<=w6.heap.size:=HB6.out.size;clear hr7 hb7 hb67 t7;by_cases k4:cd=0;case neg =>
  have kb4:(cd != 0)=true:=by simpa using k4
  have W1:IntKind.i64.wrap (400+cd)=400+cd:=by rw[IntKind.wrap_i64];omega
  have HE:=HEND.out w7 (400+cd) 0 HB7.out;rw[<- HR4.out k1 k2 k3 k4] at HE;have HEH:Hid _:=HE;clear HE;go_wp2_with fail
  exact bodyPost_ret (v:=.tuple #[.slice (some ⟨w.heap.size+1,0,none⟩) 0 0,.agg #[.int .i64 (400+cd),.int .i64 0]]) (by simp[results,Tryz.results9,go_sem,q0,q1]) rfl HEH.out
 case pos =>
 have kb4:(cd != 0)=false:=by simpa using k4
 have HE:Cx w (l,0,0) (.returned (.tuple #[.slice a7 l.length c7,.agg #[.int .i64 0,.int .i64 0]])) ((w7.setCell ⟨w.heap.size,0,none⟩ (.int .i64 0)).setCell ⟨w.heap.size,1,none⟩ (.int .i64 0)):=by
  refine⟨a7,c7,rfl,?_,HBB.out.trans (((HB7.out.mono (by omega)).setCell (by simp) _).setCell (by simp) _)⟩;refine(A6.kept (A6.kept HR7.out (Bp (g:=w.heap.size) (World.grownBy.refl _ _) 0 (.int .i64 0)) ?_) (Bp (g:=w.heap.size) (World.grownBy.refl _ _) 1 (.int .i64 0)) ?_).rebase (by omega);all_goals
   intro q hq
   have:=(HR7.out.own q hq).1
   simp
   omega
 rw[<- HR5.out k1 k2 k3 k4] at HE;have HEH:Hid _:=HE;clear HE;go_wp2_with fail
 exact bodyPost_ret (v:=.tuple #[.slice a7 l.length c7,.agg #[.int .i64 0,.int .i64 0]]) (by simp[results,Tryz.results9,go_sem,q0,q1]) rfl HEH.out
set_option maxHeartbeats 4000000 in
theorem Ko (a:Option Addr) (cap b:Nat) (xs:List AF) (fr:Int) (w:World) (hn:xs.length<=1048576) (hf0:-9223372036854775808<=fr) (hf1:fr<=9223372036854775807) (hwf:∀i,i<xs.length->RY (AI A8 xs i)) (h:A6 A8 w b (.slice a xs.length cap) xs) : Calls Tryz.prog 12 #[.slice a xs.length cap,.int .i64 fr] w fun e w'=>DF w (An xs fr) e w':=by
 obtain⟨wb,hwb⟩:∃wb,wb=w.alloc (.cells #[.slice none 0 0] 35):=⟨_,rfl⟩
 have hbb:Below w.heap.size w wb:=by rw[hwb];exact Ao
 have hzb:wb.heap.size=w.heap.size+1:=by rw[hwb];simp
 have q0:wb.cell? ⟨w.heap.size,0,none⟩=some (.slice none 0 0):=by rw[hwb];simp[go_sem]
 have f0:wb.frozen? ⟨w.heap.size,0,none⟩=false:=by rw[hwb];simp[go_sem]
 have hvs0:=KR a cap b xs wb hn hwf (h.below hbb);have HPL:Hid (∀g F wX,Below wb.heap.size wb wX->F<=512->At wX g (Ap F)->Calls Tryz.prog 25 #[.agg #[.slice (some ⟨g,0,none⟩) (Ap F).length (Ap F).length],.slice a xs.length cap] wX fun e w'=>CZ wX (BU (Ap F) xs) e w'):=A3 <| fun g F wX hX hF hc=>Hy g (Ap F) (Ap F).length a cap b xs wX (by rw[Ch];omega) (Nat.le_refl _) (fun i=>by rw[FI];exact⟨Int.le_refl _,by decide⟩) hc hn hwf (h.below (hbb.trans (hX.mono (by omega))))
 have HWB:Hid (wb=_):=hwb;have HBB:Hid (Below w.heap.size w wb):=hbb;have HZB:Hid (wb.heap.size=w.heap.size+1):=hzb;have HQ0:Hid (∀wX,Below wb.heap.size wb wX->wX.cell? ⟨w.heap.size,0,none⟩=some (.slice none 0 0)/\wX.frozen? ⟨w.heap.size,0,none⟩=false):=A3 <| fun wX hX=>⟨(hX.cell (p:=⟨w.heap.size,0,none⟩) (show w.heap.size<_ by omega)).trans q0,(hX.frozen (p:=⟨w.heap.size,0,none⟩) (show w.heap.size<_ by omega)).trans f0⟩
 have HEND:Hid (∀k w',Below wb.heap.size wb w'->∀u,DF w ([],k) (.returned (.tuple #[.agg #[.slice none 0 0],.int .i64 k])) (w'.setCell ⟨w.heap.size,0,none⟩ u)):=A3 <| fun k w' hX u=>⟨none,0,rfl,Lt _ _,(hbb.trans (hX.mono (by omega))).setCell (Nat.le_refl _) _⟩
 have N0:w.heap.size<wb.heap.size:=by omega
 clear hwb hbb hzb q0 f0 h hwf;unfold An;cases hvb:Eh xs
 ·rw[if_pos rfl];rw[hvb] at hvs0;clear hvb;go_enter Tryz.func12,Tryz.ntmps12
  go_wp2_with fail
  rw[<- HWB.out];refine hvs0.mono ?_;rintro e w1 ⟨rfl,hb1⟩;obtain⟨k0,k1⟩:=HQ0.out w1 hb1;have hl1:w.heap.size<w1.heap.size:=Nat.lt_of_lt_of_le N0 hb1.size;have hfin:=HEND.out 1 w1 hb1 (.slice none 0 0);have r0:(w1.setCell ⟨w.heap.size,0,none⟩ (.slice none 0 0)).cell? ⟨w.heap.size,0,none⟩=some (.slice none 0 0):=World.cell?_setCell_same _ _ _ k0;clear hvs0 hb1;go_wp2_with fail
  refine bodyPost_ret (v:=.tuple #[.agg #[.slice none 0 0],.int .i64 1]) (by simp[results,Tryz.results12,go_sem,r0]) rfl ?_;exact hfin
 ·rw[if_neg (by decide)];rw[hvb] at hvs0;clear hvb;by_cases hr:fr<1\/512<fr
  ·rw[if_pos hr];by_cases h1:fr<1
   ·have d1:decide (fr<1)=true:=decide_eq_true h1;clear hr;(go_enter Tryz.func12,Tryz.ntmps12);(go_wp2_with fail);rw[<- HWB.out];refine hvs0.mono ?_;rintro e w1 ⟨rfl,hb1⟩;obtain⟨k0,k1⟩:=HQ0.out w1 hb1;have hl1:w.heap.size<w1.heap.size:=Nat.lt_of_lt_of_le N0 hb1.size;have hfin:=HEND.out 2 w1 hb1 (.slice none 0 0);have r0:(w1.setCell ⟨w.heap.size,0,none⟩ (.slice none 0 0)).cell? ⟨w.heap.size,0,none⟩=some (.slice none 0 0):=World.cell?_setCell_same _ _ _ k0;clear hvs0 hb1;(go_wp2_with fail);refine bodyPost_ret (v:=.tuple #[.agg #[.slice none 0 0],.int .i64 2]) (by simp[results,Tryz.results12,go_sem,r0]) rfl ?_;exact hfin
   ·(have h2:512<fr:=by omega);have d1:decide (fr<1)=false:=decide_eq_false h1;have d2:decide (512<fr)=true:=decide_eq_true h2;clear hr;(go_enter Tryz.func12,Tryz.ntmps12);(go_wp2_with fail);rw[<- HWB.out];refine hvs0.mono ?_;rintro e w1 ⟨rfl,hb1⟩;obtain⟨k0,k1⟩:=HQ0.out w1 hb1;have hl1:w.heap.size<w1.heap.size:=Nat.lt_of_lt_of_le N0 hb1.size;have hfin:=HEND.out 2 w1 hb1 (.slice none 0 0);have r0:(w1.setCell ⟨w.heap.size,0,none⟩ (.slice none 0 0)).cell? ⟨w.heap.size,0,none⟩=some (.slice none 0 0):=World.cell?_setCell_same _ _ _ k0;clear hvs0 hb1;(go_wp2_with fail);refine bodyPost_ret (v:=.tuple #[.agg #[.slice none 0 0],.int .i64 2]) (by simp[results,Tryz.results12,go_sem,r0]) rfl ?_;exact hfin
  ·rw[if_neg hr];(obtain⟨F,rfl⟩:∃F:Nat,fr=F:=⟨fr.toNat,by omega⟩);have hFT:((F:Nat):Int).toNat=F:=rfl;rw[hFT];(have hF1:1<=F:=by omega);(have hF2:F<=512:=by omega);(obtain⟨ZL,hZL⟩:∃ZL,F*16=ZL:=⟨_,rfl⟩);(have hZ8:ZL<=8192:=by omega);(have hzl:(Ap F).length=ZL:=by rw[Ch,hZL]);(have W1:IntKind.i64.wrap ((F:Int)*16)=(ZL:Int):=by rw[IntKind.wrap_i64];omega);have hmk:=run_make_row' (P:=Tryz.prog) 33 75 (.int .u64 0) 8 Tryz.underlying33 Hx rfl .i64 .i64 ZL (by omega) (by omega);have hin:=O4 (Ap F) xs;(have HLEN:Hid (∀l,(Bu (Ap F) l).length=ZL):=A3 <| fun l=>by rw[CI,hzl]);rw[hzl] at hin;have HZ0:Hid (∀i,(Ap F).getD i 0=0):=FI F;have HPL2:Hid (∀g wX,Below wb.heap.size wb wX->At wX g (Ap F)->Calls Tryz.prog 25 #[.agg #[.slice (some ⟨g,0,none⟩) ZL ZL],.slice a xs.length cap] wX fun e w'=>CZ wX (BU (Ap F) xs) e w'):=A3 <| fun g wX hX hc=>by
    have h9:=HPL.out g F wX hX hF2 hc;rw[hzl] at h9;exact h9
   have HZLN:Hid ((Ap F).length=ZL):=hzl;have hpl:=Kl (Ap F) xs;generalize BU (Ap F) xs=PF at *;obtain⟨l,code⟩:=PF;dsimp only at *;have d1:decide ((F:Int)<1)=false:=decide_eq_false (by omega);have d2:decide ((512:Int)<(F:Int))=false:=decide_eq_false (by omega);clear hr HPL hzl hFT hZL;generalize Ap F=ZS at *;by_cases hcode:code=0
   ·subst hcode;rw[if_neg (by decide)];(go_enter Tryz.func12,Tryz.ntmps12);(go_wp2_with fail);rw[<- HWB.out];refine hvs0.mono ?_;rintro e w1 ⟨rfl,hb1⟩;have HB1:Hid (Below wb.heap.size wb w1):=hb1;clear hvs0 hb1;(obtain⟨wM,hwM⟩:∃wM,wM=(w1.alloc (.cells (madeCells #[.int .u64 0] ZL) 75)).alloc (.cells #[.slice (some ⟨w1.heap.size,0,none⟩) ZL ZL] 35):=⟨_,rfl⟩);(have hbM:Below w1.heap.size w1 wM:=by rw[hwM];exact((Below.refl _ _).alloc (Nat.le_refl _) _).alloc (by simp) _);(have hzM:wM.heap.size=w1.heap.size+2:=by rw[hwM];simp);have hrow:C9 wM w1.heap.size ZS:=by
     unfold C9;rw[HZLN.out,hwM];refine World.rowIs.alloc ((World.rowIs_made w1 (.int .u64 0) ZL 75).congr (fun i hi=>?_)) _;rw[HZ0.out]
    (have m0:wM.cell? ⟨w1.heap.size+1,0,none⟩=some (.slice (some ⟨w1.heap.size,0,none⟩) ZL ZL):=by rw[hwM];simp[go_sem]);have HBM:Hid (Below wb.heap.size wb wM):=HB1.out.trans (hbM.mono HB1.out.size);have hp:=HPL2.out w1.heap.size wM HBM.out hrow.c;have HROW:Hid (C9 wM w1.heap.size ZS):=hrow;have HM0:Hid (wM.cell? ⟨w1.heap.size+1,0,none⟩=some (.slice (some ⟨w1.heap.size,0,none⟩) ZL ZL)):=m0;have HZM:Hid (wM.heap.size=w1.heap.size+2):=hzM;have hw1:w.heap.size<w1.heap.size:=Nat.lt_of_lt_of_le N0 HB1.out.size;have HWM:Hid (wM=_):=hwM;(have N2:w1.heap.size+1<wM.heap.size:=by omega);clear hwM hbM hzM hrow m0 HPL2;(go_wp2_with fail);rw[<- HWM.out];refine hp.mono ?_;rintro e wY ⟨aP,cP,rfl,hrP,hbP⟩;dsimp only at hrP;have hmY:=(hbP.cell (p:=⟨w1.heap.size+1,0,none⟩) N2).trans HM0.out;have HRY:Hid (C9 wY w1.heap.size ZS):=HROW.out.below hbP (by omega);have HBY:Hid (Below wb.heap.size wb wY):=HBM.out.trans (hbP.mono HBM.out.size);have HMY:Hid (wY.cell? ⟨w1.heap.size+1,0,none⟩=some (.slice (some ⟨w1.heap.size,0,none⟩) ZL ZL)):=hmY;have hsY:=hbP.size;(have HRP:Hid (∀wX,Aj (fun k=>k=w1.heap.size) wY wX->A6 Az wX wM.heap.size (.slice aP l.length cP) l):=A3 <| fun wX hX=>hrP.tch hX (fun k hk e=>by have:=(hrP.own k (by rw[CC];exact hk)).1;omega));(have N3:w1.heap.size+1<wY.heap.size:=by omega);clear hp hrP hbP hmk;(go_wp2_with fail);(go_loopw [37] (fun iv wr=>∃i:Nat,i<=l.length/\iv=.int .i64 i/\C9 wr w1.heap.size (Bu ZS (l.take i))/\Aj (fun k=>k=w1.heap.size) wY wr) (fun iv _=>l.length-(intOf iv).toNat));(case atStart=>exact⟨0,Nat.zero_le _,rfl,by rw[List.take_zero];exact HRY.out,Aj.refl _⟩);case round =>
     obtain⟨i,hi,rfl,hrow,htc⟩:=hrel;have hmr:wr.cell? ⟨w1.heap.size+1,0,none⟩=some (.slice (some ⟨w1.heap.size,0,none⟩) ZL ZL):=(htc.cell (p:=⟨w1.heap.size+1,0,none⟩) N3 (by show ¬w1.heap.size+1=w1.heap.size;omega)).trans HMY.out;have hszr:=htc.size;by_cases hlt:i<l.length
     ·have hrw:=HRP.out wr htc;obtain⟨g,rfl⟩:∃g,aP=some ⟨g,0,none⟩:=by
       obtain⟨a',c',e,h1⟩:=hrw.form;obtain⟨g,N,f,e2,_⟩:=h1 (by omega);simp only[Value.slice.injEq] at e;exact⟨g,by rw[e.1,e2]⟩
      obtain⟨hgl,x0,x1,x2,x3⟩:=KZ hrw i hlt;have hgg:wM.heap.size<=g:=(hrw.own g rfl).1;have HSU:Hid (Bu ZS (l.take (i+1))=LQ (Bu ZS (l.take i)) (AI Az l i)):=Nc ZS l i hlt;have hmem:AI Az l i∈l:=by
       unfold AI;rw[List.getD_eq_getElem?_getD,List.getElem?_eq_getElem hlt];exact List.getElem_mem hlt
      have hi9:=hin _ hmem;have hWL:=HLEN.out (l.take i);generalize AI Az l i=OO at x0 x1 x2 x3 hi9 HSU hmem;obtain⟨K,A,Bb,W⟩:=OO;dsimp only at x0 x1 x2 x3 hi9;(obtain⟨WS,hWS⟩:∃WS,Bu ZS (l.take i)=WS:=⟨_,rfl⟩);rw[hWS] at hrow HSU hWL;(have L1:(0:Int)<=(i:Int):=by omega);(have L2:(i:Int)<(l.length:Int):=by omega);have HROWR:Hid (C9 wr w1.heap.size WS):=hrow;have HTC:Hid (Aj (fun k=>k=w1.heap.size) wY wr):=htc;by_cases hK:K=1
      ·subst hK;obtain⟨i1,i2⟩:=hi9 rfl;(obtain⟨AN,rfl⟩:∃AN:Nat,A=AN:=⟨A.toNat,by omega⟩);(have HS1:Hid (Bu ZS (l.take (i+1))=WS.set AN W):=A3 <| by rw[HSU.out];rfl);have o0:=hrow.cell (i:=AN) (by omega);have o1:=World.rowIs.frozen hrow AN;generalize WS.getD AN 0=OV at o0;(have L3:(0:Int)<=(AN:Int):=by omega);(have L4:(AN:Int)<(ZL:Int):=by omega);(have L5:w1.heap.size<wr.heap.size:=by omega);(have L6:w1.heap.size+1<wr.heap.size:=by omega);(have HNX:Hid (∀w9,Below wr.heap.size wr w9->C9 (w9.setCell ⟨w1.heap.size,AN,none⟩ (.int .u64 W)) w1.heap.size (WS.set AN W)/\Aj (fun k=>k=w1.heap.size) wY (w9.setCell ⟨w1.heap.size,AN,none⟩ (.int .u64 W))):=A3 <| fun w9 h9=>⟨C9.put (HROWR.out.below h9 L5),(HTC.out.then (Aj.of_below (S:=fun _=>False) h9) (fun k _ hh=>hh.elim)).set _ _ rfl⟩);clear hrow htc hi9 hin HSU hrw hmem hWS;(go_wp2_with fail);go_roundw;(case rel=>exact⟨i+1,by omega,by go_num,by rw[HS1.out];exact(HNX.out wr (Below.refl _ _)).1.below Ao (by simpa using L5),(HNX.out wr (Below.refl _ _)).2.then (Aj.of_below (S:=fun _=>False) Ao) (fun k _ hh=>hh.elim)⟩);case measure=>simp[intOf];omega
      ·(have HS1:Hid (Bu ZS (l.take (i+1))=WS):=A3 <| by rw[HSU.out];unfold LQ;rw[if_neg hK]);(have dK:(K==1)=false:=by simpa using hK);(have HNX:Hid (∀w9,Below wr.heap.size wr w9->C9 w9 w1.heap.size WS/\Aj (fun k=>k=w1.heap.size) wY w9):=A3 <| fun w9 h9=>⟨HROWR.out.below h9 (by omega),HTC.out.then (Aj.of_below (S:=fun _=>False) h9) (fun k _ hh=>hh.elim)⟩);clear hrow htc hi9 hin HSU hrw hmem hWS;(go_wp2_with fail);go_roundw;(case rel=>exact⟨i+1,by omega,by go_num,by rw[HS1.out];exact(HNX.out _ (Ao)).1,(HNX.out _ (Ao)).2⟩);case measure=>simp[intOf];omega
     ·(have ei:i=l.length:=by omega);subst ei;rw[List.take_length] at hrow;obtain⟨k0,k1⟩:=HQ0.out wY HBY.out;have kr0:wr.cell? ⟨w.heap.size,0,none⟩=some (.slice none 0 0):=(htc.cell (p:=⟨w.heap.size,0,none⟩) (by show w.heap.size<_;omega) (by show ¬w.heap.size=_;omega)).trans k0;have kr1:wr.frozen? ⟨w.heap.size,0,none⟩=false:=(htc.frozen (p:=⟨w.heap.size,0,none⟩) (by show w.heap.size<_;omega) (by show ¬w.heap.size=_;omega)).trans k1;(have hl1:w.heap.size<wr.heap.size:=by omega);have r0:(wr.setCell ⟨w.heap.size,0,none⟩ (.slice (some ⟨w1.heap.size,0,none⟩) ZL ZL)).cell? ⟨w.heap.size,0,none⟩=some (.slice (some ⟨w1.heap.size,0,none⟩) ZL ZL):=World.cell?_setCell_same _ _ _ kr0;have hfin:DF w (Bu ZS l,0) (.returned (.tuple #[.agg #[.slice (some ⟨w1.heap.size,0,none⟩) ZL ZL],.int .i64 0])) (wr.setCell ⟨w.heap.size,0,none⟩ (.slice (some ⟨w1.heap.size,0,none⟩) ZL ZL)):=by
       have hl9:=HLEN.out l;have hrw2:C9 (wr.setCell ⟨w.heap.size,0,none⟩ (.slice (some ⟨w1.heap.size,0,none⟩) ZL ZL)) w1.heap.size (Bu ZS l):=hrow.tch (S:=fun k=>k=w.heap.size) ((Aj.refl wr).set _ _ rfl) (by omega);have he:=hrw2.erow (base:=w.heap.size) (by omega) (by rw[hl9];omega);rw[hl9] at he;refine⟨some ⟨w1.heap.size,0,none⟩,ZL,by dsimp only;rw[hl9],by dsimp only;rw[hl9];exact he,?_⟩;have hB0:Below w.heap.size w wY:=HBB.out.trans (HBY.out.mono (by omega));have ht9:=((Aj.of_below (S:=fun k=>w.heap.size<=k) hB0).then htc (fun k _ hh=>by omega)).set ⟨w.heap.size,0,none⟩ (.slice (some ⟨w1.heap.size,0,none⟩) ZL ZL) (Nat.le_refl _);exact ht9.below (fun k hk hh=>by omega)
      clear hrow htc k0 k1;(go_wp2_with fail);refine bodyPost_ret (v:=.tuple #[.agg #[.slice (some ⟨w1.heap.size,0,none⟩) ZL ZL],.int .i64 0]) (by simp[results,Tryz.results12,go_sem,r0]) rfl ?_;exact hfin
   ·rw[if_pos hcode];(have dc:(code != 0)=true:=by simpa using hcode);(go_enter Tryz.func12,Tryz.ntmps12);(go_wp2_with fail);rw[<- HWB.out];refine hvs0.mono ?_;rintro e w1 ⟨rfl,hb1⟩;have HB1:Hid (Below wb.heap.size wb w1):=hb1;clear hvs0 hb1;(obtain⟨wM,hwM⟩:∃wM,wM=(w1.alloc (.cells (madeCells #[.int .u64 0] ZL) 75)).alloc (.cells #[.slice (some ⟨w1.heap.size,0,none⟩) ZL ZL] 35):=⟨_,rfl⟩);(have hbM:Below w1.heap.size w1 wM:=by rw[hwM];exact((Below.refl _ _).alloc (Nat.le_refl _) _).alloc (by simp) _);have hrow:C9 wM w1.heap.size ZS:=by
     unfold C9;rw[HZLN.out,hwM];refine World.rowIs.alloc ((World.rowIs_made w1 (.int .u64 0) ZL 75).congr (fun i hi=>?_)) _;rw[HZ0.out]
    have HBM:Hid (Below wb.heap.size wb wM):=HB1.out.trans (hbM.mono HB1.out.size);have hp:=HPL2.out w1.heap.size wM HBM.out hrow.c;have HWM:Hid (wM=_):=hwM;clear hwM hbM hrow HPL2 hcode;(go_wp2_with fail);rw[<- HWM.out];refine hp.mono ?_;rintro e wY ⟨aP,cP,rfl,hrP,hbP⟩;have hB:=HBM.out.trans (hbP.mono HBM.out.size);obtain⟨k0,k1⟩:=HQ0.out wY hB;have hl1:w.heap.size<wY.heap.size:=Nat.lt_of_lt_of_le N0 hB.size;have hfin:=HEND.out 3 wY hB (.slice none 0 0);have r0:(wY.setCell ⟨w.heap.size,0,none⟩ (.slice none 0 0)).cell? ⟨w.heap.size,0,none⟩=some (.slice none 0 0):=World.cell?_setCell_same _ _ _ k0;clear hp hrP hbP hB hmk;(go_wp2_with fail);refine bodyPost_ret (v:=.tuple #[.agg #[.slice none 0 0],.int .i64 3]) (by simp[results,Tryz.results12,go_sem,r0]) rfl ?_;exact hfin
theorem K8 (a:Option Addr) (cap b:Nat) (xs:List AF) (w:World) (hn:xs.length<=1048576) (hwf:∀i,i<xs.length->RY (AI A8 xs i)) (h:A6 A8 w b (.slice a xs.length cap) xs) : Calls Tryz.prog 69 #[.slice a xs.length cap] w fun e w'=>e=.returned (.int .i64 (RJ xs))/\Below w.heap.size w w':=by
 have hv:=Et a cap b xs w hn hwf h;have HH:Hid (∀wX,VS xs->Below w.heap.size w wX->Calls Tryz.prog 71 #[.slice a xs.length cap] wX fun e w'=>∃g c,e=.returned (.slice (some ⟨g,0,none⟩) 4096 c)/\A6 Db w' wX.heap.size (.slice (some ⟨g,0,none⟩) 4096 c) (BC xs 4096)/\Below wX.heap.size wX w'):=fun wX h1 hX=>H4 a cap b xs wX hn h1 (h.below hX)
 clear h hwf;cases hvb:Eh xs<;>rw[hvb] at hv
 ·rw[Vj hvb];clear hvb HH;go_enter Tryz.func69,Tryz.ntmps69
  go_wp2_with fail
  refine hv.mono ?_;rintro e w1 ⟨rfl,hb1⟩;go_wp2_with fail
  go_ret;exact⟨rfl,hb1⟩
 ·rw[Ql hvb];have hvs:=VS.of_true hvb;clear hvb;go_enter Tryz.func69,Tryz.ntmps69
  go_wp2_with fail
  refine hv.mono ?_;rintro e w1 ⟨rfl,hb1⟩;have hh:=HH.out w1 hvs hb1;have HB1:Hid _:=hb1;clear hv hvs hb1 HH;go_wp2_with fail
  refine hh.mono ?_;rintro e w2 ⟨g,c,rfl,hr2,hb2⟩;have hw:=Fl g c w1.heap.size (BC xs 4096) w2 (Ba xs 4096) (by rw[Ba];exact hr2);have HB2:Hid (Below w.heap.size w w2):=HB1.out.trans (hb2.mono HB1.out.size);clear hh hr2 hb2;go_wp2_with fail
  refine hw.mono ?_;rintro e w3 ⟨g3,c3,rfl,hr3,hb3⟩;have b3:Below w.heap.size w w3:=HB2.out.trans (hb3.mono HB2.out.size);clear hw hr3 hb3;go_wp2_with fail
  go_ret;exact⟨rfl,b3⟩
end Go.Proofs.YtnmhkgmmpkjjeaaGreat
namespace Go.Proofs.YtnmhkgmmpkjjeaaGreat
open Go.ChangeShapes Go.WideShapes Go.ChangeAt Go.RowKit
set_option linter.unusedVariables false
set_option linter.unusedSimpArgs false
set_option maxRecDepth 100000
open Go.ChangeShapes Go.WideShapes Go.ChangeAt Go.RowKit Go.Joins
theorem Kz (ta tb:AS) (fr:Int) (w:World) (ha:ta.length<=3000000) (hb:tb.length<=3000000) (hf0:-9223372036854775808<=fr) (hf1:fr<=9223372036854775807) : Calls Tryz.prog 9 #[.string (bs ta),.string (bs tb),.int .i64 fr] w fun e w'=>Cx w (QV ta tb fr) e w':=by
 have ka:=(FZ ta).1;have kb:=(FZ tb).1;refine LD (bs ta) (bs tb) fr (A9 ta).1 (A9 tb).1 (A9 ta).2.1 (A9 ta).2.2 (A9 tb).2.1 (A9 tb).2.2 (An (A9 ta).1 fr).1 (An (A9 ta).1 fr).2 (BU (An (A9 ta).1 fr).1 (A9 tb).1).1 (BU (An (A9 ta).1 fr).1 (A9 tb).1).2 w (Mo ta) (Mo tb) (OU _ _) (QW _ _) (fun h=>(MA _ _ h).1) (fun wX=>?_) (fun wX=>?_) (fun a c b wX hx=>?_) (fun g cz a c b wX h0 hg hcz hx=>?_)
 ·refine(Ec ta wX (by omega)).mono ?_;rintro e w' ⟨g,c,h1,h2,h3⟩;exact⟨_,c,h1,h2,h3⟩
 ·refine(Ec tb wX (by omega)).mono ?_;rintro e w' ⟨g,c,h1,h2,h3⟩;exact⟨_,c,h1,h2,h3⟩
 ·exact Ky a c b _ fr wX (by omega) hf0 hf1 (F5 ta) hx
 ·exact IY g _ cz a c b _ wX (by have:=Jt (A9 ta).1 fr;omega) (MA _ _ h0).2 hg (by omega) (F5 tb) hx
theorem VH (xs:List AF):0<=RJ xs/\RJ xs<=273:=WN xs
theorem MF (a:Option Addr) (cap:Nat) (cs:List Int) (w:World) (hc:Of cs) (hs:Qt w a cs) : Calls Tryz.prog 8 #[.slice a cs.length cap] w fun e w'=>∃(ta tb:AS) (N:Int),e=.returned (.tuple #[.string (bs ta),.string (bs tb),.int .i64 N])/\(ta.length<=3000000/\tb.length<=3000000/\-10000<=N/\N<=10000)/\Below w.heap.size w w':=by
 have hr:=(H6 cs).2;refine LI _ w (Pt _ (Cq cs 0 24) (Jf cs 1) (Gz cs 1) (1+5*Cs cs) (1+5*Cs cs) w ?_ ?_ ?_ ?_ ?_ ?_ ?_ ?_)
 ·have:=Lh cs 1 hc (by omega);unfold Jf;have hg:Hd.length=32:=rfl;split
  ·rw[List.length_append];omega
  ·omega
 ·have:=KQ cs 1 hc (by omega);unfold Gz;have hg:Hd.length=32:=rfl;split
  ·rw[List.length_append];omega
  ·omega
 ·exact Ep a cap cs 0 24 w hc (by omega) (by omega) hs
 ·exact fun wX hX=>MT a cap cs 1 wX hc (by omega) (hs.below hX)
 ·exact fun wX hX=>LN a cap cs 1 wX hc (by omega) (hs.below hX)
 ·exact fun t wX ht=>Ec t wX (by omega)
 ·intro ta tb g c b g2 c2 b2 wX hX h1 h2;have ka:=(FZ ta).1;have kb:=(FZ tb).1;have bX:=EQ cs (1+5*Cs cs) 16 (by omega) hc (by omega);exact Mb _ _ _ (1+5*Cs cs) (Cq cs (1+5*Cs cs) 16) (RJ (A9 ta).1) (RJ (A9 tb).1) wX (by omega) bX (VH _) (VH _) (Ep a cap cs _ 16 wX hc (by omega) (by omega) (hs.below hX)) (fun wY hY=>K8 _ c b _ wY (by omega) (F5 ta) (h1.below hY)) (fun wY hY=>K8 _ c2 b2 _ wY (by omega) (F5 tb) (h2.below hY))
 ·intro t wX hX ht;have:=Pm a cap cs (1+5*Cs cs+1) t wX hc (by omega) ht (hs.below hX);exact this
theorem T4 (a:Option Addr) (cap:Nat) (cs:List Int) (w:World) (hc:Of cs) (hs:Qt w a cs) : Calls Tryz.prog 7 #[.slice a cs.length cap] w fun e w'=>e=.returned (.bool true)/\Below w.heap.size w w':=by
 refine UC a cs.length cap w hc.1 (MF a cap cs w hc hs) (fun ta tb N wX h1 h2 h3 h4=>Kz ta tb N wX h1 h2 (by omega) (by omega)) (fun t wX ht=>Ec t wX (by omega)) (fun t N g c b wX h1 h2 h=>?_) (fun Z t g c g2 c2 b wX h1 h2 h3 h4 h5=>?_)
 ·have:=(FZ t).1;exact Ko _ c b _ N wX (by omega) (by omega) (by omega) (F5 t) h
 ·have:=(FZ t).1;exact Hy g Z c _ c2 b _ wX (by omega) h3 h2 h4 (by omega) (F5 t) h5
theorem Ux {H:Type} {enc:TypeId×Value->H} {W:World} {sp:Nat->Bool} {fuel:Nat} {v:Value} {y:DataW H×List MemPlace} (hf:DataW.trod enc Tryz.prog W 0 sp true fuel 22 [v]=some y) : ∃a cs cap,v=.slice a (cs:List Int).length cap/\Qt W a cs/\cs.length<=9223372036854775807/\∀i,0<=cs.getD i 0/\cs.getD i 0<256:=by
 rcases open_ints Tryz.underlying22 Tryz.underlying5 (by kernel_rfl) hf with⟨hcs,_⟩|⟨x,l,c,zs,hcs,_,hl,hm,hz,_,hcell,hwz⟩
 ·simp at hcs;subst hcs;exact⟨none,[],0,rfl,fun h=>absurd h (by simp),by simp,fun i=>by simp⟩
 ·simp at hcs;subst hcs;have hlz:l<=zs.length:=by rw[hz];split<;>omega
  have hlen:(zs.take l).length=l:=by rw[List.length_take];omega
  have hget:∀i,i<l->(zs.take l).getD i 0=zs.getD i 0:=fun i hi=>by
   rw[List.getD_eq_getElem?_getD,List.getD_eq_getElem?_getD,List.getElem?_take,if_pos hi]
  unfold maxLen at hm;refine⟨some x,zs.take l,c,by rw[hlen],fun h0=>?_,by omega,fun i=>?_⟩
  ·rw[hlen] at h0;obtain⟨b,off,rfl,hc⟩:=ints_at hcell (by omega);refine⟨b,off,rfl,World.block_lt_of_cell? W _ (hc 0 (by omega)),fun i hi=>?_⟩;rw[hlen] at hi;rw[hget i hi];exact hc i (by omega)
  ·by_cases hi:i<(zs.take l).length
   ·have hmem:(zs.take l).getD i 0∈zs:=by
     rw[List.getD_eq_getElem?_getD,List.getElem?_eq_getElem hi];exact List.mem_of_mem_take (List.getElem_mem hi)
    have:=bounds_u8 (hwz _ hmem);omega
   ·rw[List.getD_eq_getElem?_getD,List.getElem?_eq_none (by omega)];simp
end Go.Proofs.YtnmhkgmmpkjjeaaGreat
namespace Go.Proofs.YtnmhkgmmpkjjeaaGreat
open Go.ChangeShapes Go.WideShapes Go.ChangeAt Go.RowKit Go.Joins
set_option linter.unusedVariables false
attribute [local go_sem ↓] Go.wp_at_zero Go.wp_at_succ
theorem UF (a:Option Addr) (n cap:Nat) (hb:1048576<n) (hm:n<=9223372036854775807) (w:World) : Calls Tryz.prog 7 #[.slice a n cap] w fun e w'=>e=.returned (.bool true)/\Below w.heap.size w w':=by
 have hK:(1048576:Int)<(n:Int):=by omega
 refine IE 132 Tryz.func7 rfl (by rfl) (by simp) ?_;intro tm hsz hla;have s0:=hla 0 (by simp);clear hla;simp only[List.getElem_toArray,List.getElem_cons_zero] at s0;go_upto_if 28 with fail
 refine cT (by go_simp) ?_;go_wp2_with fail
 exact bodyPost_ret (v:=.bool true) (by simp[results,Tryz.results7,go_sem,hsz]) rfl ⟨rfl,Below.refl _ _⟩
theorem UB (a:Option Addr) (cap:Nat) (cs:List Int) (w:World) (hs:Qt w a cs) (hm:cs.length<=9223372036854775807) (hr:∀i,0<=cs.getD i 0/\cs.getD i 0<256) : Calls Tryz.prog 7 #[.slice a cs.length cap] w fun e w'=>e=.returned (.bool true)/\Below w.heap.size w w':=by
 by_cases hb:cs.length<=1048576
 ·exact T4 a cap cs w ⟨hb,hr⟩ hs
 ·exact UF a cs.length cap (by omega) hm w
theorem Ui:ownKnob Tryz.prog.godebug=none:=by kernel_rfl
theorem OZ:laidOutB Tryz.prog=true:=by kernel_rfl
set_option maxRecDepth 100000 in
theorem Pg (os:Os) (started:os.Started) (H:Type) (enc:TypeId×Value->H) : ReturnsInHanded {} Tryz.checked os 7 .any (Rows.fnChainSpec.pre6 enc Tryz.prog Tryz.f7 Rows.fnChainRow.domain false) (Rows.fnChainSpec.post enc Tryz.prog Tryz.f7 false true false false):=by
 refine returnsInHanded_of_change (C:=Tryz.checked) Ui started (by kernel_rfl) Tryz.func7
  (ChangeSpec.witness6 (enc:=enc) (C:=Tryz.checked) false ⟨#[],#[.slice none 0 0],[]⟩ 8 (by kernel_rfl) (by kernel_rfl) (by kernel_rfl) (by kernel_rfl)) ?_
 intro W base args ds gs before hval0 hW hcnd _;have hval:∀(j:Nat) t v,Tryz.f7.params[j]?=some t->args[j]?=some v->Value.okWide Tryz.prog W .any base t v:=hval0
 have hW':=hW;obtain⟨p,q,hA0,hV,rfl,hfz,hnd⟩:=hW;have hA:DataW.TrodAll enc Tryz.prog W 0 (fun _=>true) true Tryz.f7.params.toList args.toList ds p:=hA0;rw[Tryz.params7] at hA hval;obtain⟨v0,vs0,d0,ds0,p0,q0,hargs,rfl,rfl,h0,r0⟩:=trodAll_cons hA;obtain⟨rfl,rfl,rfl⟩:=trodAll_nil r0;obtain rfl:args=#[v0]:=by cases args;simp_all
 obtain⟨rfl,rfl⟩:=trodVars_none hV;have k0:=h0;have lt0:∀x∈p0,x.block<W.heap.size:=by obtain⟨m,hm⟩:=k0;exact DataW.trod_lt m _ _ _ hm
 obtain⟨a,cs,cap,rfl,hsrc,hm,hr⟩:∃a cs cap,v0=.slice a (cs:List Int).length cap/\Qt W a cs/\cs.length<=9223372036854775807/\∀i,0<=cs.getD i 0/\cs.getD i 0<256:=by
  obtain⟨a0,l0,c0,rfl⟩:=okWide_slice Tryz.underlying22 (hval 0 22 v0 rfl rfl);obtain⟨fuel,hf⟩:=h0;have hf':DataW.trod enc Tryz.prog W 0 (fun _=>true) true fuel 22 [.slice a0 l0 c0]=some (d0,p0):=hf;exact Ux hf'
 clear hA0 hval0;refine(UB a cap cs W hsrc hm hr).mono fun e W' ⟨he,bel⟩=>?_
 subst he;exact⟨_,rfl,_,_,_,[],_,[],hW',trodAll_mk1 (shut_bool Tryz.underlying4 _),(trodAll_cons_mk (Below.trod OZ (by kernel_rfl) (of_decide_eq_true (by kernel_rfl)) k0 bel lt0) trodAll_mk0),rfl,bel.frame _,fun h=>by cases h⟩
theorem fch_proved:Rows.FnChainSaid :=
 OpenClaim.holds_of_wide 7 Tryz.f7 rfl rfl rfl rfl rfl rfl rfl ⟨rfl,rfl,rfl,rfl,rfl⟩ rfl rfl rfl rfl rfl (by kernel_rfl) Tryz.func7 (by kernel_rfl)
  (of_decide_eq_true (by kernel_rfl)) (by unfold Func.isWrapper;first|(rw[if_pos (by decide +kernel)];kernel_rfl)|(rw[if_neg (by decide +kernel)];exact⟨rfl,rfl⟩))
  (fun os started H enc _=>Pg os started H enc)
#print axioms fch_proved
end Go.Proofs.YtnmhkgmmpkjjeaaGreat
