import Derived.Test.YtnmhkgmmpkjjeaaGreatL36
namespace Go.Proofs.YtnmhkgmmpkjjeaaGreat
open Go.ChangeShapes Go.WideShapes Go.ChangeAt Go.RowKit
set_option linter.unusedVariables false
set_option maxRecDepth 100000
attribute [local go_sem ↓] Go.wp_at_zero Go.wp_at_succ
attribute [local go_sem] CY Di Dm FP Du Cc
set_option maxHeartbeats 8000000 in
theorem WK (a:Option Addr) (c:Nat) (all:List St) (M:AS) (A B P:Int) (X:Bool) (w:World) (hle:all.length<=1000) (hr:Oh w a all) (hall:∀t∈all,EX t) (hs:EX ⟨3,M,A,B,P,X⟩) : Calls Tryz.prog 37 #[.slice a all.length c,Bn ⟨3,M,A,B,P,X⟩] w fun e w'=>e=.returned (.int .i64 (BP all ⟨3,M,A,B,P,X⟩))/\Below w.heap.size w w':=by
 obtain⟨i0,hi,hz0,hz1q,hz2q⟩:=info_parts Pn;obtain⟨R,hR⟩:∃R,CF all M=R:=⟨_,rfl⟩
 obtain⟨Z,hZ⟩:∃Z,Fy all ⟨3,M,A,B,P,X⟩=Z:=⟨_,rfl⟩
 have hZb:=JU hall hs;rw[hZ] at hZb;obtain⟨k2,m2,a2,b2,p2,x2⟩:=R;have HO:Hid (∀wX,Below w.heap.size w wX->Calls Tryz.prog 100 #[.slice a all.length c,.string (bs M)] wX fun e w'=>e=.returned (.agg #[.int .i64 k2,.string (bs m2),.int .i64 a2,.int .i64 b2,.int .i64 p2,.bool x2])/\Below wX.heap.size wX w'):=A2 fun wX hX=>by
  have:=DY a c all M wX hle (hr.below hX);rw[hR] at this;exact this
 have HC:Hid (∀wX,Below (w.alloc (.cells #[.int .i64 3,.string (bs M),.int .i64 A,.int .i64 B,.int .i64 P,.bool X] 96)).heap.size (w.alloc (.cells #[.int .i64 3,.string (bs M),.int .i64 A,.int .i64 B,.int .i64 P,.bool X] 96)) wX->Oh wX a all/\wX.cell? ⟨w.heap.size,0,none⟩=some (.int .i64 3)/\wX.cell? ⟨w.heap.size,1,none⟩=some (.string (bs M))/\wX.cell? ⟨w.heap.size,2,none⟩=some (.int .i64 A)/\wX.cell? ⟨w.heap.size,3,none⟩=some (.int .i64 B)/\wX.cell? ⟨w.heap.size,4,none⟩=some (.int .i64 P)/\wX.cell? ⟨w.heap.size,5,none⟩=some (.bool X)):=A2 fun wX hX=>by
  refine⟨(hr.below Ao).below hX,?_,?_,?_,?_,?_,?_⟩<;>(rw[hX.cell (by simp)];simp)
 have HS:Hid (∀wX,Below (w.alloc (.cells #[.int .i64 3,.string (bs M),.int .i64 A,.int .i64 B,.int .i64 P,.bool X] 96)).heap.size (w.alloc (.cells #[.int .i64 3,.string (bs M),.int .i64 A,.int .i64 B,.int .i64 P,.bool X] 96)) wX->Calls Tryz.prog 102 #[.slice a all.length c,.agg #[.int .i64 3,.string (bs M),.int .i64 A,.int .i64 B,.int .i64 P,.bool X]] wX fun e w'=>e=.returned (.int .i64 Z)/\Below wX.heap.size wX w'):=A2 fun wX hX=>by
  have:=Fb a c all ⟨3,M,A,B,P,X⟩ wX hle (HC.out wX hX).1;rw[hZ] at this;exact this
 have HSA:Hid (∀(s1:St) wX,Below (w.alloc (.cells #[.int .i64 3,.string (bs M),.int .i64 A,.int .i64 B,.int .i64 P,.bool X] 96)).heap.size (w.alloc (.cells #[.int .i64 3,.string (bs M),.int .i64 A,.int .i64 B,.int .i64 P,.bool X] 96)) wX->Calls Tryz.prog 102 #[.slice a all.length c,Bn s1] wX fun e w'=>e=.returned (.int .i64 (Fy all s1))/\Below wX.heap.size wX w'):=A2 fun s1 wX hX=>Fb a c all s1 wX hle (HC.out wX hX).1
 have HOK:Hid _:=hall;have HSK:Hid _:=hs;have HBW:Hid (Below w.heap.size w (w.alloc (.cells #[.int .i64 3,.string (bs M),.int .i64 A,.int .i64 B,.int .i64 P,.bool X] 96))):=Ao;have HAZ:Hid ((0<=A/\A<1000000)/\(0<=Z/\Z<1000000)):=⟨⟨hs.a0,hs.a1⟩,hZb⟩;have hA1:0<=A/\A<1000000:=⟨hs.a0,hs.a1⟩;have HX1:Hid (BP all ⟨3,M,A,B,P,X⟩=if Z==0||decide (4096<A+Z) then 7 else if all.any (Dz all A Z) then 8 else 0):=A2 <| by
  show (if (3:Int)==0 then (4:Int) else if (3:Int)==1 then _ else if (3:Int)==2&&(CF all M).kind==0 then 6 else _)=_;rw[if_neg (by decide),if_neg (by decide),hR,hZ];rfl
 have HSZ2:Hid ((w.alloc (.cells #[.int .i64 3,.string (bs M),.int .i64 A,.int .i64 B,.int .i64 P,.bool X] 96)).heap.size=w.heap.size+1):=A2 (by simp);clear hr hall hR hs hZ;unfold Bn;dsimp only;by_cases hZ0:Z=0
 ·have HV:Hid (BP all ⟨3,M,A,B,P,X⟩=7):=A2 <| by rw[HX1.out,if_pos (by simp[hZ0])]
  have e0:(Z==0)=true:=by simp[hZ0]
  clear hZ0;go_enter Tryz.func37,Tryz.ntmps37
  go_wp2_with fail
  refine(HO.out _ Ao).mono ?_;rintro e w1 ⟨rfl,hb1⟩;obtain⟨-,q0,q1,q2,q3,q4,q5⟩:=HC.out w1 hb1;have hz1:w.heap.size<w1.heap.size:=by have:=hb1.size;rw[HSZ2.out] at this;omega
  go_wp2_with fail
  have hb1':Below (w.alloc (.cells #[.int .i64 3,.string (bs M),.int .i64 A,.int .i64 B,.int .i64 P,.bool X] 96)).heap.size (w.alloc (.cells #[.int .i64 3,.string (bs M),.int .i64 A,.int .i64 B,.int .i64 P,.bool X] 96)) (w1.alloc (.cells #[.int .i64 k2,.string (bs m2),.int .i64 a2,.int .i64 b2,.int .i64 p2,.bool x2] 96)):=hb1.alloc hb1.size _;refine(HS.out _ hb1').mono ?_;rintro e w2 ⟨rfl,hb2⟩;have hz3:w1.heap.size<w2.heap.size:=by have:=hb2.size;simp at this;omega
  have HB2:Hid (Below (w.alloc (.cells #[.int .i64 3,.string (bs M),.int .i64 A,.int .i64 B,.int .i64 P,.bool X] 96)).heap.size (w.alloc (.cells #[.int .i64 3,.string (bs M),.int .i64 A,.int .i64 B,.int .i64 P,.bool X] 96)) w2):=A2 (hb1'.trans (hb2.mono (by rw[HSZ2.out];simp;omega)));have HKN:Hid (w2.cell? ⟨w1.heap.size,0,none⟩=some (.int .i64 k2)/\w2.cell? ⟨w1.heap.size,5,none⟩=some (.bool x2)):=A2 <| by
   refine⟨?_,?_⟩<;>(rw[hb2.cell (by simp)];simp)
  clear hb1 hb1' hb2 q0 q1 q2 q3 q4 q5;obtain⟨-,q0,q1,q2,q3,q4,q5⟩:=HC.out w2 HB2.out;obtain⟨n0,n5⟩:=HKN.out;go_wp2_with fail
  go_ret;refine⟨by rw[HV.out];rfl,?_⟩;exact HBW.out.trans (HB2.out.mono (by simp))
 have e0:(Z==0)=false:=by simp[hZ0]
 by_cases hL:4096<A+Z
 ·have HV:Hid (BP all ⟨3,M,A,B,P,X⟩=7):=A2 <| by rw[HX1.out,if_pos (by simp[hL])]
  clear hZ0;go_enter Tryz.func37,Tryz.ntmps37
  go_wp2_with fail
  refine(HO.out _ Ao).mono ?_;rintro e w1 ⟨rfl,hb1⟩;obtain⟨-,q0,q1,q2,q3,q4,q5⟩:=HC.out w1 hb1;have hz1:w.heap.size<w1.heap.size:=by have:=hb1.size;rw[HSZ2.out] at this;omega
  go_wp2_with fail
  have hb1':Below (w.alloc (.cells #[.int .i64 3,.string (bs M),.int .i64 A,.int .i64 B,.int .i64 P,.bool X] 96)).heap.size (w.alloc (.cells #[.int .i64 3,.string (bs M),.int .i64 A,.int .i64 B,.int .i64 P,.bool X] 96)) (w1.alloc (.cells #[.int .i64 k2,.string (bs m2),.int .i64 a2,.int .i64 b2,.int .i64 p2,.bool x2] 96)):=hb1.alloc hb1.size _;refine(HS.out _ hb1').mono ?_;rintro e w2 ⟨rfl,hb2⟩;have hz3:w1.heap.size<w2.heap.size:=by have:=hb2.size;simp at this;omega
  have HB2:Hid (Below (w.alloc (.cells #[.int .i64 3,.string (bs M),.int .i64 A,.int .i64 B,.int .i64 P,.bool X] 96)).heap.size (w.alloc (.cells #[.int .i64 3,.string (bs M),.int .i64 A,.int .i64 B,.int .i64 P,.bool X] 96)) w2):=A2 (hb1'.trans (hb2.mono (by rw[HSZ2.out];simp;omega)));have HKN:Hid (w2.cell? ⟨w1.heap.size,0,none⟩=some (.int .i64 k2)/\w2.cell? ⟨w1.heap.size,5,none⟩=some (.bool x2)):=A2 <| by
   refine⟨?_,?_⟩<;>(rw[hb2.cell (by simp)];simp)
  clear hb1 hb1' hb2 q0 q1 q2 q3 q4 q5;obtain⟨-,q0,q1,q2,q3,q4,q5⟩:=HC.out w2 HB2.out;obtain⟨n0,n5⟩:=HKN.out;go_wp2_with fail
  go_ret;refine⟨by rw[HV.out];rfl,?_⟩;exact HBW.out.trans (HB2.out.mono (by simp))
 have hL':A+Z<=4096:=by omega
 have HX2:Hid (BP all ⟨3,M,A,B,P,X⟩=if all.any (Dz all A Z) then 8 else _):=A2 <| by rw[HX1.out,if_neg (by simp[hL,hZ0])]
 clear hZ0 hL;go_enter Tryz.func37,Tryz.ntmps37
 go_wp2_with fail
 refine(HO.out _ Ao).mono ?_;rintro e w1 ⟨rfl,hb1⟩;obtain⟨-,q0,q1,q2,q3,q4,q5⟩:=HC.out w1 hb1;have hz1:w.heap.size<w1.heap.size:=by have:=hb1.size;rw[HSZ2.out] at this;omega
 go_wp2_with fail
 have hb1':Below (w.alloc (.cells #[.int .i64 3,.string (bs M),.int .i64 A,.int .i64 B,.int .i64 P,.bool X] 96)).heap.size (w.alloc (.cells #[.int .i64 3,.string (bs M),.int .i64 A,.int .i64 B,.int .i64 P,.bool X] 96)) (w1.alloc (.cells #[.int .i64 k2,.string (bs m2),.int .i64 a2,.int .i64 b2,.int .i64 p2,.bool x2] 96)):=hb1.alloc hb1.size _;refine(HS.out _ hb1').mono ?_;rintro e w2 ⟨rfl,hb2⟩;have hz3:w1.heap.size<w2.heap.size:=by have:=hb2.size;simp at this;omega
 have HB2:Hid (Below (w.alloc (.cells #[.int .i64 3,.string (bs M),.int .i64 A,.int .i64 B,.int .i64 P,.bool X] 96)).heap.size (w.alloc (.cells #[.int .i64 3,.string (bs M),.int .i64 A,.int .i64 B,.int .i64 P,.bool X] 96)) w2):=A2 (hb1'.trans (hb2.mono (by rw[HSZ2.out];simp;omega)));have HKN:Hid (w2.cell? ⟨w1.heap.size,0,none⟩=some (.int .i64 k2)/\w2.cell? ⟨w1.heap.size,5,none⟩=some (.bool x2)):=A2 <| by
  refine⟨?_,?_⟩<;>(rw[hb2.cell (by simp)];simp)
 clear hb1 hb1' hb2 q0 q1 q2 q3 q4 q5;obtain⟨-,q0,q1,q2,q3,q4,q5⟩:=HC.out w2 HB2.out;obtain⟨n0,n5⟩:=HKN.out;go_wp2_with fail
 clear n0 q0 q1 q2 q3 q4 q5 n5;have HBX:Hid (∀wX,Below w2.heap.size w2 wX->Below (w.alloc (.cells #[.int .i64 3,.string (bs M),.int .i64 A,.int .i64 B,.int .i64 P,.bool X] 96)).heap.size (w.alloc (.cells #[.int .i64 3,.string (bs M),.int .i64 A,.int .i64 B,.int .i64 P,.bool X] 96)) wX):=A2 fun wX hX=>HB2.out.trans (hX.mono (by have:=HB2.out.size;omega))
 have hz4:w.heap.size<w2.heap.size:=by omega
 go_loopw [8] (fun iv wr=>∃(k:Nat),k<=all.length/\iv=.int .i64 k/\Hid (∀j,j<k->Dz all A Z (B7 all j)=false)/\Below w2.heap.size w2 wr) (fun iv _=>all.length-(intOf iv).toNat)
 case atStart=>exact⟨0,Nat.zero_le _,rfl,A2 fun j hj=>absurd hj (by omega),Below.refl _ _⟩
 case round =>
  obtain⟨k,hk,rfl,HJ,hbel⟩:=hrel;have HB:Hid _:=hbel;have hsz:=hbel.size;clear hbel;by_cases hlt:k<all.length
  ·obtain⟨hR0,-,-,cA,-,-,-⟩:=HC.out wr (HBX.out wr HB.out);obtain⟨g,rfl,hcc⟩:=hR0 (by omega);have HKK0:Hid (∀wX,Below w2.heap.size w2 wX->Tv wX g k (B7 all k)):=A2 fun wX hX=>by
    obtain⟨hR1,_⟩:=HC.out wX (HBX.out wX hX);obtain⟨g',e,hcc'⟩:=hR1 (by omega);simp only[Option.some.injEq,Addr.mk.injEq,and_true] at e;rw[e];exact hcc' k hlt
   obtain⟨hg,c0,c1,c2,c3,c4,c5⟩:=hcc k hlt;have HOKk:Hid _:=Hq HOK.out k;(have HSZ1a:Hid _:=fun wX (hX:Below w2.heap.size w2 wX)=>HSA.out (B7 all k) wX (HBX.out wX hX));(obtain⟨Y,hY⟩:∃Y,Fy all (B7 all k)=Y:=⟨_,rfl⟩);have hYb:=JU HOK.out HOKk.out;rw[hY] at hYb HSZ1a;(obtain⟨s1,hs1⟩:∃s1,B7 all k=s1:=⟨_,rfl⟩);rw[hs1] at c0 c1 c2 c3 c4 c5 HOKk HKK0 HSZ1a hY;obtain⟨K1,M1,A1,B1,P1,X1⟩:=s1;dsimp only at c0 c1 c2 c3 c4 c5;have HE:Hid _:=hs1;have HY:Hid _:=hY;have HSZ1:Hid (∀wX,Below w2.heap.size w2 wX->Calls Tryz.prog 102 #[.slice (some ⟨g,0,none⟩) all.length c,.agg #[.int .i64 K1,.string (bs M1),.int .i64 A1,.int .i64 B1,.int .i64 P1,.bool X1]] wX fun e w'=>e=.returned (.int .i64 Y)/\Below wX.heap.size wX w'):=HSZ1a;(have HKK:Hid (∀wX,Below w2.heap.size w2 wX->(fun wX=>wX.cell? ⟨g,k*6,none⟩=some (.int .i64 K1)/\wX.cell? ⟨g,k*6+1,none⟩=some (.string (bs M1))/\wX.cell? ⟨g,k*6+2,none⟩=some (.int .i64 A1)/\wX.cell? ⟨g,k*6+3,none⟩=some (.int .i64 B1)/\wX.cell? ⟨g,k*6+4,none⟩=some (.int .i64 P1)/\wX.cell? ⟨g,k*6+5,none⟩=some (.bool X1)/\wX.cell? ⟨w.heap.size,2,none⟩=some (.int .i64 A)) wX):=A2 fun wX hX=>⟨(HKK0.out wX hX).k,(HKK0.out wX hX).n,(HKK0.out wX hX).a,(HKK0.out wX hX).b,(HKK0.out wX hX).p,(HKK0.out wX hX).e,(HC.out wX (HBX.out wX hX)).2.2.2.1⟩);have HM:Hid _:=Ha A Z A1 Y HAZ.out.1 HAZ.out.2 ⟨HOKk.out.a0,HOKk.out.a1⟩ hYb;(have L1:(0:Int)<=(k:Int):=by omega);(have L2:(k:Int)<(all.length:Int):=by omega);clear hs1 hcc hR0 hY HSZ1a;cases hK1:K1==1
   ·(have hK1':(K1 != 1)=true:=by simpa using hK1);cases hm:KX A Z A1 Y<;>rw[hm] at HM
    ·(have HF:Hid (Dz all A Z ⟨K1,M1,A1,B1,P1,X1⟩=false):=A2 <| by unfold Dz;rw[hK1,HY.out];exact hm);clear hm;(go_wp2_with fail);refine wp_region_held_drew (S:=(fun wX=>wX.cell? ⟨g,k*6,none⟩=some (.int .i64 K1)/\wX.cell? ⟨g,k*6+1,none⟩=some (.string (bs M1))/\wX.cell? ⟨g,k*6+2,none⟩=some (.int .i64 A1)/\wX.cell? ⟨g,k*6+3,none⟩=some (.int .i64 B1)/\wX.cell? ⟨g,k*6+4,none⟩=some (.int .i64 P1)/\wX.cell? ⟨g,k*6+5,none⟩=some (.bool X1)/\wX.cell? ⟨w.heap.size,2,none⟩=some (.int .i64 A))) (by kernel_rfl) (HKK.out _ HB.out.drew) (fun hHeld=>?_);refine tk 0 ?_;refine tk 1 ?_;refine tk 2 ?_;refine tk 3 ?_;refine tk 4 ?_;refine tk 5 ?_;refine tk 6 ?_;refine tk 7 ?_;refine tk 8 ?_;refine tk 9 ?_;refine tk 10 ?_;refine tk 11 ?_;refine tk 12 ?_;refine tk 13 ?_;refine tk 14 ?_;refine tk 15 ?_;refine tk 16 ?_;refine tk 17 ?_;refine tk 18 ?_;refine tk 19 ?_;refine wpAnyH_ready (rs:=[20]) (by kernel_rfl) (by simp) ?_;refine AllReadyH.cons rfl (fun K hK=>?_) AllReadyH.nil;go_simp;(go_at_call 102);refine(HSZ1.out _ HB.out.drew).mono ?_;rintro e w4 ⟨rfl,hb4⟩;have HB4:Hid (Below w2.heap.size w2 w4):=A2 (HB.out.drew.trans (hb4.mono (by have:=HB.out.size;simp;omega)));clear hb4;(go_wp2_with fail);refine hK.out _ _ (HKK.out _ HB4.out) (fun hHeld2=>?_);clear hK K;refine wpAnyH_ready (rs:=[21]) (by kernel_rfl) (by simp) ?_;refine AllReadyH.cons rfl (fun K hK=>?_) AllReadyH.nil;go_simp;(go_at_call 101);refine(HM.out _).mono ?_;rintro e w5 ⟨rfl,hw5⟩;obtain rfl:=hw5.symm;(go_wp2_with fail);refine hK.out _ _ (HKK.out _ HB4.out) (fun hHeld3=>?_);clear hK K;refine tk 22 ?_;refine wpAnyH_done (by kernel_rfl) ?_ _;(go_wp2_with fail);go_roundw
     case rel=>exact⟨k+1,by omega,by go_num,A2 fun j hj=>by
       by_cases e:j=k
       ·rw[e,HE.out];exact HF.out
       ·exact HJ.out j (by omega),HB4.out⟩
     case measure=>first|(simp[intOf];done)|(simp[intOf];omega)
    ·have HV:Hid (BP all ⟨3,M,A,B,P,X⟩=8):=A2 <| by
      rw[HX2.out,MD hlt (by rw[HE.out];unfold Dz;rw[hK1,HY.out];exact hm)];rfl
     clear hm;(go_wp2_with fail);refine wp_region_held_drew (S:=(fun wX=>wX.cell? ⟨g,k*6,none⟩=some (.int .i64 K1)/\wX.cell? ⟨g,k*6+1,none⟩=some (.string (bs M1))/\wX.cell? ⟨g,k*6+2,none⟩=some (.int .i64 A1)/\wX.cell? ⟨g,k*6+3,none⟩=some (.int .i64 B1)/\wX.cell? ⟨g,k*6+4,none⟩=some (.int .i64 P1)/\wX.cell? ⟨g,k*6+5,none⟩=some (.bool X1)/\wX.cell? ⟨w.heap.size,2,none⟩=some (.int .i64 A))) (by kernel_rfl) (HKK.out _ HB.out.drew) (fun hHeld=>?_);refine tk 0 ?_;refine tk 1 ?_;refine tk 2 ?_;refine tk 3 ?_;refine tk 4 ?_;refine tk 5 ?_;refine tk 6 ?_;refine tk 7 ?_;refine tk 8 ?_;refine tk 9 ?_;refine tk 10 ?_;refine tk 11 ?_;refine tk 12 ?_;refine tk 13 ?_;refine tk 14 ?_;refine tk 15 ?_;refine tk 16 ?_;refine tk 17 ?_;refine tk 18 ?_;refine tk 19 ?_;refine wpAnyH_ready (rs:=[20]) (by kernel_rfl) (by simp) ?_;refine AllReadyH.cons rfl (fun K hK=>?_) AllReadyH.nil;go_simp;(go_at_call 102);refine(HSZ1.out _ HB.out.drew).mono ?_;rintro e w4 ⟨rfl,hb4⟩;have HB4:Hid (Below w2.heap.size w2 w4):=A2 (HB.out.drew.trans (hb4.mono (by have:=HB.out.size;simp;omega)));clear hb4;(go_wp2_with fail);refine hK.out _ _ (HKK.out _ HB4.out) (fun hHeld2=>?_);clear hK K;refine wpAnyH_ready (rs:=[21]) (by kernel_rfl) (by simp) ?_;refine AllReadyH.cons rfl (fun K hK=>?_) AllReadyH.nil;go_simp;(go_at_call 101);refine(HM.out _).mono ?_;rintro e w5 ⟨rfl,hw5⟩;obtain rfl:=hw5.symm;(go_wp2_with fail);refine hK.out _ _ (HKK.out _ HB4.out) (fun hHeld3=>?_);clear hK K;refine tk 22 ?_;refine wpAnyH_done (by kernel_rfl) ?_ _;(go_wp2_with fail);go_ret;exact⟨by rw[HV.out];rfl,HBW.out.trans ((HBX.out _ HB4.out).mono (by simp))⟩
   ·(have hK1':(K1 != 1)=false:=by simpa using hK1);(have HF:Hid (Dz all A Z ⟨K1,M1,A1,B1,P1,X1⟩=false):=A2 <| by unfold Dz;rw[hK1];rfl);(go_wp2_with fail);refine wp_region_held_drew (S:=(fun wX=>wX.cell? ⟨g,k*6,none⟩=some (.int .i64 K1)/\wX.cell? ⟨g,k*6+1,none⟩=some (.string (bs M1))/\wX.cell? ⟨g,k*6+2,none⟩=some (.int .i64 A1)/\wX.cell? ⟨g,k*6+3,none⟩=some (.int .i64 B1)/\wX.cell? ⟨g,k*6+4,none⟩=some (.int .i64 P1)/\wX.cell? ⟨g,k*6+5,none⟩=some (.bool X1)/\wX.cell? ⟨w.heap.size,2,none⟩=some (.int .i64 A))) (by kernel_rfl) (HKK.out _ HB.out.drew) (fun hHeld=>?_);refine tk 0 ?_;refine tk 1 ?_;refine tk 2 ?_;refine tk 3 ?_;refine tk 4 ?_;refine tk 5 ?_;refine tk 6 ?_;refine sk 7 ?_;refine sk 8 ?_;refine sk 9 ?_;refine sk 10 ?_;refine sk 11 ?_;refine sk 12 ?_;refine sk 13 ?_;refine sk 14 ?_;refine sk 15 ?_;refine sk 16 ?_;refine sk 17 ?_;refine sk 18 ?_;refine sk 19 ?_;refine sk 20 ?_;refine sk 21 ?_;refine tk 22 ?_;refine wpAnyH_done (by kernel_rfl) ?_ _;(go_wp2_with fail);go_roundw
    case rel=>exact⟨k+1,by omega,by go_num,A2 fun j hj=>by
      by_cases e:j=k
      ·rw[e,HE.out];exact HF.out
      ·exact HJ.out j (by omega),HB.out.drew⟩
    case measure=>first|(simp[intOf];done)|(simp[intOf];omega)
  ·have HX3:Hid (BP all ⟨3,M,A,B,P,X⟩=_):=A2 <| by
    rw[HX2.out,Jr (fun j hj=>HJ.out j (by omega))]<;>rfl
   obtain⟨-,q0,q1,q2,q3,q4,q5⟩:=HC.out wr (HBX.out wr HB.out);have n5:wr.cell? ⟨w1.heap.size,5,none⟩=some (.bool x2):=(HB.out.cell (p:=⟨w1.heap.size,5,none⟩) hz3).trans HKN.out.2;(go_wp2_with fail);go_ret;exact⟨by rw[HX3.out];rfl,HBW.out.trans ((HBX.out _ HB.out).mono (by simp))⟩
end Go.Proofs.YtnmhkgmmpkjjeaaGreat
