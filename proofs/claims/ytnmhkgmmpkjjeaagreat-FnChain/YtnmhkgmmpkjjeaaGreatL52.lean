import Derived.Test.YtnmhkgmmpkjjeaaGreatL50
import Derived.Test.YtnmhkgmmpkjjeaaGreatL47
import Derived.Test.YtnmhkgmmpkjjeaaGreatL51
namespace Go.Proofs.YtnmhkgmmpkjjeaaGreat
open Go.ChangeShapes Go.WideShapes Go.ChangeAt Go.RowKit
set_option linter.unusedVariables false
set_option linter.unusedSimpArgs false
set_option maxRecDepth 100000
attribute [local go_sem ↓] Go.wp_at_zero Go.wp_at_succ
attribute [local go_sem] CY Di Dm FP Du Cc
def Hd:AS:=[103,117,97,114,100,32,52,48,48,48,32,57,54,59,32,35,32,116,104,101,32,108,97,115,116,32,112,97,103,101,115,10]
theorem Qn:bs [103,117,97,114,100,32,52,48,48,48,32,57,54,59,32,35,32,116,104,101,32,108,97,115,116,32,112,97,103,101,115,10]=bs Hd:=rfl
attribute [local go_sem] Qn
def Jf (cs:List Int) (p:Nat):AS:=if (p+5*Cs cs)%3=0 then B5 (Ac cs p (Cs cs)).1++Hd else B5 (Ac cs p (Cs cs)).1
theorem WY (cs:List Int) (p:Nat) (hc:Of cs) (hp:p<=90000):(Ac cs p (Cs cs)).1.length<=8/\∀j,j<(Ac cs p (Cs cs)).1.length->AB 30000 (AI AG (Ac cs p (Cs cs)).1 j):=by
 obtain⟨b0,b1⟩:=H6 cs;obtain⟨h1,h2,h3⟩:=Kd cs p hc hp (Cs cs) b1;exact⟨by omega,fun j hj=>(h3 j (by omega)).mono (by omega)⟩
theorem Lh (cs:List Int) (p:Nat) (hc:Of cs) (hp:p<=90000):(B5 (Ac cs p (Cs cs)).1).length<=900000/\(Jf cs p).length<=1000000:=by
 obtain⟨h1,h2⟩:=WY cs p hc hp;have h3:=IL _ (I8 (Ac cs p (Cs cs)).1 (Ac cs p (Cs cs)).1.length) h2 _ (Nat.le_refl _);have h4:(B5 (Ac cs p (Cs cs)).1).length<=900000:=by unfold B5;omega
 refine⟨h4,?_⟩;unfold Jf;split
 ·rw[List.length_append];have:Hd.length=32:=rfl;omega
 ·omega
set_option maxHeartbeats 2000000 in
theorem MT (a:Option Addr) (cap:Nat) (cs:List Int) (p:Nat) (w:World) (hc:Of cs) (hp:p<=90000) (hs:Qt w a cs) : Calls Tryz.prog 93 #[.slice a cs.length cap,.int .i64 (p:Int),.int .i64 0] w fun e w'=>e=.returned (.tuple #[.string (bs (Jf cs p)),.int .i64 ((p+5*Cs cs:Nat):Int)])/\Below w.heap.size w w':=by
 have t1:=LF a cap cs p w hc hp hs;obtain⟨h1,h2⟩:=WY cs p hc hp;have HD:Hid (Jf cs p=if (p+5*Cs cs)%3=0 then B5 (Ac cs p (Cs cs)).1++Hd else B5 (Ac cs p (Cs cs)).1):=A2 rfl;have HT:Hid (∀g c wX,A6 AG wX w.heap.size (.slice (some ⟨g,0,none⟩) (Ac cs p (Cs cs)).1.length c) (Ac cs p (Cs cs)).1->Calls Tryz.prog 161 #[.slice (some ⟨g,0,none⟩) (Ac cs p (Cs cs)).1.length c] wX fun e w'=>e=.returned (.string (bs (B5 (Ac cs p (Cs cs)).1)))/\Below wX.heap.size wX w'):=A2 fun g c wX h=>Gq g c w.heap.size _ wX h1 h2 h
 have hlen:=(Lh cs p hc hp).1;obtain⟨b0,b1⟩:=H6 cs;have hlg:Hd.length=32:=rfl;generalize Jf cs p=R at *;generalize B5 (Ac cs p (Cs cs)).1=T at *;generalize (Ac cs p (Cs cs)).1=l at *;clear hc hs h2;obtain⟨q,hq⟩:∃q,p+5*Cs cs=q:=⟨_,rfl⟩
 have hq1:q<=100000:=by omega
 rw[hq] at t1 HD ⊢;clear hq;obtain⟨q3,hq3⟩:∃q3:Int,(q:Int)%3=q3:=⟨_,rfl⟩
 have eq3:(q:Int).tmod 3=q3:=by rw[Int.tmod_eq_emod_of_nonneg (by omega)];exact hq3
 go_enter Tryz.func93,Tryz.ntmps93
 go_wp2_with fail
 refine t1.mono ?_;rintro e w1 ⟨g,c,rfl,hr,hb1⟩;have t2:=HT.out g c w1 hr;have HB1:Hid (Below w.heap.size w w1):=hb1;clear t1 hr hb1 HT;go_wp2_with fail
 refine t2.mono ?_;rintro e w2 ⟨rfl,hb2⟩;have HB2:Hid (Below w.heap.size w w2):=A2 (HB1.out.trans (hb2.mono HB1.out.size));clear t2 hb2;by_cases h3:q3=0
 ·have h3b:(q3==0)=true:=by simpa using h3
  have HR:Hid (R=T++Hd):=A2 (by rw[HD.out,if_pos (by omega)]);clear hq3 h3;go_wp2_with fail
  exact bodyPost_ret (v:=.tuple #[.string (bs (T++Hd)),.int .i64 (q:Int)]) (by simp[results,Tryz.results93,go_sem]) rfl ⟨by rw[HR.out],HB2.out⟩
 ·have h3b:(q3==0)=false:=by simpa using h3
  have HR:Hid (R=T):=A2 (by rw[HD.out,if_neg (by omega)]);clear hq3 h3;go_wp2_with fail
  exact bodyPost_ret (v:=.tuple #[.string (bs T),.int .i64 (q:Int)]) (by simp[results,Tryz.results93,go_sem]) rfl ⟨by rw[HR.out],HB2.out⟩
end Go.Proofs.YtnmhkgmmpkjjeaaGreat
namespace Go.Proofs.YtnmhkgmmpkjjeaaGreat
open Go.ChangeShapes Go.WideShapes Go.ChangeAt Go.RowKit
set_option linter.unusedVariables false
set_option linter.unusedSimpArgs false
set_option maxRecDepth 100000
attribute [local go_sem ↓] Go.wp_at_zero Go.wp_at_succ
attribute [local go_sem] CY Di Dm FP Du Cc
def VN (n:Nat) (w:World) (e:Ending) (w':World):Prop:=∃t:AS,e=.returned (.string (bs t))/\t.length<=n/\Below w.heap.size w w'
set_option maxHeartbeats 4000000 in
theorem Mb (A sa sb:Value) (p:Nat) (X na nb:Int) (w:World) (hp:p<=90000) (bX:0<=X/\X<16) (ba:0<=na/\na<=273) (bb:0<=nb/\nb<=273) (hT:Calls Tryz.prog 64 #[A,.int .i64 (p:Int),.int .i64 16] w fun e w'=>e=.returned (.tuple #[.int .i64 X,.int .i64 ((p:Int)+1)])/\Below w.heap.size w w') (hA:∀wX,Below w.heap.size w wX->Calls Tryz.prog 69 #[sa] wX fun e w'=>e=.returned (.int .i64 na)/\Below wX.heap.size wX w') (hB:∀wX,Below w.heap.size w wX->Calls Tryz.prog 69 #[sb] wX fun e w'=>e=.returned (.int .i64 nb)/\Below wX.heap.size wX w') : Calls Tryz.prog 92 #[A,.int .i64 (p:Int),sa,sb] w fun e w'=>∃N:Int,e=.returned (.tuple #[.int .i64 N,.int .i64 ((p:Int)+1)])/\(-10000<=N/\N<=10000)/\Below w.heap.size w w':=by
 obtain⟨z3,hz3⟩:∃z3:Int,((p+1:Nat):Int)%3=z3:=⟨_,rfl⟩
 have ez3:((p:Int)+1).tmod 3=z3:=by rw[Int.tmod_eq_emod_of_nonneg (by omega)];omega
 obtain⟨x4,hx4⟩:∃x4:Int,X%4=x4:=⟨_,rfl⟩
 have ex4:X.tmod 4=x4:=by rw[Int.tmod_eq_emod_of_nonneg (by omega)];omega
 have bx4:0<=x4/\x4<4:=by omega
 have HA:Hid _:=hA;have HB:Hid _:=hB;clear hz3 hx4 hA hB;go_enter Tryz.func92,Tryz.ntmps92
 go_wp2_with fail
 refine hT.mono ?_;rintro e w1 ⟨rfl,hb1⟩;have HB1:Hid (Below w.heap.size w w1):=hb1;clear hT hb1;go_wp2_with fail
 refine(HA.out w1 HB1.out).mono ?_;rintro e w2 ⟨rfl,hb2⟩;have HB2:Hid (Below w.heap.size w w2):=A2 (HB1.out.trans (hb2.mono HB1.out.size));clear hb2;go_wp2_with fail
 refine(HB.out w2 HB2.out).mono ?_;rintro e w3 ⟨rfl,hb3⟩;have HB3:Hid (Below w.heap.size w w3):=A2 (HB2.out.trans (hb3.mono HB2.out.size));clear hb3;by_cases hgt:na<nb
 ·have K1:decide (na<nb)=true:=decide_eq_true hgt;clear hgt;go_wp2_with fail
  refine(HB.out w3 HB3.out).mono ?_;rintro e w4 ⟨rfl,hb4⟩;have HB4:Hid (Below w.heap.size w w4):=A2 (HB3.out.trans (hb4.mono HB3.out.size));clear hb4;have W1:=ET (x:=nb-1) (by omega);have W2:=ET (x:=nb+x4) (by omega);by_cases h15:X=15
  ·(have h15b:(X==15)=true:=by simpa using h15);by_cases h3:z3=0
   ·(have h3b:(z3==0)=true:=by simpa using h3);clear h15 h3;(go_wp2_with fail);exact bodyPost_ret (v:=.tuple #[.int .i64 0,.int .i64 ((p:Int)+1)]) (by simp[results,Tryz.results92,go_sem]) rfl ⟨0,rfl,by omega,HB4.out⟩
   ·(have h3b:(z3==0)=false:=by simpa using h3);clear h15 h3;(go_wp2_with fail);exact bodyPost_ret (v:=.tuple #[.int .i64 (nb-1),.int .i64 ((p:Int)+1)]) (by simp[results,Tryz.results92,go_sem]) rfl ⟨nb-1,rfl,by omega,HB4.out⟩
  ·(have h15b:(X==15)=false:=by simpa using h15);clear h15;(go_wp2_with fail);exact bodyPost_ret (v:=.tuple #[.int .i64 (nb+x4),.int .i64 ((p:Int)+1)]) (by simp[results,Tryz.results92,go_sem]) rfl ⟨nb+x4,rfl,by omega,HB4.out⟩
 ·have K1:decide (na<nb)=false:=decide_eq_false hgt;clear hgt;have W1:=ET (x:=na-1) (by omega);have W2:=ET (x:=na+x4) (by omega);by_cases h15:X=15
  ·(have h15b:(X==15)=true:=by simpa using h15);by_cases h3:z3=0
   ·(have h3b:(z3==0)=true:=by simpa using h3);clear h15 h3;(go_wp2_with fail);exact bodyPost_ret (v:=.tuple #[.int .i64 0,.int .i64 ((p:Int)+1)]) (by simp[results,Tryz.results92,go_sem]) rfl ⟨0,rfl,by omega,HB3.out⟩
   ·(have h3b:(z3==0)=false:=by simpa using h3);clear h15 h3;(go_wp2_with fail);exact bodyPost_ret (v:=.tuple #[.int .i64 (na-1),.int .i64 ((p:Int)+1)]) (by simp[results,Tryz.results92,go_sem]) rfl ⟨na-1,rfl,by omega,HB3.out⟩
  ·(have h15b:(X==15)=false:=by simpa using h15);clear h15;(go_wp2_with fail);exact bodyPost_ret (v:=.tuple #[.int .i64 (na+x4),.int .i64 ((p:Int)+1)]) (by simp[results,Tryz.results92,go_sem]) rfl ⟨na+x4,rfl,by omega,HB3.out⟩
set_option maxHeartbeats 8000000 in
theorem Pt (A:Value) (how:Int) (T0 T1:AS) (q q1:Nat) (w:World) (l0:T0.length<=950000) (l1:T1.length<=950000) (hT:Calls Tryz.prog 64 #[A,.int .i64 0,.int .i64 24] w fun e w'=>e=.returned (.tuple #[.int .i64 how,.int .i64 1])/\Below w.heap.size w w') (h0:∀wX,Below w.heap.size w wX->Calls Tryz.prog 93 #[A,.int .i64 1,.int .i64 0] wX fun e w'=>e=.returned (.tuple #[.string (bs T0),.int .i64 (q:Int)])/\Below wX.heap.size wX w') (h1:∀wX,Below w.heap.size w wX->Calls Tryz.prog 93 #[A,.int .i64 1,.int .i64 1] wX fun e w'=>e=.returned (.tuple #[.string (bs T1),.int .i64 (q1:Int)])/\Below wX.heap.size wX w') (hR:∀(t:AS) wX,t.length<=3000000->Calls Tryz.prog 11 #[.string (bs t)] wX fun e w'=>GP wX (A9 t) e w') (hF:∀(ta tb:AS) (g c b g2 c2 b2:Nat) wX,Below w.heap.size w wX->A6 A8 wX b (.slice (some ⟨g,0,none⟩) (A9 ta).1.length c) (A9 ta).1->A6 A8 wX b2 (.slice (some ⟨g2,0,none⟩) (A9 tb).1.length c2) (A9 tb).1->Calls Tryz.prog 92 #[A,.int .i64 (q:Int),.slice (some ⟨g,0,none⟩) (A9 ta).1.length c,.slice (some ⟨g2,0,none⟩) (A9 tb).1.length c2] wX fun e w'=>∃N:Int,e=.returned (.tuple #[.int .i64 N,.int .i64 ((q:Int)+1)])/\(-10000<=N/\N<=10000)/\Below wX.heap.size wX w') (hS:∀(t:AS) wX,Below w.heap.size w wX->t.length<=950000->Calls Tryz.prog 94 #[A,.int .i64 ((q:Int)+1),.string (bs t)] wX fun e w'=>VN 3000000 wX e w') : Calls Tryz.prog 31 #[A,.int .i64 0] w fun e w'=>∃(ta tb:AS) (N:Int) (v:Value),e=.returned (.tuple #[.string (bs ta),.string (bs tb),.int .i64 N,v])/\(ta.length<=3000000/\tb.length<=3000000/\-10000<=N/\N<=10000)/\Below w.heap.size w w':=by
 have H0:Hid _:=h0;have H1:Hid _:=h1;have HR:Hid _:=hR;have HF:Hid _:=hF;have HS:Hid _:=hS;clear h0 h1 hR hF hS;refine IE 78 Tryz.func31 rfl (by rfl) (by simp) ?_;intro tm hsz hla;have s0:=hla 0 (by simp);have s1:=hla 1 (by simp);clear hla;simp only[List.getElem_toArray,List.getElem_cons_zero,List.getElem_cons_succ] at s0 s1;go_wp2_with fail
 refine hT.mono ?_;rintro e w1 ⟨rfl,hb1⟩;have HB1:Hid (Below w.heap.size w w1):=hb1;clear hT hb1;go_wp2_with fail
 refine(H0.out w1 HB1.out).mono ?_;rintro e w2 ⟨rfl,hb2⟩;have HB2:Hid (Below w.heap.size w w2):=A2 (HB1.out.trans (hb2.mono HB1.out.size));clear hb2;go_wp2_with fail
 refine(H1.out w2 HB2.out).mono ?_;rintro e w3 ⟨rfl,hb3⟩;have HB3:Hid (Below w.heap.size w w3):=A2 (HB2.out.trans (hb3.mono HB2.out.size));clear hb3 H0 H1;go_upto_region 5 with fail
 refine BK 78 [(0,A),(8,.int .i64 how),(9,.string (bs T0)),(10,.int .i64 (q:Int)),(11,.string (bs T1))] (by simp[hsz]) (by simp only[Fs];and_intros<;>simp[hsz,s0]) ?_;clear s0 s1 hsz;clear tm;intro tm hsz hs;simp only[Fs] at hs;obtain⟨s0,s8,s9,s10,s11,-⟩:=hs;by_cases e20:how=20
 ·subst e20;go_upto_if 38 with fail
  refine cT (by go_simp) ?_;go_upto_if 41 with fail
  refine cF (by go_simp) ?_;go_upto_if 43 with fail
  refine cF (by go_simp) ?_;go_upto_region 11 with fail
  refine BK 78 [(0,A),(8,.int .i64 20),(9,.string (bs T0)),(10,.int .i64 (q:Int)),(11,.string (bs T0))] (by simp[hsz]) (by simp only[Fs];and_intros<;>first|(simp[hsz,s0,s8,s9,s10,s11];done)|(simp[hsz,s0,s8,s9,s10,s11];rfl)) ?_;clear s0 s8 s9 s10 s11 hsz;clear tm;intro tm hsz hs;simp only[Fs] at hs;obtain⟨s0,s8,s9,s10,s11,-⟩:=hs;go_wp2_with fail
  refine(HR.out T0 w3 (by omega)).mono ?_;rintro e w4 ⟨g1,c1,rfl,hr4,hb4⟩;obtain⟨w5,hw5⟩:∃x,x=w4.alloc (.cells #[.int .i64 (A9 T0).2.1,.int .i64 (A9 T0).2.2] 27):=⟨_,rfl⟩
  have hb45:Below w4.heap.size w4 w5:=by rw[hw5];exact Ao
  have HB5:Hid (Below w.heap.size w w5):=A2 ((HB3.out.trans (hb4.mono HB3.out.size)).trans (hb45.mono (Nat.le_trans HB3.out.size hb4.size)));have HR4:Hid (∀wX,Below w5.heap.size w5 wX->A6 A8 wX w3.heap.size (.slice (some ⟨g1,0,none⟩) (A9 T0).1.length c1) (A9 T0).1):=A2 fun wX hX=>(hr4.below hb45).below hX
  have HW5:Hid (w5=_):=hw5;clear hr4 hb4 hb45 hw5;(try dsimp only);go_upto_region 12 with fail
  rw[<- HW5.out];go_wp2_with fail
  refine(HR.out T0 w5 (by omega)).mono ?_;rintro e w6 ⟨g2,c2,rfl,hr6,hb6⟩;obtain⟨w7,hw7⟩:∃x,x=w6.alloc (.cells #[.int .i64 (A9 T0).2.1,.int .i64 (A9 T0).2.2] 27):=⟨_,rfl⟩
  have hb67:Below w6.heap.size w6 w7:=by rw[hw7];exact Ao
  have HB57:Hid (Below w5.heap.size w5 w7):=A2 (hb6.trans (hb67.mono hb6.size));have HB7:Hid (Below w.heap.size w w7):=A2 (HB5.out.trans (HB57.out.mono HB5.out.size));have HR6:Hid (A6 A8 w7 w5.heap.size (.slice (some ⟨g2,0,none⟩) (A9 T0).1.length c2) (A9 T0).1):=A2 (hr6.below hb67);have HW7:Hid (w7=_):=hw7;clear hr6 hb6 hb67 hw7;(try dsimp only);go_upto_region 13 with fail
  rw[<- HW7.out];go_wp2_with fail
  refine(HF.out T0 T0 g1 c1 _ g2 c2 _ w7 HB7.out (HR4.out w7 HB57.out) HR6.out).mono ?_;rintro e w8 ⟨N,rfl,bN,hb8⟩;have HB8:Hid (Below w.heap.size w w8):=A2 (HB7.out.trans (hb8.mono HB7.out.size));clear hb8;go_upto_if 63 with fail
  refine cF (by go_simp) ?_;go_upto_if 69 with fail
  refine cF (by go_simp) ?_;go_wp2_with fail
  exact bodyPost_ret (v:=.tuple #[.string (bs T0),.string (bs T0),.int .i64 N,.int .i64 ((q:Int)+1)]) (by simp[results,Tryz.results31,go_sem,hsz]) rfl ⟨T0,T0,N,_,rfl,⟨by (first|omega|simp),by (first|omega|simp),bN.1,bN.2⟩,HB8.out⟩
 by_cases e21:how=21
 ·subst e21;go_upto_if 38 with fail
  refine cF (by go_simp) ?_;go_upto_if 41 with fail
  refine cT (by go_simp) ?_;go_upto_if 43 with fail
  refine cF (by go_simp) ?_;go_upto_region 11 with fail
  refine BK 78 [(0,A),(8,.int .i64 21),(9,.string (bs T0)),(10,.int .i64 (q:Int)),(11,.string (bs ([]:AS)))] (by simp[hsz]) (by simp only[Fs];and_intros<;>first|(simp[hsz,s0,s8,s9,s10,s11];done)|(simp[hsz,s0,s8,s9,s10,s11];rfl)) ?_;clear s0 s8 s9 s10 s11 hsz;clear tm;intro tm hsz hs;simp only[Fs] at hs;obtain⟨s0,s8,s9,s10,s11,-⟩:=hs;go_wp2_with fail
  refine(HR.out T0 w3 (by omega)).mono ?_;rintro e w4 ⟨g1,c1,rfl,hr4,hb4⟩;obtain⟨w5,hw5⟩:∃x,x=w4.alloc (.cells #[.int .i64 (A9 T0).2.1,.int .i64 (A9 T0).2.2] 27):=⟨_,rfl⟩
  have hb45:Below w4.heap.size w4 w5:=by rw[hw5];exact Ao
  have HB5:Hid (Below w.heap.size w w5):=A2 ((HB3.out.trans (hb4.mono HB3.out.size)).trans (hb45.mono (Nat.le_trans HB3.out.size hb4.size)));have HR4:Hid (∀wX,Below w5.heap.size w5 wX->A6 A8 wX w3.heap.size (.slice (some ⟨g1,0,none⟩) (A9 T0).1.length c1) (A9 T0).1):=A2 fun wX hX=>(hr4.below hb45).below hX
  have HW5:Hid (w5=_):=hw5;clear hr4 hb4 hb45 hw5;(try dsimp only);go_upto_region 12 with fail
  rw[<- HW5.out];go_wp2_with fail
  refine(HR.out ([]:AS) w5 (by simp)).mono ?_;rintro e w6 ⟨g2,c2,rfl,hr6,hb6⟩;obtain⟨w7,hw7⟩:∃x,x=w6.alloc (.cells #[.int .i64 (A9 ([]:AS)).2.1,.int .i64 (A9 ([]:AS)).2.2] 27):=⟨_,rfl⟩
  have hb67:Below w6.heap.size w6 w7:=by rw[hw7];exact Ao
  have HB57:Hid (Below w5.heap.size w5 w7):=A2 (hb6.trans (hb67.mono hb6.size));have HB7:Hid (Below w.heap.size w w7):=A2 (HB5.out.trans (HB57.out.mono HB5.out.size));have HR6:Hid (A6 A8 w7 w5.heap.size (.slice (some ⟨g2,0,none⟩) (A9 ([]:AS)).1.length c2) (A9 ([]:AS)).1):=A2 (hr6.below hb67);have HW7:Hid (w7=_):=hw7;clear hr6 hb6 hb67 hw7;(try dsimp only);go_upto_region 13 with fail
  rw[<- HW7.out];go_wp2_with fail
  refine(HF.out T0 ([]:AS) g1 c1 _ g2 c2 _ w7 HB7.out (HR4.out w7 HB57.out) HR6.out).mono ?_;rintro e w8 ⟨N,rfl,bN,hb8⟩;have HB8:Hid (Below w.heap.size w w8):=A2 (HB7.out.trans (hb8.mono HB7.out.size));clear hb8;go_upto_if 63 with fail
  refine cF (by go_simp) ?_;go_upto_if 69 with fail
  refine cF (by go_simp) ?_;go_wp2_with fail
  exact bodyPost_ret (v:=.tuple #[.string (bs T0),.string (bs ([]:AS)),.int .i64 N,.int .i64 ((q:Int)+1)]) (by simp[results,Tryz.results31,go_sem,hsz]) rfl ⟨T0,([]:AS),N,_,rfl,⟨by (first|omega|simp),by (first|omega|simp),bN.1,bN.2⟩,HB8.out⟩
 by_cases e22:how=22
 ·subst e22;go_upto_if 38 with fail
  refine cF (by go_simp) ?_;go_upto_if 41 with fail
  refine cF (by go_simp) ?_;go_upto_if 43 with fail
  refine cT (by go_simp) ?_;go_upto_region 11 with fail
  refine BK 78 [(0,A),(8,.int .i64 22),(9,.string (bs ([]:AS))),(10,.int .i64 (q:Int)),(11,.string (bs T1))] (by simp[hsz]) (by simp only[Fs];and_intros<;>first|(simp[hsz,s0,s8,s9,s10,s11];done)|(simp[hsz,s0,s8,s9,s10,s11];rfl)) ?_;clear s0 s8 s9 s10 s11 hsz;clear tm;intro tm hsz hs;simp only[Fs] at hs;obtain⟨s0,s8,s9,s10,s11,-⟩:=hs;go_wp2_with fail
  refine(HR.out ([]:AS) w3 (by simp)).mono ?_;rintro e w4 ⟨g1,c1,rfl,hr4,hb4⟩;obtain⟨w5,hw5⟩:∃x,x=w4.alloc (.cells #[.int .i64 (A9 ([]:AS)).2.1,.int .i64 (A9 ([]:AS)).2.2] 27):=⟨_,rfl⟩
  have hb45:Below w4.heap.size w4 w5:=by rw[hw5];exact Ao
  have HB5:Hid (Below w.heap.size w w5):=A2 ((HB3.out.trans (hb4.mono HB3.out.size)).trans (hb45.mono (Nat.le_trans HB3.out.size hb4.size)));have HR4:Hid (∀wX,Below w5.heap.size w5 wX->A6 A8 wX w3.heap.size (.slice (some ⟨g1,0,none⟩) (A9 ([]:AS)).1.length c1) (A9 ([]:AS)).1):=A2 fun wX hX=>(hr4.below hb45).below hX
  have HW5:Hid (w5=_):=hw5;clear hr4 hb4 hb45 hw5;(try dsimp only);go_upto_region 12 with fail
  rw[<- HW5.out];go_wp2_with fail
  refine(HR.out T1 w5 (by omega)).mono ?_;rintro e w6 ⟨g2,c2,rfl,hr6,hb6⟩;obtain⟨w7,hw7⟩:∃x,x=w6.alloc (.cells #[.int .i64 (A9 T1).2.1,.int .i64 (A9 T1).2.2] 27):=⟨_,rfl⟩
  have hb67:Below w6.heap.size w6 w7:=by rw[hw7];exact Ao
  have HB57:Hid (Below w5.heap.size w5 w7):=A2 (hb6.trans (hb67.mono hb6.size));have HB7:Hid (Below w.heap.size w w7):=A2 (HB5.out.trans (HB57.out.mono HB5.out.size));have HR6:Hid (A6 A8 w7 w5.heap.size (.slice (some ⟨g2,0,none⟩) (A9 T1).1.length c2) (A9 T1).1):=A2 (hr6.below hb67);have HW7:Hid (w7=_):=hw7;clear hr6 hb6 hb67 hw7;(try dsimp only);go_upto_region 13 with fail
  rw[<- HW7.out];go_wp2_with fail
  refine(HF.out ([]:AS) T1 g1 c1 _ g2 c2 _ w7 HB7.out (HR4.out w7 HB57.out) HR6.out).mono ?_;rintro e w8 ⟨N,rfl,bN,hb8⟩;have HB8:Hid (Below w.heap.size w w8):=A2 (HB7.out.trans (hb8.mono HB7.out.size));clear hb8;go_upto_if 63 with fail
  refine cF (by go_simp) ?_;go_upto_if 69 with fail
  refine cF (by go_simp) ?_;go_wp2_with fail
  exact bodyPost_ret (v:=.tuple #[.string (bs ([]:AS)),.string (bs T1),.int .i64 N,.int .i64 ((q:Int)+1)]) (by simp[results,Tryz.results31,go_sem,hsz]) rfl ⟨([]:AS),T1,N,_,rfl,⟨by (first|omega|simp),by (first|omega|simp),bN.1,bN.2⟩,HB8.out⟩
 by_cases e18:how=18
 ·subst e18;go_upto_if 38 with fail
  refine cF (by go_simp) ?_;go_upto_if 41 with fail
  refine cF (by go_simp) ?_;go_upto_if 43 with fail
  refine cF (by go_simp) ?_;go_upto_region 11 with fail
  refine BK 78 [(0,A),(8,.int .i64 18),(9,.string (bs T0)),(10,.int .i64 (q:Int)),(11,.string (bs T1))] (by simp[hsz]) (by simp only[Fs];and_intros<;>first|(simp[hsz,s0,s8,s9,s10,s11];done)|(simp[hsz,s0,s8,s9,s10,s11];rfl)) ?_;clear s0 s8 s9 s10 s11 hsz;clear tm;intro tm hsz hs;simp only[Fs] at hs;obtain⟨s0,s8,s9,s10,s11,-⟩:=hs;go_wp2_with fail
  refine(HR.out T0 w3 (by omega)).mono ?_;rintro e w4 ⟨g1,c1,rfl,hr4,hb4⟩;obtain⟨w5,hw5⟩:∃x,x=w4.alloc (.cells #[.int .i64 (A9 T0).2.1,.int .i64 (A9 T0).2.2] 27):=⟨_,rfl⟩
  have hb45:Below w4.heap.size w4 w5:=by rw[hw5];exact Ao
  have HB5:Hid (Below w.heap.size w w5):=A2 ((HB3.out.trans (hb4.mono HB3.out.size)).trans (hb45.mono (Nat.le_trans HB3.out.size hb4.size)));have HR4:Hid (∀wX,Below w5.heap.size w5 wX->A6 A8 wX w3.heap.size (.slice (some ⟨g1,0,none⟩) (A9 T0).1.length c1) (A9 T0).1):=A2 fun wX hX=>(hr4.below hb45).below hX
  have HW5:Hid (w5=_):=hw5;clear hr4 hb4 hb45 hw5;(try dsimp only);go_upto_region 12 with fail
  rw[<- HW5.out];go_wp2_with fail
  refine(HR.out T1 w5 (by omega)).mono ?_;rintro e w6 ⟨g2,c2,rfl,hr6,hb6⟩;obtain⟨w7,hw7⟩:∃x,x=w6.alloc (.cells #[.int .i64 (A9 T1).2.1,.int .i64 (A9 T1).2.2] 27):=⟨_,rfl⟩
  have hb67:Below w6.heap.size w6 w7:=by rw[hw7];exact Ao
  have HB57:Hid (Below w5.heap.size w5 w7):=A2 (hb6.trans (hb67.mono hb6.size));have HB7:Hid (Below w.heap.size w w7):=A2 (HB5.out.trans (HB57.out.mono HB5.out.size));have HR6:Hid (A6 A8 w7 w5.heap.size (.slice (some ⟨g2,0,none⟩) (A9 T1).1.length c2) (A9 T1).1):=A2 (hr6.below hb67);have HW7:Hid (w7=_):=hw7;clear hr6 hb6 hb67 hw7;(try dsimp only);go_upto_region 13 with fail
  rw[<- HW7.out];go_wp2_with fail
  refine(HF.out T0 T1 g1 c1 _ g2 c2 _ w7 HB7.out (HR4.out w7 HB57.out) HR6.out).mono ?_;rintro e w8 ⟨N,rfl,bN,hb8⟩;have HB8:Hid (Below w.heap.size w w8):=A2 (HB7.out.trans (hb8.mono HB7.out.size));clear hb8;go_upto_if 63 with fail
  refine cT (by go_simp) ?_;go_wp2_with fail
  refine(HS.out T0 w8 HB8.out (by (first|omega|simp))).mono ?_;rintro e w9 ⟨tn,rfl,ln,hb9⟩;have HB9:Hid (Below w.heap.size w w9):=A2 (HB8.out.trans (hb9.mono HB8.out.size));clear hb9;go_upto_if 69 with fail
  refine cF (by go_simp) ?_;go_wp2_with fail
  exact bodyPost_ret (v:=.tuple #[.string (bs tn),.string (bs T1),.int .i64 N,.int .i64 ((q:Int)+1)]) (by simp[results,Tryz.results31,go_sem,hsz]) rfl ⟨tn,T1,N,_,rfl,⟨by (first|omega|simp),by (first|omega|simp),bN.1,bN.2⟩,HB9.out⟩
 by_cases e19:how=19
 ·subst e19;go_upto_if 38 with fail
  refine cF (by go_simp) ?_;go_upto_if 41 with fail
  refine cF (by go_simp) ?_;go_upto_if 43 with fail
  refine cF (by go_simp) ?_;go_upto_region 11 with fail
  refine BK 78 [(0,A),(8,.int .i64 19),(9,.string (bs T0)),(10,.int .i64 (q:Int)),(11,.string (bs T1))] (by simp[hsz]) (by simp only[Fs];and_intros<;>first|(simp[hsz,s0,s8,s9,s10,s11];done)|(simp[hsz,s0,s8,s9,s10,s11];rfl)) ?_;clear s0 s8 s9 s10 s11 hsz;clear tm;intro tm hsz hs;simp only[Fs] at hs;obtain⟨s0,s8,s9,s10,s11,-⟩:=hs;go_wp2_with fail
  refine(HR.out T0 w3 (by omega)).mono ?_;rintro e w4 ⟨g1,c1,rfl,hr4,hb4⟩;obtain⟨w5,hw5⟩:∃x,x=w4.alloc (.cells #[.int .i64 (A9 T0).2.1,.int .i64 (A9 T0).2.2] 27):=⟨_,rfl⟩
  have hb45:Below w4.heap.size w4 w5:=by rw[hw5];exact Ao
  have HB5:Hid (Below w.heap.size w w5):=A2 ((HB3.out.trans (hb4.mono HB3.out.size)).trans (hb45.mono (Nat.le_trans HB3.out.size hb4.size)));have HR4:Hid (∀wX,Below w5.heap.size w5 wX->A6 A8 wX w3.heap.size (.slice (some ⟨g1,0,none⟩) (A9 T0).1.length c1) (A9 T0).1):=A2 fun wX hX=>(hr4.below hb45).below hX
  have HW5:Hid (w5=_):=hw5;clear hr4 hb4 hb45 hw5;(try dsimp only);go_upto_region 12 with fail
  rw[<- HW5.out];go_wp2_with fail
  refine(HR.out T1 w5 (by omega)).mono ?_;rintro e w6 ⟨g2,c2,rfl,hr6,hb6⟩;obtain⟨w7,hw7⟩:∃x,x=w6.alloc (.cells #[.int .i64 (A9 T1).2.1,.int .i64 (A9 T1).2.2] 27):=⟨_,rfl⟩
  have hb67:Below w6.heap.size w6 w7:=by rw[hw7];exact Ao
  have HB57:Hid (Below w5.heap.size w5 w7):=A2 (hb6.trans (hb67.mono hb6.size));have HB7:Hid (Below w.heap.size w w7):=A2 (HB5.out.trans (HB57.out.mono HB5.out.size));have HR6:Hid (A6 A8 w7 w5.heap.size (.slice (some ⟨g2,0,none⟩) (A9 T1).1.length c2) (A9 T1).1):=A2 (hr6.below hb67);have HW7:Hid (w7=_):=hw7;clear hr6 hb6 hb67 hw7;(try dsimp only);go_upto_region 13 with fail
  rw[<- HW7.out];go_wp2_with fail
  refine(HF.out T0 T1 g1 c1 _ g2 c2 _ w7 HB7.out (HR4.out w7 HB57.out) HR6.out).mono ?_;rintro e w8 ⟨N,rfl,bN,hb8⟩;have HB8:Hid (Below w.heap.size w w8):=A2 (HB7.out.trans (hb8.mono HB7.out.size));clear hb8;go_upto_if 63 with fail
  refine cF (by go_simp) ?_;go_upto_if 69 with fail
  refine cT (by go_simp) ?_;go_wp2_with fail
  refine(HS.out T1 w8 HB8.out (by (first|omega|simp))).mono ?_;rintro e w9 ⟨tn,rfl,ln,hb9⟩;have HB9:Hid (Below w.heap.size w w9):=A2 (HB8.out.trans (hb9.mono HB8.out.size));clear hb9;go_wp2_with fail
  exact bodyPost_ret (v:=.tuple #[.string (bs T0),.string (bs tn),.int .i64 N,.int .i64 ((q:Int)+1)]) (by simp[results,Tryz.results31,go_sem,hsz]) rfl ⟨T0,tn,N,_,rfl,⟨by (first|omega|simp),by (first|omega|simp),bN.1,bN.2⟩,HB9.out⟩
 have d20:(how==20)=false:=by simpa using e20
 have d21:(how==21)=false:=by simpa using e21
 have d22:(how==22)=false:=by simpa using e22
 have d18:(how==18)=false:=by simpa using e18
 have d19:(how==19)=false:=by simpa using e19
 clear e20 e21 e22 e18 e19;go_upto_if 38 with fail
 refine cF (by go_simp) ?_;go_upto_if 41 with fail
 refine cF (by go_simp) ?_;go_upto_if 43 with fail
 refine cF (by go_simp) ?_;go_upto_region 11 with fail
 refine BK 78 [(0,A),(8,.int .i64 how),(9,.string (bs T0)),(10,.int .i64 (q:Int)),(11,.string (bs T1))] (by simp[hsz]) (by simp only[Fs];and_intros<;>first|(simp[hsz,s0,s8,s9,s10,s11];done)|(simp[hsz,s0,s8,s9,s10,s11];rfl)) ?_;clear s0 s8 s9 s10 s11 hsz;clear tm;intro tm hsz hs;simp only[Fs] at hs;obtain⟨s0,s8,s9,s10,s11,-⟩:=hs;go_wp2_with fail
 refine(HR.out T0 w3 (by omega)).mono ?_;rintro e w4 ⟨g1,c1,rfl,hr4,hb4⟩;obtain⟨w5,hw5⟩:∃x,x=w4.alloc (.cells #[.int .i64 (A9 T0).2.1,.int .i64 (A9 T0).2.2] 27):=⟨_,rfl⟩
 have hb45:Below w4.heap.size w4 w5:=by rw[hw5];exact Ao
 have HB5:Hid (Below w.heap.size w w5):=A2 ((HB3.out.trans (hb4.mono HB3.out.size)).trans (hb45.mono (Nat.le_trans HB3.out.size hb4.size)));have HR4:Hid (∀wX,Below w5.heap.size w5 wX->A6 A8 wX w3.heap.size (.slice (some ⟨g1,0,none⟩) (A9 T0).1.length c1) (A9 T0).1):=A2 fun wX hX=>(hr4.below hb45).below hX
 have HW5:Hid (w5=_):=hw5;clear hr4 hb4 hb45 hw5;(try dsimp only);go_upto_region 12 with fail
 rw[<- HW5.out];go_wp2_with fail
 refine(HR.out T1 w5 (by omega)).mono ?_;rintro e w6 ⟨g2,c2,rfl,hr6,hb6⟩;obtain⟨w7,hw7⟩:∃x,x=w6.alloc (.cells #[.int .i64 (A9 T1).2.1,.int .i64 (A9 T1).2.2] 27):=⟨_,rfl⟩
 have hb67:Below w6.heap.size w6 w7:=by rw[hw7];exact Ao
 have HB57:Hid (Below w5.heap.size w5 w7):=A2 (hb6.trans (hb67.mono hb6.size));have HB7:Hid (Below w.heap.size w w7):=A2 (HB5.out.trans (HB57.out.mono HB5.out.size));have HR6:Hid (A6 A8 w7 w5.heap.size (.slice (some ⟨g2,0,none⟩) (A9 T1).1.length c2) (A9 T1).1):=A2 (hr6.below hb67);have HW7:Hid (w7=_):=hw7;clear hr6 hb6 hb67 hw7;(try dsimp only);go_upto_region 13 with fail
 rw[<- HW7.out];go_wp2_with fail
 refine(HF.out T0 T1 g1 c1 _ g2 c2 _ w7 HB7.out (HR4.out w7 HB57.out) HR6.out).mono ?_;rintro e w8 ⟨N,rfl,bN,hb8⟩;have HB8:Hid (Below w.heap.size w w8):=A2 (HB7.out.trans (hb8.mono HB7.out.size));clear hb8;go_upto_if 63 with fail
 refine cF (by go_simp) ?_;go_upto_if 69 with fail
 refine cF (by go_simp) ?_;go_wp2_with fail
 exact bodyPost_ret (v:=.tuple #[.string (bs T0),.string (bs T1),.int .i64 N,.int .i64 ((q:Int)+1)]) (by simp[results,Tryz.results31,go_sem,hsz]) rfl ⟨T0,T1,N,_,rfl,⟨by (first|omega|simp),by (first|omega|simp),bN.1,bN.2⟩,HB8.out⟩
theorem LI (A:Value) (w:World) (h:Calls Tryz.prog 31 #[A,.int .i64 0] w fun e w'=>∃(ta tb:AS) (N:Int) (v:Value),e=.returned (.tuple #[.string (bs ta),.string (bs tb),.int .i64 N,v])/\(ta.length<=3000000/\tb.length<=3000000/\-10000<=N/\N<=10000)/\Below w.heap.size w w') : Calls Tryz.prog 8 #[A] w fun e w'=>∃(ta tb:AS) (N:Int),e=.returned (.tuple #[.string (bs ta),.string (bs tb),.int .i64 N])/\(ta.length<=3000000/\tb.length<=3000000/\-10000<=N/\N<=10000)/\Below w.heap.size w w':=by
 go_enter Tryz.func8,Tryz.ntmps8
 go_wp2_with fail
 refine h.mono ?_;rintro e w1 ⟨ta,tb,N,v,rfl,hb,hb1⟩;have HB1:Hid (Below w.heap.size w w1):=hb1;clear h hb1;go_wp2_with fail
 exact bodyPost_ret (v:=.tuple #[.string (bs ta),.string (bs tb),.int .i64 N]) (by simp[results,Tryz.results8,go_sem]) rfl ⟨ta,tb,N,rfl,hb,HB1.out⟩
theorem Qi (l:AS) (i j:Nat):(C6 l i j).length<=l.length:=by
 unfold C6;rw[List.length_drop,List.length_take];omega
set_option maxHeartbeats 4000000 in
theorem Pm (a:Option Addr) (cap:Nat) (cs:List Int) (p:Nat) (s:AS) (w:World) (hc:Of cs) (hp:p<=900000) (hl:s.length<=950000) (hs:Qt w a cs):Calls Tryz.prog 94 #[.slice a cs.length cap,.int .i64 (p:Int),.string (bs s)] w (VN 3000000 w):=by
 have t1:=A2 (Ep a cap cs p 4 w hc (by omega) (by omega) hs);have bA:=EQ cs p 4 (by omega) hc (by omega);have t2:=A2 (fun wX (hX:Below w.heap.size w wX)=>Ep a cap cs (p+1) ((s.length:Int)+1) wX hc (by omega) (by omega) (hs.below hX));have bT:=EQ cs (p+1) ((s.length:Int)+1) (by omega) hc (by omega);have t3:=A2 (fun wX (hX:Below w.heap.size w wX)=>Ep a cap cs (p+1+1) 16 wX hc (by omega) (by omega) (hs.below hX));have bX:=EQ cs (p+1+1) 16 (by omega) hc (by omega);generalize Cq cs p 4=A at *;obtain⟨T,hT⟩:∃T:Nat,Cq cs (p+1) ((s.length:Int)+1)=(T:Int):=⟨(Cq cs (p+1) ((s.length:Int)+1)).toNat,by omega⟩
 obtain⟨X,hX⟩:∃X:Nat,Cq cs (p+1+1) 16=(X:Int):=⟨(Cq cs (p+1+1) 16).toNat,by omega⟩
 rw[hT] at t2 bT;rw[hX] at t3 bX;have hp1:((p+1:Nat):Int)=(p:Int)+1:=by omega
 have hp2:((p+1+1:Nat):Int)=(p:Int)+1+1:=by omega
 rw[hp1] at t2;rw[hp2] at t3;have W0:IntKind.i64.wrap ((s.length:Int)+1)=(s.length:Int)+1:=by rw[IntKind.wrap_i64];omega
 have T0:(0:Int)<=(T:Int):=by omega
 have T1:(T:Int)<=(s.length:Int):=by omega
 have WT:IntKind.i64.wrap ((T:Int)+1)=(T:Int)+1:=by rw[IntKind.wrap_i64];omega
 have X0:(0:Int)<=(X:Int):=by omega
 have X1:(X:Int)<=(X:Int)+1:=by omega
 have X2:(X:Int)+1<=16:=by omega
 have WX:IntKind.i64.wrap ((X:Int)+1)=(X:Int)+1:=by rw[IntKind.wrap_i64];omega
 clear hc hs hp1 hp2 hT hX;go_enter Tryz.func94,Tryz.ntmps94
 go_wp2_with fail
 refine t1.out.mono ?_;rintro e w1 ⟨rfl,hb1⟩;have t4:=A2 (t2.out w1 hb1);have HB1:=A2 hb1;clear t1 t2 hb1;go_wp2_with fail
 refine t4.out.mono ?_;rintro e w2 ⟨rfl,hb2⟩;have HB2:Hid (Below w.heap.size w w2):=A2 (HB1.out.trans (hb2.mono HB1.out.size));have t5:=A2 (t3.out w2 HB2.out);clear t4 hb2 HB1 t3;go_wp2_with fail
 refine t5.out.mono ?_;rintro e w3 ⟨rfl,hb3⟩;have HB3:Hid (Below w.heap.size w w3):=A2 (HB2.out.trans (hb3.mono HB2.out.size));clear t5 hb3 HB2;have HLN:Hid (∀i j,(C6 s i j).length<=950000):=A2 (fun i j=>Nat.le_trans (Qi s i j) hl);have H12:Hid ((C6 s 0 T).length<=950000):=A2 (HLN.out 0 T);have T3:(0:Int)<=(T:Int)+1:=by omega
 have l1:=HLN.out 0 T;have l2:=HLN.out (T+1) s.length;have l3:=HLN.out T s.length;have l4:(C6 ([59,35,32,48,49,50,57,95,97,120,114,119,10,45,65,90]:AS) X (X+1)).length<=16:=Qi ([59,35,32,48,49,50,57,95,97,120,114,119,10,45,65,90]:AS) X (X+1);have p1:¬9223372036854775807<(C6 s 0 T).length+(C6 s (T+1) s.length).length:=by omega
 have p2:¬9223372036854775807<(C6 s 0 T).length+(C6 ([59,35,32,48,49,50,57,95,97,120,114,119,10,45,65,90]:AS) X (X+1)).length:=by omega
 have p3:¬9223372036854775807<(C6 s 0 T).length+(C6 ([59,35,32,48,49,50,57,95,97,120,114,119,10,45,65,90]:AS) X (X+1)).length+(C6 s T s.length).length:=by omega
 have p4:¬9223372036854775807<(C6 s 0 T).length+((C6 ([59,35,32,48,49,50,57,95,97,120,114,119,10,45,65,90]:AS) X (X+1)).length+(C6 s T s.length).length):=by omega
 have p5:¬9223372036854775807<(C6 s 0 T).length+(C6 ([59,35,32,48,49,50,57,95,97,120,114,119,10,45,65,90]:AS) X (X+1)).length+(C6 s (T+1) s.length).length:=by omega
 have p6:¬9223372036854775807<(C6 s 0 T).length+((C6 ([59,35,32,48,49,50,57,95,97,120,114,119,10,45,65,90]:AS) X (X+1)).length+(C6 s (T+1) s.length).length):=by omega
 rcases(show A=0\/A=1\/A=2\/A=3 by omega) with rfl|rfl|rfl|rfl
 ·by_cases h1:(T:Int)<(s.length:Int)
  ·(have T2:(T:Int)+1<=(s.length:Int):=by omega);(go_wp2_with fail);refine wp_region_held_drew (S:=fun _=>True) (by kernel_rfl) trivial (fun hHeld=>?_);refine tk 0 ?_;refine tk 1 ?_;refine tk 2 ?_;refine tk 3 ?_;refine tk 4 ?_;refine tk 5 ?_;refine tk 6 ?_;refine tk 7 ?_;refine tk 8 ?_;refine wpAnyH_done (by kernel_rfl) ?_ _;(go_wp2_with fail);go_ret;exact⟨_,rfl,by simp only[List.length_append];omega,HB3.out.drew⟩
  ·(go_wp2_with fail);go_ret;exact⟨_,rfl,by omega,HB3.out⟩
 ·go_wp2_with fail
  refine wp_region_held_drew (S:=fun _=>True) (by kernel_rfl) trivial (fun hHeld=>?_);refine tk 0 ?_;refine tk 1 ?_;refine tk 2 ?_;refine tk 3 ?_;refine tk 4 ?_;refine tk 5 ?_;refine tk 6 ?_;refine tk 7 ?_;refine tk 8 ?_;refine tk 9 ?_;refine tk 10 ?_;refine tk 11 ?_;refine tk 12 ?_;refine tk 13 ?_;refine wpAnyH_done (by kernel_rfl) ?_ _;go_wp2_with fail
  go_ret;exact⟨_,rfl,by simp only[List.length_append];omega,HB3.out.drew⟩
 ·by_cases h1:(T:Int)<(s.length:Int)
  ·(have T2:(T:Int)+1<=(s.length:Int):=by omega);(go_wp2_with fail);refine wp_region_held_drew (S:=fun _=>True) (by kernel_rfl) trivial (fun hHeld=>?_);refine tk 0 ?_;refine tk 1 ?_;refine tk 2 ?_;refine tk 3 ?_;refine tk 4 ?_;refine tk 5 ?_;refine tk 6 ?_;refine tk 7 ?_;refine tk 8 ?_;refine tk 9 ?_;refine tk 10 ?_;refine tk 11 ?_;refine tk 12 ?_;refine tk 13 ?_;refine tk 14 ?_;refine wpAnyH_done (by kernel_rfl) ?_ _;(go_wp2_with fail);go_ret;exact⟨_,rfl,by simp only[List.length_append];omega,HB3.out.drew⟩
  ·(go_wp2_with fail);go_ret;exact⟨_,rfl,by omega,HB3.out⟩
 ·go_wp2_with fail
  go_ret;exact⟨_,rfl,by omega,HB3.out⟩
end Go.Proofs.YtnmhkgmmpkjjeaaGreat
namespace Go.Proofs.YtnmhkgmmpkjjeaaGreat
open Go.ChangeShapes Go.WideShapes Go.ChangeAt Go.RowKit
set_option linter.unusedVariables false
set_option linter.unusedSimpArgs false
set_option maxRecDepth 100000
attribute [local go_sem ↓] Go.wp_at_zero Go.wp_at_succ
attribute [local go_sem] CY Di Dm FP Du Cc
attribute [local go_sem] Qn
def Gz (cs:List Int) (p:Nat):AS:=if (p+5*Cs cs)%3=0 then B5 (AQ cs p (Cs cs)).1++Hd else B5 (AQ cs p (Cs cs)).1
theorem VL (cs:List Int) (p:Nat) (hc:Of cs) (hp:p<=90000):(AQ cs p (Cs cs)).1.length<=8/\∀j,j<(AQ cs p (Cs cs)).1.length->AB 30000 (AI AG (AQ cs p (Cs cs)).1 j):=by
 obtain⟨b0,b1⟩:=H6 cs;obtain⟨h1,h2,h3⟩:=Iw cs p hc hp (Cs cs) b1;exact⟨by omega,fun j hj=>(h3 j (by omega)).mono (by omega)⟩
theorem KQ (cs:List Int) (p:Nat) (hc:Of cs) (hp:p<=90000):(B5 (AQ cs p (Cs cs)).1).length<=900000/\(Gz cs p).length<=1000000:=by
 obtain⟨h1,h2⟩:=VL cs p hc hp;have h3:=IL _ (I8 (AQ cs p (Cs cs)).1 (AQ cs p (Cs cs)).1.length) h2 _ (Nat.le_refl _);have h4:(B5 (AQ cs p (Cs cs)).1).length<=900000:=by unfold B5;omega
 refine⟨h4,?_⟩;unfold Gz;split
 ·rw[List.length_append];have:Hd.length=32:=rfl;omega
 ·omega
set_option maxHeartbeats 2000000 in
theorem LN (a:Option Addr) (cap:Nat) (cs:List Int) (p:Nat) (w:World) (hc:Of cs) (hp:p<=90000) (hs:Qt w a cs) : Calls Tryz.prog 93 #[.slice a cs.length cap,.int .i64 (p:Int),.int .i64 1] w fun e w'=>e=.returned (.tuple #[.string (bs (Gz cs p)),.int .i64 ((p+5*Cs cs:Nat):Int)])/\Below w.heap.size w w':=by
 have t1:=KO a cap cs p w hc hp hs;obtain⟨h1,h2⟩:=VL cs p hc hp;have HD:Hid (Gz cs p=if (p+5*Cs cs)%3=0 then B5 (AQ cs p (Cs cs)).1++Hd else B5 (AQ cs p (Cs cs)).1):=A2 rfl;have HT:Hid (∀g c wX,A6 AG wX w.heap.size (.slice (some ⟨g,0,none⟩) (AQ cs p (Cs cs)).1.length c) (AQ cs p (Cs cs)).1->Calls Tryz.prog 161 #[.slice (some ⟨g,0,none⟩) (AQ cs p (Cs cs)).1.length c] wX fun e w'=>e=.returned (.string (bs (B5 (AQ cs p (Cs cs)).1)))/\Below wX.heap.size wX w'):=A2 fun g c wX h=>Gq g c w.heap.size _ wX h1 h2 h
 have hlen:=(KQ cs p hc hp).1;obtain⟨b0,b1⟩:=H6 cs;have hlg:Hd.length=32:=rfl;generalize Gz cs p=R at *;generalize B5 (AQ cs p (Cs cs)).1=T at *;generalize (AQ cs p (Cs cs)).1=l at *;clear hc hs h2;obtain⟨q,hq⟩:∃q,p+5*Cs cs=q:=⟨_,rfl⟩
 have hq1:q<=100000:=by omega
 rw[hq] at t1 HD ⊢;clear hq;obtain⟨q3,hq3⟩:∃q3:Int,(q:Int)%3=q3:=⟨_,rfl⟩
 have eq3:(q:Int).tmod 3=q3:=by rw[Int.tmod_eq_emod_of_nonneg (by omega)];exact hq3
 go_enter Tryz.func93,Tryz.ntmps93
 go_wp2_with fail
 refine t1.mono ?_;rintro e w1 ⟨g,c,rfl,hr,hb1⟩;have t2:=HT.out g c w1 hr;have HB1:Hid (Below w.heap.size w w1):=hb1;clear t1 hr hb1 HT;go_wp2_with fail
 refine t2.mono ?_;rintro e w2 ⟨rfl,hb2⟩;have HB2:Hid (Below w.heap.size w w2):=A2 (HB1.out.trans (hb2.mono HB1.out.size));clear t2 hb2;by_cases h3:q3=0
 ·have h3b:(q3==0)=true:=by simpa using h3
  have HR:Hid (R=T++Hd):=A2 (by rw[HD.out,if_pos (by omega)]);clear hq3 h3;go_wp2_with fail
  exact bodyPost_ret (v:=.tuple #[.string (bs (T++Hd)),.int .i64 (q:Int)]) (by simp[results,Tryz.results93,go_sem]) rfl ⟨by rw[HR.out],HB2.out⟩
 ·have h3b:(q3==0)=false:=by simpa using h3
  have HR:Hid (R=T):=A2 (by rw[HD.out,if_neg (by omega)]);clear hq3 h3;go_wp2_with fail
  exact bodyPost_ret (v:=.tuple #[.string (bs T),.int .i64 (q:Int)]) (by simp[results,Tryz.results93,go_sem]) rfl ⟨by rw[HR.out],HB2.out⟩
end Go.Proofs.YtnmhkgmmpkjjeaaGreat
