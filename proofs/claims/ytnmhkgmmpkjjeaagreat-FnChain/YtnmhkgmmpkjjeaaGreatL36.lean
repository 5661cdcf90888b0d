import Derived.Test.YtnmhkgmmpkjjeaaGreatL35
import Derived.Outline
import Derived.Test.YtnmhkgmmpkjjeaaGreatL12
namespace Go.Proofs.YtnmhkgmmpkjjeaaGreat
open Go.ChangeShapes Go.WideShapes Go.ChangeAt Go.RowKit
set_option linter.unusedVariables false
set_option maxRecDepth 100000
attribute [local go_sem ↓] Go.wp_at_zero Go.wp_at_succ
attribute [local go_sem] CY Di Dm FP Du Cc
def Pi:Dc St:=⟨96,6,fun s=>[.int .i64 s.kind,.string (bs s.name),.int .i64 s.a,.int .i64 s.b,.int .i64 s.perm,.bool s.extra],AP,by omega,fun _=>rfl⟩
theorem Pn:(Tryz.prog.info? 96).map (fun i=>(i.zero,i.size,i.bytes))=some (some (.agg #[.int .i64 0,.string (bs []),.int .i64 0,.int .i64 0,.int .i64 0,.bool false]),6,56):=by kernel_rfl
structure Tv (w:World) (g i:Nat) (s:St):Prop where
 lt:g<w.heap.size
 k:w.cell? ⟨g,i*6,none⟩=some (.int .i64 s.kind)
 n:w.cell? ⟨g,i*6+1,none⟩=some (.string (bs s.name))
 a:w.cell? ⟨g,i*6+2,none⟩=some (.int .i64 s.a)
 b:w.cell? ⟨g,i*6+3,none⟩=some (.int .i64 s.b)
 p:w.cell? ⟨g,i*6+4,none⟩=some (.int .i64 s.perm)
 e:w.cell? ⟨g,i*6+5,none⟩=some (.bool s.extra)
theorem Io {w:World} {b c:Nat} {a:Option Addr} {xs:List St} (h:A6 Pi w b (.slice a xs.length c) xs) (h0:0<xs.length):∃g,a=some ⟨g,0,none⟩/\∀i,i<xs.length->Tv w g i (B7 xs i):=by
 obtain⟨a',c',e,h1⟩:=h.form;obtain⟨g',N,f,e2,_,hr,hN,hf⟩:=h1 h0;have hN':xs.length*6<=N:=hN;simp only[Value.slice.injEq] at e;obtain⟨e,_,_⟩:=e;rw[e2] at e;refine⟨g',e,fun i hi=>⟨hr.lt,?_,?_,?_,?_,?_,?_⟩⟩
 ·rw[hr.cell (i:=i*6) (by omega)];exact congrArg some (hf i hi 0 (by decide))
 ·rw[hr.cell (i:=i*6+1) (by omega)];exact congrArg some (hf i hi 1 (by decide))
 ·rw[hr.cell (i:=i*6+2) (by omega)];exact congrArg some (hf i hi 2 (by decide))
 ·rw[hr.cell (i:=i*6+3) (by omega)];exact congrArg some (hf i hi 3 (by decide))
 ·rw[hr.cell (i:=i*6+4) (by omega)];exact congrArg some (hf i hi 4 (by decide))
 ·rw[hr.cell (i:=i*6+5) (by omega)];exact congrArg some (hf i hi 5 (by decide))
theorem Tv.below {w w':World} {g i:Nat} {s:St} (h:Tv w g i s) (hb:Below w.heap.size w w'):Tv w' g i s :=
 ⟨Nat.lt_of_lt_of_le h.lt hb.size,(hb.cell (p:=⟨g,_,none⟩) h.lt).trans h.k,(hb.cell (p:=⟨g,_,none⟩) h.lt).trans h.n,(hb.cell (p:=⟨g,_,none⟩) h.lt).trans h.a,(hb.cell (p:=⟨g,_,none⟩) h.lt).trans h.b,(hb.cell (p:=⟨g,_,none⟩) h.lt).trans h.p,(hb.cell (p:=⟨g,_,none⟩) h.lt).trans h.e⟩
def Oh (w:World) (a:Option Addr) (xs:List St):Prop:=0<xs.length->∃g,a=some ⟨g,0,none⟩/\∀i,i<xs.length->Tv w g i (B7 xs i)
theorem Oh.below {w w':World} {a:Option Addr} {xs:List St} (h:Oh w a xs) (hb:Below w.heap.size w w'):Oh w' a xs:=fun h0=>by
 obtain⟨g,e,hc⟩:=h h0;exact⟨g,e,fun i hi=>(hc i hi).below hb⟩
set_option maxHeartbeats 1000000 in
theorem DY (a:Option Addr) (c:Nat) (all:List St) (n:AS) (w:World) (hle:all.length<=1000) (hr:Oh w a all) : Calls Tryz.prog 100 #[.slice a all.length c,.string (bs n)] w fun e w'=>e=.returned (Bn (CF all n))/\Below w.heap.size w w':=by
 have HR:Hid (∀wX,Below w.heap.size w wX->Oh wX a all):=A2 fun wX hX=>hr.below hX
 clear hr;go_enter Tryz.func100,Tryz.ntmps100
 go_wp2_with fail
 go_loopw [5] (fun iv wr=>∃(k:Nat),k<=all.length/\iv=.int .i64 k/\Hid (∀j,j<k->F8 n (B7 all j)=false)/\wr=w.alloc (.cells #[.int .i64 0,.string (bs []),.int .i64 0,.int .i64 0,.int .i64 0,.bool false] 96)) (fun iv _=>all.length-(intOf iv).toNat)
 case atStart=>exact⟨0,Nat.zero_le _,rfl,A2 fun j hj=>absurd hj (by omega),rfl⟩
 case round =>
  obtain⟨k,hk,rfl,HO,rfl⟩:=hrel;by_cases hlt:k<all.length
  ·(have L1:(0:Int)<=(k:Int):=by omega);(have L2:(k:Int)<(all.length:Int):=by omega);obtain⟨g,rfl,hc⟩:=HR.out _ (Below.refl _ _) (by omega);obtain⟨hg,c0,c1,c2,c3,c4,c5⟩:=hc k hlt;(have HS:Hid (F8 n (B7 all k)=true->CF all n=B7 all k):=A2 fun h=>Rx hlt HO.out h);have HN:Hid (F8 n (B7 all k)=false->∀j,j<k+1->F8 n (B7 all j)=false):=A2 fun h j hj=>by
    by_cases e:j=k
    ·rw[e];exact h
    ·exact HO.out j (by omega)
   (obtain⟨s,hs⟩:∃s,B7 all k=s:=⟨_,rfl⟩);rw[hs] at c0 c1 c2 c3 c4 c5 HS HN;obtain⟨K,M,A,B,P,X⟩:=s;dsimp only at c0 c1 c2 c3 c4 c5;clear hs hc;cases hK:K==1
   ·have HF:Hid _:=HN.out (by unfold F8;rw[hK];rfl);(go_wp2_with fail);go_roundw;(case rel=>exact⟨k+1,by omega,by go_num,HF,by first|rfl|trivial⟩);case measure=>first|(simp[intOf];done)|(simp[intOf];omega)
   ·cases hM:M==n
    ·have HF:Hid _:=HN.out (by unfold F8;rw[hK,hM];rfl);(go_wp2_with fail);go_roundw;(case rel=>exact⟨k+1,by omega,by go_num,HF,by first|rfl|trivial⟩);case measure=>first|(simp[intOf];done)|(simp[intOf];omega)
    ·have HF:Hid _:=HS.out (by unfold F8;rw[hK,hM];rfl);(go_wp2_with fail);refine bodyPost_ret (v:=Bn ⟨K,M,A,B,P,X⟩) (by simp[results,Tryz.results100,go_sem,Bn]) rfl ⟨by rw[HF.out],?_⟩;repeat (first|exact Below.refl _ _|with_reducible refine Below.drew ?_|with_reducible refine Below.setCell ?_ (by first|omega|(simp<;>omega)) _|with_reducible refine Below.alloc ?_ (by first|omega|(simp<;>omega)) _)
  ·have HF:Hid (CF all n=AP):=A2 (PS fun j hj=>HO.out j (by omega));(go_wp2_with fail);refine bodyPost_ret (v:=Bn AP) (by simp[results,Tryz.results100,go_sem,Bn,AP]) rfl ⟨by rw[HF.out],?_⟩;repeat (first|exact Below.refl _ _|with_reducible refine Below.drew ?_|with_reducible refine Below.setCell ?_ (by first|omega|(simp<;>omega)) _|with_reducible refine Below.alloc ?_ (by first|omega|(simp<;>omega)) _)
theorem Na (k a b p:Int) (m:ByteArray) (x:Bool) (w:World):(Instr.field 96 (.agg #[.int .i64 k,.string m,.int .i64 a,.int .i64 b,.int .i64 p,.bool x]) 2).run Tryz.prog w=.ok (.int .i64 a) w:=by rfl
theorem Fb (a:Option Addr) (c:Nat) (all:List St) (s:St) (w:World) (hle:all.length<=1000) (hr:Oh w a all) : Calls Tryz.prog 102 #[.slice a all.length c,Bn s] w fun e w'=>e=.returned (.int .i64 (Fy all s))/\Below w.heap.size w w':=by
 obtain⟨K,M,A,B,P,X⟩:=s;unfold Bn;dsimp only;obtain⟨R,hR⟩:∃R,CF all M=R:=⟨_,rfl⟩
 obtain⟨k2,m2,a2,b2,p2,x2⟩:=R;have HO:Hid (∀wX,Below w.heap.size w wX->Calls Tryz.prog 100 #[.slice a all.length c,.string (bs M)] wX fun e w'=>e=.returned (.agg #[.int .i64 k2,.string (bs m2),.int .i64 a2,.int .i64 b2,.int .i64 p2,.bool x2])/\Below wX.heap.size wX w'):=A2 fun wX hX=>by
  have:=DY a c all M wX hle (hr.below hX);rw[hR] at this;exact this
 clear hr;have HRR:Hid _:=hR;cases hK:K==3
 ·have HF:Hid (Fy all ⟨K,M,A,B,P,X⟩=a2):=A2 <| by unfold Fy;rw[if_neg (by rw[hK];decide),hR]
  have hfl:=Na;go_enter Tryz.func102,Tryz.ntmps102
  go_wp2_with (go_at_call 100;refine(HO.out _ (Ao)).mono ?_;rintro e w1 ⟨rfl,hb1⟩)
  go_ret;refine⟨by rw[HF.out];rfl,?_⟩;exact Ao.trans (hb1.mono (by simp))
 ·have HF:Hid (Fy all ⟨K,M,A,B,P,X⟩=B):=A2 <| by unfold Fy;rw[if_pos hK]
  go_enter Tryz.func102,Tryz.ntmps102
  go_wp2_with fail
  go_ret;refine⟨by rw[HF.out];rfl,?_⟩;repeat (first|exact Below.refl _ _|with_reducible refine Below.drew ?_|with_reducible refine Below.setCell ?_ (by first|omega|(simp<;>omega)) _|with_reducible refine Below.alloc ?_ (by first|omega|(simp<;>omega)) _)
theorem Ha (p a q b:Int) (h0:0<=p/\p<1000000) (h1:0<=a/\a<1000000) (h2:0<=q/\q<1000000) (h3:0<=b/\b<1000000) (w:World) : Calls Tryz.prog 101 #[.int .i64 p,.int .i64 a,.int .i64 q,.int .i64 b] w fun e w'=>e=.returned (.bool (KX p a q b))/\w'=w:=by
 unfold KX;by_cases c:p<q+b
 ·have c':decide (p<q+b)=true:=decide_eq_true c;by_cases d:q<p+a
  ·have d':decide (q<p+a)=true:=decide_eq_true d;rw[c',d'];(go_enter Tryz.func101,Tryz.ntmps101);(go_wp2_with fail);go_ret;exact⟨rfl,rfl⟩
  ·have d':decide (q<p+a)=false:=decide_eq_false d;rw[c',d'];(go_enter Tryz.func101,Tryz.ntmps101);(go_wp2_with fail);go_ret;exact⟨rfl,rfl⟩
 ·have c':decide (p<q+b)=false:=decide_eq_false c;rw[c'];go_enter Tryz.func101,Tryz.ntmps101
  go_wp2_with fail
  go_ret;exact⟨by first|rfl|simp,rfl⟩
theorem W6 (a:Option Addr) (c:Nat) (all:List St) (M:AS) (A B P:Int) (X:Bool) (w:World) : Calls Tryz.prog 37 #[.slice a all.length c,Bn ⟨0,M,A,B,P,X⟩] w fun e w'=>e=.returned (.int .i64 4)/\Below w.heap.size w w':=by
 unfold Bn;dsimp only;go_enter Tryz.func37,Tryz.ntmps37
 go_wp2_with fail
 go_ret;refine⟨rfl,?_⟩;repeat (first|exact Below.refl _ _|with_reducible refine Below.drew ?_|with_reducible refine Below.setCell ?_ (by first|omega|(simp<;>omega)) _|with_reducible refine Below.alloc ?_ (by first|omega|(simp<;>omega)) _)
set_option maxHeartbeats 4000000 in
theorem Vq (a:Option Addr) (c:Nat) (all:List St) (M:AS) (A B P:Int) (X:Bool) (w:World) (hle:all.length<=1000) (hr:Oh w a all) (hall:∀t∈all,EX t) (ha:0<=A/\A<1000000) (hb:0<=B/\B<1000000) : Calls Tryz.prog 37 #[.slice a all.length c,Bn ⟨1,M,A,B,P,X⟩] w fun e w'=>e=.returned (.int .i64 (BP all ⟨1,M,A,B,P,X⟩))/\Below w.heap.size w w':=by
 obtain⟨R,hR⟩:∃R,CF all M=R:=⟨_,rfl⟩
 obtain⟨k2,m2,a2,b2,p2,x2⟩:=R;have HO:Hid (∀wX,Below w.heap.size w wX->Calls Tryz.prog 100 #[.slice a all.length c,.string (bs M)] wX fun e w'=>e=.returned (.agg #[.int .i64 k2,.string (bs m2),.int .i64 a2,.int .i64 b2,.int .i64 p2,.bool x2])/\Below wX.heap.size wX w'):=A2 fun wX hX=>by
  have:=DY a c all M wX hle (hr.below hX);rw[hR] at this;exact this
 have HC:Hid (∀wX,Below (w.alloc (.cells #[.int .i64 1,.string (bs M),.int .i64 A,.int .i64 B,.int .i64 P,.bool X] 96)).heap.size (w.alloc (.cells #[.int .i64 1,.string (bs M),.int .i64 A,.int .i64 B,.int .i64 P,.bool X] 96)) wX->Oh wX a all/\wX.cell? ⟨w.heap.size,2,none⟩=some (.int .i64 A)/\wX.cell? ⟨w.heap.size,3,none⟩=some (.int .i64 B)/\wX.cell? ⟨w.heap.size,0,none⟩=some (.int .i64 1)/\wX.cell? ⟨w.heap.size,1,none⟩=some (.string (bs M))):=A2 fun wX hX=>by
  refine⟨(hr.below Ao).below hX,?_,?_,?_,?_⟩<;>(rw[hX.cell (by simp)];simp)
 have HOK:Hid _:=hall;have HBW:Hid (Below w.heap.size w (w.alloc (.cells #[.int .i64 1,.string (bs M),.int .i64 A,.int .i64 B,.int .i64 P,.bool X] 96))):=Ao;have HAB:Hid ((0<=A/\A<1000000)/\(0<=B/\B<1000000)):=⟨ha,hb⟩;have HX1:Hid (BP all ⟨1,M,A,B,P,X⟩=if k2==1 then 5 else if A==0||decide (65536<B+A) then 7 else if all.any (Fp ⟨1,M,A,B,P,X⟩) then 8 else 0):=A2 <| by
  show (if (1:Int)==0 then (4:Int) else if (1:Int)==1 then _ else _)=_;rw[if_neg (by decide),if_pos (by decide)];dsimp only;rw[hR]
 have HSZ:(w.alloc (.cells #[.int .i64 1,.string (bs M),.int .i64 A,.int .i64 B,.int .i64 P,.bool X] 96)).heap.size=w.heap.size+1:=by simp
 have HSZ2:Hid _:=HSZ;clear hr hall hR HSZ;unfold Bn;dsimp only;cases h1:k2==1
 ·by_cases hA:A=0
  ·(have HV:Hid (BP all ⟨1,M,A,B,P,X⟩=7):=A2 <| by rw[HX1.out,h1,if_neg (by decide),if_pos (by simp[hA])]);(have e0:(A==0)=true:=by simp[hA]);clear hA;(go_enter Tryz.func37,Tryz.ntmps37);(go_wp2_with fail);refine(HO.out _ Ao).mono ?_;rintro e w1 ⟨rfl,hb1⟩;obtain⟨-,q2,q3,q0,q5⟩:=HC.out w1 hb1;(have hz1:w.heap.size<w1.heap.size:=by have:=hb1.size;rw[HSZ2.out] at this;omega);(go_wp2_with fail);go_ret;refine⟨by rw[HV.out];rfl,?_⟩;exact HBW.out.trans ((hb1.alloc hb1.size _).mono (by simp))
  ·(have e0:(A==0)=false:=by simp[hA]);by_cases hL:65536<B+A
   ·(have HV:Hid (BP all ⟨1,M,A,B,P,X⟩=7):=A2 <| by rw[HX1.out,h1,if_neg (by decide),if_pos (by simp[hL])]);clear hA;(go_enter Tryz.func37,Tryz.ntmps37);(go_wp2_with fail);refine(HO.out _ Ao).mono ?_;rintro e w1 ⟨rfl,hb1⟩;obtain⟨-,q2,q3,q0,q5⟩:=HC.out w1 hb1;(have hz1:w.heap.size<w1.heap.size:=by have:=hb1.size;rw[HSZ2.out] at this;omega);(go_wp2_with fail);go_ret;refine⟨by rw[HV.out];rfl,?_⟩;exact HBW.out.trans ((hb1.alloc hb1.size _).mono (by simp))
   ·(have hL':B+A<=65536:=by omega);(have HX2:Hid (BP all ⟨1,M,A,B,P,X⟩=if all.any (Fp ⟨1,M,A,B,P,X⟩) then 8 else 0):=A2 <| by rw[HX1.out,h1,if_neg (by decide),if_neg (by simp[hL,hA])]);clear hA hL;(go_enter Tryz.func37,Tryz.ntmps37);(go_wp2_with fail);refine(HO.out _ Ao).mono ?_;rintro e w1 ⟨rfl,hb1⟩;obtain⟨-,q2,q3,q0,q5⟩:=HC.out w1 hb1;(have hz1:w.heap.size<w1.heap.size:=by have:=hb1.size;rw[HSZ2.out] at this;omega);(go_wp2_with fail);(go_loopw [6] (fun iv wr=>∃(k:Nat),k<=all.length/\iv=.int .i64 k/\Hid (∀j,j<k->Fp ⟨1,M,A,B,P,X⟩ (B7 all j)=false)/\Below (w.alloc (.cells #[.int .i64 1,.string (bs M),.int .i64 A,.int .i64 B,.int .i64 P,.bool X] 96)).heap.size (w.alloc (.cells #[.int .i64 1,.string (bs M),.int .i64 A,.int .i64 B,.int .i64 P,.bool X] 96)) wr) (fun iv _=>all.length-(intOf iv).toNat));(case atStart=>exact⟨0,Nat.zero_le _,rfl,A2 fun j hj=>absurd hj (by omega),hb1.alloc hb1.size _⟩);case round =>
     obtain⟨k,hk,rfl,HJ,hbel⟩:=hrel;have HB:Hid _:=hbel;have hsz:=hbel.size;rw[HSZ2.out] at hsz;clear hbel;by_cases hlt:k<all.length
     ·obtain⟨hR0,cA,cB,-,-⟩:=HC.out wr HB.out;obtain⟨g,rfl,hcc⟩:=hR0 (by omega);have HKK0:Hid (∀wX,Below (w.alloc (.cells #[.int .i64 1,.string (bs M),.int .i64 A,.int .i64 B,.int .i64 P,.bool X] 96)).heap.size (w.alloc (.cells #[.int .i64 1,.string (bs M),.int .i64 A,.int .i64 B,.int .i64 P,.bool X] 96)) wX->Tv wX g k (B7 all k)):=A2 fun wX hX=>by
       obtain⟨hR1,_⟩:=HC.out wX hX;obtain⟨g',e,hcc'⟩:=hR1 (by omega);simp only[Option.some.injEq,Addr.mk.injEq,and_true] at e;rw[e];exact hcc' k hlt
      obtain⟨hg,c0,c1,c2,c3,c4,c5⟩:=hcc k hlt;have HOKk:Hid _:=Hq HOK.out k;(obtain⟨s1,hs1⟩:∃s1,B7 all k=s1:=⟨_,rfl⟩);rw[hs1] at c0 c1 c2 c3 c4 c5 HOKk HKK0;obtain⟨K1,M1,A1,B1,P1,X1⟩:=s1;dsimp only at c0 c1 c2 c3 c4 c5;have HE:Hid _:=hs1;(have HKK:Hid (∀wX,Below (w.alloc (.cells #[.int .i64 1,.string (bs M),.int .i64 A,.int .i64 B,.int .i64 P,.bool X] 96)).heap.size (w.alloc (.cells #[.int .i64 1,.string (bs M),.int .i64 A,.int .i64 B,.int .i64 P,.bool X] 96)) wX->(fun wX=>wX.cell? ⟨g,k*6,none⟩=some (.int .i64 K1)/\wX.cell? ⟨g,k*6+2,none⟩=some (.int .i64 A1)/\wX.cell? ⟨g,k*6+3,none⟩=some (.int .i64 B1)/\wX.cell? ⟨w.heap.size,2,none⟩=some (.int .i64 A)/\wX.cell? ⟨w.heap.size,3,none⟩=some (.int .i64 B)) wX):=A2 fun wX hX=>⟨(HKK0.out wX hX).k,(HKK0.out wX hX).a,(HKK0.out wX hX).b,(HC.out wX hX).2.1,(HC.out wX hX).2.2.1⟩);have HM:Hid _:=Ha B A B1 A1 HAB.out.2 HAB.out.1 ⟨HOKk.out.b0,HOKk.out.b1⟩ ⟨HOKk.out.a0,HOKk.out.a1⟩;(have L1:(0:Int)<=(k:Int):=by omega);(have L2:(k:Int)<(all.length:Int):=by omega);clear hs1 hcc hR0 c1 c4 c5;cases hK1:K1==1
      ·(have HF:Hid (Fp ⟨1,M,A,B,P,X⟩ ⟨K1,M1,A1,B1,P1,X1⟩=false):=A2 <| by unfold Fp;rw[hK1];rfl);(go_wp2_with fail);refine wp_region_held_drew (S:=(fun wX=>wX.cell? ⟨g,k*6,none⟩=some (.int .i64 K1)/\wX.cell? ⟨g,k*6+2,none⟩=some (.int .i64 A1)/\wX.cell? ⟨g,k*6+3,none⟩=some (.int .i64 B1)/\wX.cell? ⟨w.heap.size,2,none⟩=some (.int .i64 A)/\wX.cell? ⟨w.heap.size,3,none⟩=some (.int .i64 B))) (by kernel_rfl) (HKK.out _ HB.out.drew) (fun hHeld=>?_);refine tk 0 ?_;refine tk 1 ?_;refine tk 2 ?_;refine tk 3 ?_;refine tk 4 ?_;refine tk 5 ?_;refine tk 6 ?_;refine sk 7 ?_;refine sk 8 ?_;refine sk 9 ?_;refine sk 10 ?_;refine sk 11 ?_;refine sk 12 ?_;refine sk 13 ?_;refine sk 14 ?_;refine sk 15 ?_;refine sk 16 ?_;refine sk 17 ?_;refine sk 18 ?_;refine sk 19 ?_;refine sk 20 ?_;refine sk 21 ?_;refine tk 22 ?_;refine wpAnyH_done (by kernel_rfl) ?_ _;(go_wp2_with fail);go_roundw
       case rel=>exact⟨k+1,by omega,by go_num,A2 fun j hj=>by
         by_cases e:j=k
         ·rw[e,HE.out];exact HF.out
         ·exact HJ.out j (by omega),HB.out.drew⟩
       case measure=>first|(simp[intOf];done)|(simp[intOf];omega)
      ·cases hm:KX B A B1 A1<;>rw[hm] at HM
       ·(have HF:Hid (Fp ⟨1,M,A,B,P,X⟩ ⟨K1,M1,A1,B1,P1,X1⟩=false):=A2 <| by unfold Fp;rw[hK1];exact hm);clear hm;(go_wp2_with fail);refine wp_region_held_drew (S:=(fun wX=>wX.cell? ⟨g,k*6,none⟩=some (.int .i64 K1)/\wX.cell? ⟨g,k*6+2,none⟩=some (.int .i64 A1)/\wX.cell? ⟨g,k*6+3,none⟩=some (.int .i64 B1)/\wX.cell? ⟨w.heap.size,2,none⟩=some (.int .i64 A)/\wX.cell? ⟨w.heap.size,3,none⟩=some (.int .i64 B))) (by kernel_rfl) (HKK.out _ HB.out.drew) (fun hHeld=>?_);refine tk 0 ?_;refine tk 1 ?_;refine tk 2 ?_;refine tk 3 ?_;refine tk 4 ?_;refine tk 5 ?_;refine tk 6 ?_;refine tk 7 ?_;refine tk 8 ?_;refine tk 9 ?_;refine tk 10 ?_;refine tk 11 ?_;refine tk 12 ?_;refine tk 13 ?_;refine tk 14 ?_;refine tk 15 ?_;refine tk 16 ?_;refine tk 17 ?_;refine tk 18 ?_;refine tk 19 ?_;refine tk 20 ?_;refine wpAnyH_ready (rs:=[21]) (by kernel_rfl) (by simp) ?_;refine AllReadyH.cons rfl (fun K hK=>?_) AllReadyH.nil;go_simp;(go_at_call 101);refine(HM.out _).mono ?_;rintro e w2 ⟨rfl,hw2⟩;obtain rfl:=hw2.symm;(go_wp2_with fail);refine hK.out _ _ (HKK.out _ HB.out.drew) (fun hHeld2=>?_);clear hK K;refine tk 22 ?_;refine wpAnyH_done (by kernel_rfl) ?_ _;(go_wp2_with fail);go_roundw
        case rel=>exact⟨k+1,by omega,by go_num,A2 fun j hj=>by
          by_cases e:j=k
          ·rw[e,HE.out];exact HF.out
          ·exact HJ.out j (by omega),HB.out.drew⟩
        case measure=>first|(simp[intOf];done)|(simp[intOf];omega)
       ·have HV:Hid (BP all ⟨1,M,A,B,P,X⟩=8):=A2 <| by
         rw[HX2.out,MD hlt (by rw[HE.out];unfold Fp;rw[hK1];exact hm)];rfl
        clear hm;(go_wp2_with fail);refine wp_region_held_drew (S:=(fun wX=>wX.cell? ⟨g,k*6,none⟩=some (.int .i64 K1)/\wX.cell? ⟨g,k*6+2,none⟩=some (.int .i64 A1)/\wX.cell? ⟨g,k*6+3,none⟩=some (.int .i64 B1)/\wX.cell? ⟨w.heap.size,2,none⟩=some (.int .i64 A)/\wX.cell? ⟨w.heap.size,3,none⟩=some (.int .i64 B))) (by kernel_rfl) (HKK.out _ HB.out.drew) (fun hHeld=>?_);refine tk 0 ?_;refine tk 1 ?_;refine tk 2 ?_;refine tk 3 ?_;refine tk 4 ?_;refine tk 5 ?_;refine tk 6 ?_;refine tk 7 ?_;refine tk 8 ?_;refine tk 9 ?_;refine tk 10 ?_;refine tk 11 ?_;refine tk 12 ?_;refine tk 13 ?_;refine tk 14 ?_;refine tk 15 ?_;refine tk 16 ?_;refine tk 17 ?_;refine tk 18 ?_;refine tk 19 ?_;refine tk 20 ?_;refine wpAnyH_ready (rs:=[21]) (by kernel_rfl) (by simp) ?_;refine AllReadyH.cons rfl (fun K hK=>?_) AllReadyH.nil;go_simp;(go_at_call 101);refine(HM.out _).mono ?_;rintro e w2 ⟨rfl,hw2⟩;obtain rfl:=hw2.symm;(go_wp2_with fail);refine hK.out _ _ (HKK.out _ HB.out.drew) (fun hHeld2=>?_);clear hK K;refine tk 22 ?_;refine wpAnyH_done (by kernel_rfl) ?_ _;(go_wp2_with fail);go_ret;exact⟨by rw[HV.out];rfl,HBW.out.trans (HB.out.drew.mono (by simp))⟩
     ·have HV:Hid (BP all ⟨1,M,A,B,P,X⟩=0):=A2 <| by
       rw[HX2.out,Jr (fun j hj=>HJ.out j (by omega))];rfl
      (go_wp2_with fail);go_ret;exact⟨by rw[HV.out];rfl,HBW.out.trans (HB.out.mono (by simp))⟩
 ·have HV:Hid (BP all ⟨1,M,A,B,P,X⟩=5):=A2 <| by rw[HX1.out,h1];rfl
  go_enter Tryz.func37,Tryz.ntmps37
  go_wp2_with fail
  refine(HO.out _ Ao).mono ?_;rintro e w1 ⟨rfl,hb1⟩;obtain⟨-,q2,q3,q0,q5⟩:=HC.out w1 hb1;have hz1:w.heap.size<w1.heap.size:=by have:=hb1.size;rw[HSZ2.out] at this;omega
  go_wp2_with fail
  go_ret;refine⟨by rw[HV.out];rfl,?_⟩;exact HBW.out.trans ((hb1.alloc hb1.size _).mono (by simp))
def Oi (all:List St) (page:Int) (s:St):Bool:=s.kind==2&&(decide (s.a<=page)&&decide (page<s.a+(CF all s.name).a))
def MB:AF:=⟨0,0,0,0,false⟩
def JW (all:List St) (page:Int) (s:St):AF:=⟨page,1,(CF all s.name).b+page-s.a,s.perm,s.extra⟩
def CQ (all:List St) (page:Int):AF:=match all.find? (Oi all page) with
 | some s=>JW all page s
 | none=>MB
def QS (s:AF):Value:=.agg #[.int .i64 s.page,.int .i64 s.count,.int .i64 s.out,.int .i64 s.perm,.bool s.huge]
theorem Ld {all xs:List St} {page:Int}:∀{xs:List St} (k:Nat),k<xs.length->(∀j,j<k->Oi all page (B7 xs j)=false)->Oi all page (B7 xs k)=true->xs.find? (Oi all page)=some (B7 xs k)
 | [],k,hk,_,_=>absurd hk (by simp)
 | x :: r,0,_,_,h=>by
  have h':Oi all page x=true:=h;rw[List.find?_cons_of_pos (by exact h')];rfl
 | x :: r,k+1,hk,hn,h=>by
  have h0:Oi all page x=false:=hn 0 (by omega);rw[List.find?_cons_of_neg (by rw[h0];decide)];exact Ld (xs:=r) k (by simpa using hk) (fun j hj=>hn (j+1) (by omega)) h
theorem PU {all:List St} {page:Int} {xs:List St} (h:∀j,j<xs.length->Oi all page (B7 xs j)=false):xs.find? (Oi all page)=none:=by
 rw[List.find?_eq_none];intro x hx;obtain⟨i,hi,rfl⟩:=List.getElem_of_mem hx;have:=h i hi;unfold B7 at this;rw[List.getD_eq_getElem?_getD,List.getElem?_eq_getElem hi] at this;have h2:Oi all page xs[i]=false:=this;rw[h2];decide
set_option maxHeartbeats 4000000 in
theorem Oc (a:Option Addr) (c:Nat) (all:List St) (page:Int) (w:World) (hle:all.length<=1000) (hok:∀s∈all,EX s) (hp0:0<=page) (hp1:page<4096) (hr:Oh w a all) : Calls Tryz.prog 104 #[.slice a all.length c,.int .i64 page] w fun e w'=>e=.returned (QS (CQ all page))/\Below w.heap.size w w':=by
 obtain⟨wb,hwb⟩:∃wb,wb=w.alloc (.cells #[.int .i64 0,.int .i64 0,.int .i64 0,.int .i64 0,.bool false] 103):=⟨_,rfl⟩
 have hbb:Below w.heap.size w wb:=by rw[hwb];exact Ao
 have hzb:w.heap.size<wb.heap.size:=by rw[hwb];simp
 have HQ:Hid (∀wX,Below wb.heap.size wb wX->(wX.cell? ⟨w.heap.size,0,none⟩=some (.int .i64 0)/\wX.cell? ⟨w.heap.size,1,none⟩=some (.int .i64 0)/\wX.cell? ⟨w.heap.size,2,none⟩=some (.int .i64 0)/\wX.cell? ⟨w.heap.size,3,none⟩=some (.int .i64 0)/\wX.cell? ⟨w.heap.size,4,none⟩=some (.bool false))/\(wX.frozen? ⟨w.heap.size,0,none⟩=false/\wX.frozen? ⟨w.heap.size,1,none⟩=false/\wX.frozen? ⟨w.heap.size,2,none⟩=false/\wX.frozen? ⟨w.heap.size,3,none⟩=false/\wX.frozen? ⟨w.heap.size,4,none⟩=false)):=A2 fun wX hX=>by
  refine⟨⟨?_,?_,?_,?_,?_⟩,⟨?_,?_,?_,?_,?_⟩⟩;iterate 5 (exact(hX.cell (by simpa using hzb)).trans (by rw[hwb];simp[go_sem]))
  iterate 5 (exact(hX.frozen (by simpa using hzb)).trans (by rw[hwb];simp[go_sem]))
 have HR:Hid (∀wX,Below wb.heap.size wb wX->Oh wX a all):=A2 fun wX hX=>hr.below (hbb.trans (hX.mono (by omega)))
 have HO:Hid (∀n wX,Below wb.heap.size wb wX->Calls Tryz.prog 100 #[.slice a all.length c,.string (bs n)] wX fun e w'=>e=.returned (Bn (CF all n))/\Below wX.heap.size wX w'):=A2 fun n wX hX=>DY a c all n wX hle (HR.out wX hX)
 have HOK:Hid (∀s∈all,EX s):=hok;have HGW:Hid (∀g,a=some ⟨g,0,none⟩->0<all.length->g<w.heap.size):=A2 fun g e h0=>by
  obtain⟨g',e',hc⟩:=hr h0;rw[e] at e';simp only[Option.some.injEq,Addr.mk.injEq,and_true] at e';rw[e'];exact(hc 0 h0).lt
 have HBB:Hid (Below w.heap.size w wb):=hbb;have HWB:Hid (wb=_):=hwb;have HB0:Hid (Below wb.heap.size wb (w.alloc (.cells #[.int .i64 0,.int .i64 0,.int .i64 0,.int .i64 0,.bool false] 103))):=A2 (by rw[<- hwb];exact Below.refl _ _);clear hwb hbb hr hok;unfold QS;go_enter Tryz.func104,Tryz.ntmps104
 go_wp2_with fail
 go_loopw [5] (fun iv wr=>∃k:Nat,k<=all.length/\iv=.int .i64 (k:Int)/\Hid (∀j,j<k->Oi all page (B7 all j)=false)/\Below wb.heap.size wb wr) (fun iv _=>all.length-(intOf iv).toNat)
 case atStart=>exact⟨0,Nat.zero_le _,rfl,A2 fun j hj=>absurd hj (by omega),HB0.out⟩
 case round =>
  obtain⟨k,hk,rfl,HJ,hb⟩:=hrel;have sr:=hb.size;by_cases hlt:k<all.length
  ·obtain⟨g,rfl,hcs⟩:=HR.out wr hb (by omega);have hst:=hcs k hlt
   have hbk:=HOK.out (B7 all k) (by
    unfold B7
    rw[List.getD_eq_getElem?_getD,List.getElem?_eq_getElem hlt]
    exact List.getElem_mem hlt)
   have hob:=Hz HOK.out (B7 all k).name;have ho:=HO.out (B7 all k).name wr hb;have HPC:Hid (Oi all page (B7 all k)=true->CQ all page=JW all page (B7 all k)):=A2 fun h=>by
    unfold CQ;rw[Ld (all:=all) (xs:=all) k hlt HJ.out h]
   have HIN:Hid (Oi all page (B7 all k)=((B7 all k).kind==2&&(decide ((B7 all k).a<=page)&&decide (page<(B7 all k).a+(CF all (B7 all k).name).a)))):=A2 rfl;have HNX:Hid (Oi all page (B7 all k)=false->∀j,j<k+1->Oi all page (B7 all j)=false):=A2 fun h j hj=>by
    by_cases e:j=k
    ·rw[e];exact h
    ·exact HJ.out j (by omega)
   unfold JW at HPC;generalize Oi all page (B7 all k)=IN at *;generalize CF all (B7 all k).name=OB at *;generalize B7 all k=SS at *;obtain⟨SK,SN,A,B,P,X⟩:=SS;obtain⟨OK,ON,OA,OB,OP,OX⟩:=OB;obtain⟨hgl,c0,c1,c2,c3,c4,c5⟩:=hst;obtain⟨a1,a2,a3,a4,a5,a6⟩:=hbk;obtain⟨d1,d2,d3,d4,d5,d6⟩:=hob;unfold Bn at ho;dsimp only at *;(have K1:(0:Int)<=(k:Int):=by omega);(have K2:(k:Int)<(all.length:Int):=by omega);have HB:Hid (Below _ wb wr):=hb;clear hb hcs;by_cases h2:SK=2
   ·subst h2;(go_wp2_with fail);refine ho.mono ?_;rintro e w1 ⟨rfl,hb1'⟩;have hb1:Below wb.heap.size wb w1:=HB.out.trans (hb1'.mono sr);have s1:=hb1.size;(obtain⟨wo,hwo⟩:∃wo,wo=w1.alloc (.cells #[.int .i64 OK,.string (bs ON),.int .i64 OA,.int .i64 OB,.int .i64 OP,.bool OX] 96):=⟨_,rfl⟩);(have hbo:Below wb.heap.size wb wo:=by rw[hwo];exact hb1.alloc s1 _);(have zo:w1.heap.size<wo.heap.size:=by rw[hwo];simp);(have hbro:Below wr.heap.size wr wo:=by rw[hwo];exact hb1'.alloc hb1'.size _);have HKK:Hid (∀wX,Below wo.heap.size wo wX->wX.cell? ⟨g,k*6+2,none⟩=some (.int .i64 A)/\wX.cell? ⟨g,k*6+4,none⟩=some (.int .i64 P)/\wX.cell? ⟨g,k*6+5,none⟩=some (.bool X)/\wX.cell? ⟨w1.heap.size,2,none⟩=some (.int .i64 OA)/\wX.cell? ⟨w1.heap.size,3,none⟩=some (.int .i64 OB)):=A2 fun wX hX=>by
     have hbx:Below wr.heap.size wr wX:=hbro.trans (hX.mono hbro.size);refine⟨(hbx.cell hgl).trans c2,(hbx.cell hgl).trans c4,(hbx.cell hgl).trans c5,?_,?_⟩;iterate 2 (exact(hX.cell (by simpa using zo)).trans (by rw[hwo];simp[go_sem]))
    have HBO:Hid (Below _ wb wo):=hbo;have HWO:Hid (wo=_):=hwo;(have gz:g<wo.heap.size:=by have:=hbro.size;omega);obtain⟨k2,k4,k5,o2,o3⟩:=HKK.out wo (Below.refl _ _);have gw:=HGW.out g rfl (by omega);(have ng1:g≠w.heap.size:=by omega);(have ng2:w.heap.size≠g:=by omega);(have ng3:w1.heap.size≠w.heap.size:=by omega);(have ng4:w.heap.size≠w1.heap.size:=by omega);obtain⟨⟨q0,q1,q2,q3,q4⟩,⟨f0,f1,f2,f3,f4⟩⟩:=HQ.out wo hbo;clear hb1' hb1 hbo hwo hbro ho c0 c1 c2 c3 c4 c5;(go_upto_region 6 with fail);rw[<- HWO.out];by_cases hlo:A<=page
    ·(have hlob:decide (A<=page)=true:=by simpa using hlo);by_cases hhi:page<A+OA
     ·(have hhib:decide (page<A+OA)=true:=by simpa using hhi);(have W1:IntKind.i64.wrap (OB+page)=OB+page:=by rw[IntKind.wrap_i64];omega);(have W2:IntKind.i64.wrap (OB+page-A)=OB+page-A:=by rw[IntKind.wrap_i64];omega);have HV:Hid (CQ all page=⟨page,1,OB+page-A,P,X⟩):=A2 (HPC.out (by rw[HIN.out];simp[hlo,hhi]));(go_quiet (fail));(go_wp2_with fail);refine wp_region_held_drew (S:=(fun wX=>wX.cell? ⟨g,k*6+2,none⟩=some (.int .i64 A)/\wX.cell? ⟨g,k*6+4,none⟩=some (.int .i64 P)/\wX.cell? ⟨g,k*6+5,none⟩=some (.bool X)/\wX.cell? ⟨w1.heap.size,2,none⟩=some (.int .i64 OA)/\wX.cell? ⟨w1.heap.size,3,none⟩=some (.int .i64 OB))) (by kernel_rfl) (HKK.out _ (Cr (Below.refl _ _) _).drew) (fun hHeld=>?_);refine tk 0 ?_;refine tk 1 ?_;refine tk 2 ?_;refine tk 3 ?_;refine tk 4 ?_;refine tk 5 ?_;refine tk 6 ?_;refine tk 7 ?_;refine tk 8 ?_;refine tk 9 ?_;refine tk 10 ?_;refine tk 11 ?_;refine tk 12 ?_;refine tk 13 ?_;refine tk 14 ?_;refine tk 15 ?_;refine tk 16 ?_;refine tk 17 ?_;refine tk 18 ?_;refine tk 19 ?_;refine tk 20 ?_;refine tk 21 ?_;refine wpAnyH_ready (rs:=[22]) (by kernel_rfl) (by simp) ?_;refine AllReadyH.cons rfl (fun K hK=>?_) AllReadyH.nil;go_simp;refine hK.out _ _ (by refine⟨?_,?_,?_,?_,?_⟩<;>simp[go_sem,k2,k4,k5,o2,o3]) (fun hHeld2=>?_);clear hK K;refine wpAnyH_done (by kernel_rfl) ?_ _;(go_wp2_with fail);rw[HV.out];refine bodyPost_ret (v:=.agg #[.int .i64 page,.int .i64 1,.int .i64 (OB+page-A),.int .i64 P,.bool X]) (by simp[results,Tryz.results104,go_sem,q0,q1,q2,q3,q4]) rfl ⟨rfl,?_⟩;exact HBB.out.trans (((((((Cr HBO.out _).drew.mono (by omega)).setCell (by simp<;>omega) _).setCell (by simp<;>omega) _).setCell (by simp<;>omega) _).setCell (by simp<;>omega) _).setCell (by simp<;>omega) _)
     ·(have hhib:decide (page<A+OA)=false:=by simpa using hhi);have HZ:Hid _:=A2 (HNX.out (by rw[HIN.out];simp[hhi]));(go_quiet (fail));(go_wp2_with fail);go_roundw;(case rel=>exact⟨k+1,by omega,by go_num,HZ,Cr HBO.out _⟩);case measure=>first|(simp[intOf];done)|(simp[intOf];omega)
    ·(have hlob:decide (A<=page)=false:=by simpa using hlo);have HZ:Hid _:=A2 (HNX.out (by rw[HIN.out];simp[hlo]));(go_quiet (fail));(go_wp2_with fail);go_roundw;(case rel=>exact⟨k+1,by omega,by go_num,HZ,Cr HBO.out _⟩);case measure=>first|(simp[intOf];done)|(simp[intOf];omega)
   ·(have h2b:(SK==2)=false:=by simpa using h2);have HZ:Hid _:=A2 (HNX.out (by rw[HIN.out,h2b];rfl));(go_wp2_with fail);go_roundw;(case rel=>exact⟨k+1,by omega,by go_num,HZ,HB.out⟩);case measure=>first|(simp[intOf];done)|(simp[intOf];omega)
  ·have HV:Hid (CQ all page=MB):=A2 (by
    unfold CQ
    rw[PU (fun j hj=>HJ.out j (by omega))])
   (have K2:¬(k:Int)<(all.length:Int):=by omega);have HB:Hid (Below _ wb wr):=hb;obtain⟨⟨q0,q1,q2,q3,q4⟩,⟨f0,f1,f2,f3,f4⟩⟩:=HQ.out wr hb;clear hb;(go_wp2_with fail);rw[HV.out];refine bodyPost_ret (v:=.agg #[.int .i64 0,.int .i64 0,.int .i64 0,.int .i64 0,.bool false]) (by simp[results,Tryz.results104,go_sem,q0,q1,q2,q3,q4]) rfl ⟨rfl,?_⟩;exact HBB.out.trans ((((((HB.out.mono (by omega)).setCell (by simp<;>omega) _).setCell (by simp<;>omega) _).setCell (by simp<;>omega) _).setCell (by simp<;>omega) _).setCell (by simp<;>omega) _)
end Go.Proofs.YtnmhkgmmpkjjeaaGreat
namespace Go.Proofs.YtnmhkgmmpkjjeaaGreat
open Go.ChangeShapes Go.WideShapes Go.ChangeAt Go.RowKit
set_option linter.unusedVariables false
set_option maxRecDepth 100000
attribute [local go_sem ↓] Go.wp_at_zero Go.wp_at_succ
def Gm (out:List AF):AF:=AI A8 out (out.length-1)
def Uz (l:AF):AF:=⟨l.page,l.count+1,l.out,l.perm,l.huge⟩
def Cz (out:List AF) (s:AF):List AF :=
 if s.count=1 then (if 0<out.length/\C5 (Gm out) s=true then out.set (out.length-1) (Uz (Gm out)) else out++[s]) else out
def Am (all:List St):Nat->List AF
 | 0=>[]
 | k+1=>Cz (Am all k) (CQ all (k:Nat))
def VJ (k:Nat) (e:AF):Prop:=0<=e.page/\e.page<=4096/\0<=e.count/\e.count<=k/\-2000000<=e.out/\e.out<=2000000
theorem U3 {all:List St} (hok:∀s∈all,EX s) (p:Nat) (hp:p<4096) (k:Nat) (hk:1<=k):VJ k (CQ all (p:Nat)):=by
 unfold CQ;cases hf:all.find? (Oi all (p:Nat)) with
 | none =>
  show VJ k MB;unfold VJ MB;dsimp only;omega
 | some s =>
  have hm:=hok s (List.mem_of_find?_eq_some hf);have ho:=Hz hok s.name;have a0:=hm.a0;have a1:=hm.a1;have b0:=ho.b0;have b1:=ho.b1;refine⟨?_,?_,?_,?_,?_,?_⟩<;>show _<=_<;>unfold JW<;>dsimp only<;>omega
theorem NH {all:List St} (hok:∀s∈all,EX s):∀k,k<=4096->(Am all k).length<=k/\∀e∈Am all k,VJ k e
 | 0,_=>⟨Nat.le_refl _,fun e h=>by cases h⟩
 | k+1,hk=>by
  obtain⟨h1,h2⟩:=NH hok k (by omega);have up:∀e,VJ k e->VJ (k+1) e:=fun e ⟨a,b,c,d,x,y⟩=>⟨a,b,c,by omega,x,y⟩
  have hpw:=U3 hok k (by omega) (k+1) (by omega);show (Cz (Am all k) (CQ all (k:Nat))).length<=k+1/\∀e∈Cz (Am all k) (CQ all (k:Nat)),VJ (k+1) e
  unfold Cz;split
  ·split
   ·rename_i hj;refine⟨by rw[List.length_set];omega,fun e he=>?_⟩;rcases List.mem_or_eq_of_mem_set he with he|he
    ·exact up e (h2 e he)
    ·have hl:Gm (Am all k)∈Am all k:=by
      unfold Gm AI;rw[List.getD_eq_getElem?_getD,List.getElem?_eq_getElem (by omega)];exact List.getElem_mem _
     obtain⟨a,b,c,d,x,y⟩:=h2 _ hl;rw[he];unfold Uz;exact⟨a,b,by show 0<=_+1;omega,by show _+1<=((k+1:Nat):Int);omega,x,y⟩
   ·refine⟨by simp;omega,fun e he=>?_⟩;rcases List.mem_append.1 he with he|he
    ·exact up e (h2 e he)
    ·rw[List.mem_singleton] at he;rw[he];exact hpw
  ·exact⟨by omega,fun e he=>up e (h2 e he)⟩
theorem QB {xs:List AF} {m i:Nat} {x:AF} (hi:i<xs.length):AI A8 (xs.set m x) i=if i=m then x else AI A8 xs i:=by
 unfold AI;rw[List.getD_eq_getElem?_getD,List.getD_eq_getElem?_getD,List.getElem?_set];by_cases e:m=i
 ·subst e;simp[hi]
 ·simp[e,Ne.symm e]
theorem Kx {w:World} {b g c m:Nat} {xs:List AF} {P C O R:Int} {G:Bool} (h:A6 A8 w b (.slice (some ⟨g,0,none⟩) xs.length c) xs) (hm:m<xs.length) : A6 A8 (((((w.setCell ⟨g,m*5,none⟩ (.int .i64 P)).setCell ⟨g,m*5+1,none⟩ (.int .i64 C)).setCell ⟨g,m*5+2,none⟩ (.int .i64 O)).setCell ⟨g,m*5+3,none⟩ (.int .i64 R)).setCell ⟨g,m*5+4,none⟩ (.bool G)) b (.slice (some ⟨g,0,none⟩) xs.length c) (xs.set m ⟨P,C,O,R,G⟩):=by
 rcases h.2 with⟨e,h0⟩|⟨g',cap,cur,e,hb,hg,hn,hmx,hs,ht⟩
 ·cases e
 ·simp only[Value.slice.injEq,Option.some.injEq,Addr.mk.injEq,and_true,true_and] at e;obtain⟨rfl,rfl⟩:=e;have hr:w.rowIs g 103 cur.size (fun i=>cur.getD i (.bool false)):=⟨cur,hg,rfl,fun i hi=>by simp[hi]⟩;have hs':cur.size=c*A8.sz:=hs;refine A6.of_row (cap:=c) (by simp) hb (((((hr.set (m*5) _).set (m*5+1) _).set (m*5+2) _).set (m*5+3) _).set (m*5+4) _) hs' (by simpa using hn) hmx ?_;intro i hi j hj;have hj5:j<5:=hj;have e5:i*A8.sz+j=i*5+j:=rfl;rw[e5];have hold:cur.getD (i*5+j) (.bool false)=C8 A8 xs i j:=by
   have hu:=Ee A8 xs i (by simpa using hi) j hj;rw[<- ht,List.getElem?_take,if_pos (Jb (by simpa using hi) hj)] at hu;simp only[Array.getElem?_toList] at hu;have e6:i*A8.sz+j=i*5+j:=rfl;rw[e6] at hu;simp[Array.getD_eq_getD_getElem?,hu,C8]
  by_cases e:i=m
  ·subst e;unfold C8;rw[QB (by simpa using hi),if_pos rfl];rcases(show j=0\/j=1\/j=2\/j=3\/j=4 by omega) with rfl|rfl|rfl|rfl|rfl<;>simp[A8]
  ·(have hne:∀q,q<5->i*5+j≠m*5+q:=fun q hq=>by omega);have n0:=hne 0 (by omega);have n1:=hne 1 (by omega);have n2:=hne 2 (by omega);have n3:=hne 3 (by omega);have n4:=hne 4 (by omega);rw[Nat.add_zero] at n0;simp only[n0,n1,n2,n3,n4,if_false];rw[hold];unfold C8;rw[QB (by simpa using hi),if_neg e]
end Go.Proofs.YtnmhkgmmpkjjeaaGreat
