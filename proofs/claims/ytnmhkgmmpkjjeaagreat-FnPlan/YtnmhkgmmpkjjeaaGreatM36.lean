import Derived.Test.YtnmhkgmmpkjjeaaGreatM35
namespace Go.Proofs.YtnmhkgmmpkjjeaaGreat
open ChangeShapes WideShapes ChangeAt RowKit Proofs.Tryz
set_option linter.all false
set_option maxRecDepth 100000
set_option maxHeartbeats 8000000
attribute [local go_sem ↓] wp_at_zero wp_at_succ
attribute [local go_sem] DU FG FM H5 FE Du
def Th:Dw St:=⟨96,6,fun s=>[.int .i64 s.kind,.string (bs s.name),.int .i64 s.a,.int .i64 s.b,.int .i64 s.perm,.bool s.extra],Aa,by omega,fun _=>rfl⟩
theorem R5:(prog.info? 96).map (fun i=>(i.zero,i.size,i.bytes))=some (some (.agg #[.int .i64 0,.string (bs []),.int .i64 0,.int .i64 0,.int .i64 0,.bool false]),6,56):=by kernel_rfl
structure Vi (w:World) (g i:Nat) (s:St):Prop where
 lt:g<w.heap.size
 k:w.cell? ⟨g,i*6,none⟩=some (.int .i64 s.kind)
 n:w.cell? ⟨g,i*6+1,none⟩=some (.string (bs s.name))
 a:w.cell? ⟨g,i*6+2,none⟩=some (.int .i64 s.a)
 b:w.cell? ⟨g,i*6+3,none⟩=some (.int .i64 s.b)
 p:w.cell? ⟨g,i*6+4,none⟩=some (.int .i64 s.perm)
 e:w.cell? ⟨g,i*6+5,none⟩=some (.bool s.extra)
theorem JN{w:World}{b c:Nat}{a:Option Addr}{xs:List St}(h:A8 Th w b (.slice a xs.length c) xs)(h0:0<xs.length):∃g,a=some ⟨g,0,none⟩/\∀i,i<xs.length->Vi w g i (BN xs i):=by
 obtain⟨a',c',e,h1⟩:=h.form;obtain⟨g',N,f,e2,_,hr,hN,hf⟩:=h1 h0;have hN':xs.length*6<=N:=hN;simp only[Value.slice.injEq] at e;obtain⟨e,_,_⟩:=e;rw[e2] at e;refine⟨g',e,fun i hi=>⟨hr.lt,?_,?_,?_,?_,?_,?_⟩⟩
 ·rw[hr.cell (i:=i*6) (by omega)];exact congrArg some (hf i hi 0 (by decide))
 ·rw[hr.cell (i:=i*6+1) (by omega)];exact congrArg some (hf i hi 1 (by decide))
 ·rw[hr.cell (i:=i*6+2) (by omega)];exact congrArg some (hf i hi 2 (by decide))
 ·rw[hr.cell (i:=i*6+3) (by omega)];exact congrArg some (hf i hi 3 (by decide))
 ·rw[hr.cell (i:=i*6+4) (by omega)];exact congrArg some (hf i hi 4 (by decide))
 ·rw[hr.cell (i:=i*6+5) (by omega)];exact congrArg some (hf i hi 5 (by decide))
theorem Vi.below{w w':World}{g i:Nat}{s:St}(h:Vi w g i s)(hb:Bl w w'):Vi w' g i s :=
 ⟨Nat.lt_of_lt_of_le h.lt hb.size,(hb.cell (p:=⟨g,_,none⟩) h.lt).trans h.k,(hb.cell (p:=⟨g,_,none⟩) h.lt).trans h.n,(hb.cell (p:=⟨g,_,none⟩) h.lt).trans h.a,(hb.cell (p:=⟨g,_,none⟩) h.lt).trans h.b,(hb.cell (p:=⟨g,_,none⟩) h.lt).trans h.p,(hb.cell (p:=⟨g,_,none⟩) h.lt).trans h.e⟩
def Q1 (w:World) (a:Option Addr) (xs:List St):Prop:=0<xs.length->∃g,a=some ⟨g,0,none⟩/\∀i,i<xs.length->Vi w g i (BN xs i)
theorem Q1.below{w w':World}{a:Option Addr}{xs:List St}(h:Q1 w a xs)(hb:Bl w w'):Q1 w' a xs:=fun h0=>by
 obtain⟨g,e,hc⟩:=h h0;exact⟨g,e,fun i hi=>(hc i hi).below hb⟩
theorem Dl(a:Option Addr)(c:Nat)(all:List St)(n:Az)(w:World)(hle:all.length<=1000)(hr:Q1 w a all):Calls prog 100 #[.slice a all.length c,.string (bs n)] w (AM w (CH (By all n))):=by
 have HR:Hid (∀wX,Bl w wX->Q1 wX a all):=A6 fun wX hX=>hr.below hX
 clear hr;go_enter func100,ntmps100
 go_wp2_with fail
 go_loopw [5] (fun iv wr=>∃(k:Nat),k<=all.length/\iv=.int .i64 k/\Hid (∀j,j<k->FC n (BN all j)=false)/\wr=w.alloc (.cells #[.int .i64 0,.string (bs []),.int .i64 0,.int .i64 0,.int .i64 0,.bool false] 96)) (fun iv _=>all.length-(intOf iv).toNat)
 case atStart=>exact⟨0,Nat.zero_le _,rfl,A6 fun j hj=>absurd hj (by omega),rfl⟩
 case round =>
  obtain⟨k,hk,rfl,HO,rfl⟩:=hrel;by_cases hlt:k<all.length
  ·(have L1:(0:Int)<=(k:Int):=by omega);(have L2:(k:Int)<(all.length:Int):=by omega);obtain⟨g,rfl,hc⟩:=HR.out _ AH (by omega);obtain⟨hg,c0,c1,c2,c3,c4,c5⟩:=hc k hlt;(have HS:Hid (FC n (BN all k)=true->By all n=BN all k):=A6 fun h=>TK hlt HO.out h);have HN:Hid (FC n (BN all k)=false->∀j,j<k+1->FC n (BN all j)=false):=A6 fun h j hj=>by
    by_cases e:j=k
    ·rw[e];exact h
    ·exact HO.out j (by omega)
   (obtain⟨s,hs⟩:∃s,BN all k=s:=⟨_,rfl⟩);rw[hs] at c0 c1 c2 c3 c4 c5 HS HN;obtain⟨K,M,A,B,P,X⟩:=s;dsimp only at c0 c1 c2 c3 c4 c5;clear hs hc;cases hK:K==1
   ·have HF:Hid _:=HN.out (by unfold FC;rw[hK];rfl);(go_wp2_with fail);go_roundw;(case rel=>exact⟨k+1,by omega,by go_num,HF,by first|rfl|trivial⟩);case measure=>first|(simp[intOf];done)|(simp[intOf];omega)
   ·cases hM:M==n
    ·have HF:Hid _:=HN.out (by unfold FC;rw[hK,hM];rfl);(go_wp2_with fail);go_roundw;(case rel=>exact⟨k+1,by omega,by go_num,HF,by first|rfl|trivial⟩);case measure=>first|(simp[intOf];done)|(simp[intOf];omega)
    ·have HF:Hid _:=HS.out (by unfold FC;rw[hK,hM];rfl);(go_wp2_with fail);refine bodyPost_ret (v:=CH ⟨K,M,A,B,P,X⟩) (by simp[results,results100,go_sem,CH]) rfl ⟨by rw[HF.out],?_⟩;exact BH
  ·have HF:Hid (By all n=Aa):=A6 (RB fun j hj=>HO.out j (by omega));(go_wp2_with fail);refine bodyPost_ret (v:=CH Aa) (by simp[results,results100,go_sem,CH,Aa]) rfl ⟨by rw[HF.out],?_⟩;exact BH
theorem Ps(k a b p:Int)(m:ByteArray)(x:Bool)(w:World):(Instr.field 96 (.agg #[.int .i64 k,.string m,.int .i64 a,.int .i64 b,.int .i64 p,.bool x]) 2).run prog w=.ok (.int .i64 a) w:=by rfl
theorem GG(a:Option Addr)(c:Nat)(all:List St)(s:St)(w:World)(hle:all.length<=1000)(hr:Q1 w a all):Calls prog 102 #[.slice a all.length c,CH s] w (AM w (.int .i64 (GX all s))):=by
 obtain⟨K,M,A,B,P,X⟩:=s;unfold CH;dsimp only;obtain⟨R,hR⟩:∃R,By all M=R:=⟨_,rfl⟩
 obtain⟨k2,m2,a2,b2,p2,x2⟩:=R;have HO:Hid (∀wX,Bl w wX->Calls prog 100 #[.slice a all.length c,.string (bs M)] wX (AM wX (.agg #[.int .i64 k2,.string (bs m2),.int .i64 a2,.int .i64 b2,.int .i64 p2,.bool x2]))):=A6 fun wX hX=>by
  have:=Dl a c all M wX hle (hr.below hX);rw[hR] at this;exact this
 clear hr;cases hK:K==3
 ·have HF:Hid (GX all ⟨K,M,A,B,P,X⟩=a2):=A6 <| by unfold GX;rw[if_neg (by rw[hK];decide),hR]
  have hfl:=Ps;go_enter func102,ntmps102
  go_wp2_with (go_at_call 100;refine(HO.out _ (AO)).mono ?_;rintro e w1 ⟨rfl,hb1⟩)
  go_ret;refine⟨by rw[HF.out];rfl,?_⟩;exact AO.trans (hb1.mono (by simp))
 ·have HF:Hid (GX all ⟨K,M,A,B,P,X⟩=B):=A6 <| by unfold GX;rw[if_pos hK]
  go_enter func102,ntmps102
  go_wp2_with fail
  go_ret;refine⟨by rw[HF.out];rfl,?_⟩;exact BH
theorem II(p a q b:Int)(h0:0<=p/\p<1000000)(h1:0<=a/\a<1000000)(h2:0<=q/\q<1000000)(h3:0<=b/\b<1000000)(w:World):Calls prog 101 #[.int .i64 p,.int .i64 a,.int .i64 q,.int .i64 b] w fun e w'=>e=.returned (.bool (LM p a q b))/\w'=w:=by
 unfold LM;by_cases c:p<q+b
 ·have c':decide (p<q+b)=true:=decide_eq_true c;by_cases d:q<p+a
  ·have d':decide (q<p+a)=true:=decide_eq_true d;rw[c',d'];(go_enter func101,ntmps101);(go_wp2_with fail);go_ret;exact⟨rfl,rfl⟩
  ·have d':decide (q<p+a)=false:=decide_eq_false d;rw[c',d'];(go_enter func101,ntmps101);(go_wp2_with fail);go_ret;exact⟨rfl,rfl⟩
 ·have c':decide (p<q+b)=false:=decide_eq_false c;rw[c'];go_enter func101,ntmps101
  go_wp2_with fail
  go_ret;exact⟨by first|rfl|simp,rfl⟩
theorem Yq(a:Option Addr)(c:Nat)(all:List St)(M:Az)(A B P:Int)(X:Bool)(w:World):Calls prog 37 #[.slice a all.length c,CH ⟨0,M,A,B,P,X⟩] w (AM w (.int .i64 4)):=by
 unfold CH;dsimp only;go_enter func37,ntmps37
 go_wp2_with fail
 go_ret;refine⟨rfl,?_⟩;exact BH
theorem YK(a:Option Addr)(c:Nat)(all:List St)(M:Az)(A B P:Int)(X:Bool)(w:World)(hle:all.length<=1000)(hr:Q1 w a all)(hall:∀t∈all,Ev t)(ha:0<=A/\A<1000000)(hb:0<=B/\B<1000000):Calls prog 37 #[.slice a all.length c,CH ⟨1,M,A,B,P,X⟩] w (AM w (.int .i64 (Bu all ⟨1,M,A,B,P,X⟩))):=by
 obtain⟨R,hR⟩:∃R,By all M=R:=⟨_,rfl⟩
 obtain⟨k2,m2,a2,b2,p2,x2⟩:=R;have HO:Hid (∀wX,Bl w wX->Calls prog 100 #[.slice a all.length c,.string (bs M)] wX (AM wX (.agg #[.int .i64 k2,.string (bs m2),.int .i64 a2,.int .i64 b2,.int .i64 p2,.bool x2]))):=A6 fun wX hX=>by
  have:=Dl a c all M wX hle (hr.below hX);rw[hR] at this;exact this
 have HC:Hid (∀wX,Below (w.alloc (.cells #[.int .i64 1,.string (bs M),.int .i64 A,.int .i64 B,.int .i64 P,.bool X] 96)).heap.size (w.alloc (.cells #[.int .i64 1,.string (bs M),.int .i64 A,.int .i64 B,.int .i64 P,.bool X] 96)) wX->Q1 wX a all/\wX.cell? ⟨w.heap.size,2,none⟩=some (.int .i64 A)/\wX.cell? ⟨w.heap.size,3,none⟩=some (.int .i64 B)/\wX.cell? ⟨w.heap.size,0,none⟩=some (.int .i64 1)/\wX.cell? ⟨w.heap.size,1,none⟩=some (.string (bs M))):=A6 fun wX hX=>by
  refine⟨(hr.below AO).below hX,?_,?_,?_,?_⟩<;>(rw[hX.cell (by simp)];simp)
 have HOK:=A5 hall;have HBW:Hid (Bl w (w.alloc (.cells #[.int .i64 1,.string (bs M),.int .i64 A,.int .i64 B,.int .i64 P,.bool X] 96))):=AO;have HAB:Hid ((0<=A/\A<1000000)/\(0<=B/\B<1000000)):=⟨ha,hb⟩;have HX1:Hid (Bu all ⟨1,M,A,B,P,X⟩=if k2==1 then 5 else if A==0||decide (65536<B+A) then 7 else if all.any (G7 ⟨1,M,A,B,P,X⟩) then 8 else 0):=A6 <| by
  show (if (1:Int)==0 then (4:Int) else if (1:Int)==1 then _ else _)=_;rw[if_neg (by decide),if_pos (by decide)];dsimp only;rw[hR]
 have HSZ:(w.alloc (.cells #[.int .i64 1,.string (bs M),.int .i64 A,.int .i64 B,.int .i64 P,.bool X] 96)).heap.size=w.heap.size+1:=by simp
 have HSZ2:=A5 HSZ;clear hr hall hR HSZ;unfold CH;dsimp only;cases h1:k2==1
 ·by_cases hA:A=0
  ·(have HV:Hid (Bu all ⟨1,M,A,B,P,X⟩=7):=A6 <| by rw[HX1.out,h1,if_neg (by decide),if_pos (by simp[hA])]);(have e0:(A==0)=true:=by simp[hA]);clear hA;(go_enter func37,ntmps37);(go_wp2_with fail);refine(HO.out _ AO).mono ?_;rintro e w1 ⟨rfl,hb1⟩;obtain⟨-,q2,q3,q0,q5⟩:=HC.out w1 hb1;(have hz1:w.heap.size<w1.heap.size:=by have:=hb1.size;rw[HSZ2.out] at this;omega);(go_wp2_with fail);go_ret;refine⟨by rw[HV.out];rfl,?_⟩;exact HBW.out.trans ((hb1.alloc hb1.size _).mono (by simp))
  ·(have e0:(A==0)=false:=by simp[hA]);by_cases hL:65536<B+A
   ·(have HV:Hid (Bu all ⟨1,M,A,B,P,X⟩=7):=A6 <| by rw[HX1.out,h1,if_neg (by decide),if_pos (by simp[hL])]);clear hA;(go_enter func37,ntmps37);(go_wp2_with fail);refine(HO.out _ AO).mono ?_;rintro e w1 ⟨rfl,hb1⟩;obtain⟨-,q2,q3,q0,q5⟩:=HC.out w1 hb1;(have hz1:w.heap.size<w1.heap.size:=by have:=hb1.size;rw[HSZ2.out] at this;omega);(go_wp2_with fail);go_ret;refine⟨by rw[HV.out];rfl,?_⟩;exact HBW.out.trans ((hb1.alloc hb1.size _).mono (by simp))
   ·(have hL':B+A<=65536:=by omega);(have HX2:Hid (Bu all ⟨1,M,A,B,P,X⟩=if all.any (G7 ⟨1,M,A,B,P,X⟩) then 8 else 0):=A6 <| by rw[HX1.out,h1,if_neg (by decide),if_neg (by simp[hL,hA])]);clear hA hL;(go_enter func37,ntmps37);(go_wp2_with fail);refine(HO.out _ AO).mono ?_;rintro e w1 ⟨rfl,hb1⟩;obtain⟨-,q2,q3,q0,q5⟩:=HC.out w1 hb1;(have hz1:w.heap.size<w1.heap.size:=by have:=hb1.size;rw[HSZ2.out] at this;omega);(go_wp2_with fail);(go_loopw [6] (fun iv wr=>∃(k:Nat),k<=all.length/\iv=.int .i64 k/\Hid (∀j,j<k->G7 ⟨1,M,A,B,P,X⟩ (BN all j)=false)/\Below (w.alloc (.cells #[.int .i64 1,.string (bs M),.int .i64 A,.int .i64 B,.int .i64 P,.bool X] 96)).heap.size (w.alloc (.cells #[.int .i64 1,.string (bs M),.int .i64 A,.int .i64 B,.int .i64 P,.bool X] 96)) wr) (fun iv _=>all.length-(intOf iv).toNat));(case atStart=>exact⟨0,Nat.zero_le _,rfl,A6 fun j hj=>absurd hj (by omega),hb1.alloc hb1.size _⟩);case round =>
     obtain⟨k,hk,rfl,HJ,hbel⟩:=hrel;have HB:=A5 hbel;have hsz:=hbel.size;rw[HSZ2.out] at hsz;clear hbel;by_cases hlt:k<all.length
     ·obtain⟨hR0,cA,cB,-,-⟩:=HC.out wr HB.out;obtain⟨g,rfl,hcc⟩:=hR0 (by omega);have HKK0:Hid (∀wX,Below (w.alloc (.cells #[.int .i64 1,.string (bs M),.int .i64 A,.int .i64 B,.int .i64 P,.bool X] 96)).heap.size (w.alloc (.cells #[.int .i64 1,.string (bs M),.int .i64 A,.int .i64 B,.int .i64 P,.bool X] 96)) wX->Vi wX g k (BN all k)):=A6 fun wX hX=>by
       obtain⟨hR1,_⟩:=HC.out wX hX;obtain⟨g',e,hcc'⟩:=hR1 (by omega);simp only[Option.some.injEq,Addr.mk.injEq,and_true] at e;rw[e];exact hcc' k hlt
      obtain⟨hg,c0,c1,c2,c3,c4,c5⟩:=hcc k hlt;have HOKk:Hid _:=Iq HOK.out k;(obtain⟨s1,hs1⟩:∃s1,BN all k=s1:=⟨_,rfl⟩);rw[hs1] at c0 c1 c2 c3 c4 c5 HOKk HKK0;obtain⟨K1,M1,A1,B1,P1,X1⟩:=s1;dsimp only at c0 c1 c2 c3 c4 c5;have HE:=A5 hs1;(have HKK:Hid (∀wX,Below (w.alloc (.cells #[.int .i64 1,.string (bs M),.int .i64 A,.int .i64 B,.int .i64 P,.bool X] 96)).heap.size (w.alloc (.cells #[.int .i64 1,.string (bs M),.int .i64 A,.int .i64 B,.int .i64 P,.bool X] 96)) wX->(fun wX=>wX.cell? ⟨g,k*6,none⟩=some (.int .i64 K1)/\wX.cell? ⟨g,k*6+2,none⟩=some (.int .i64 A1)/\wX.cell? ⟨g,k*6+3,none⟩=some (.int .i64 B1)/\wX.cell? ⟨w.heap.size,2,none⟩=some (.int .i64 A)/\wX.cell? ⟨w.heap.size,3,none⟩=some (.int .i64 B)) wX):=A6 fun wX hX=>⟨(HKK0.out wX hX).k,(HKK0.out wX hX).a,(HKK0.out wX hX).b,(HC.out wX hX).2.1,(HC.out wX hX).2.2.1⟩);have HM:Hid _:=II B A B1 A1 HAB.out.2 HAB.out.1 ⟨HOKk.out.b0,HOKk.out.b1⟩ ⟨HOKk.out.a0,HOKk.out.a1⟩;(have L1:(0:Int)<=(k:Int):=by omega);(have L2:(k:Int)<(all.length:Int):=by omega);clear hs1 hcc hR0 c1 c4 c5;cases hK1:K1==1
      ·(have HF:Hid (G7 ⟨1,M,A,B,P,X⟩ ⟨K1,M1,A1,B1,P1,X1⟩=false):=A6 <| by unfold G7;rw[hK1];rfl);(go_wp2_with fail);refine wp_region_held_drew (S:=(fun wX=>wX.cell? ⟨g,k*6,none⟩=some (.int .i64 K1)/\wX.cell? ⟨g,k*6+2,none⟩=some (.int .i64 A1)/\wX.cell? ⟨g,k*6+3,none⟩=some (.int .i64 B1)/\wX.cell? ⟨w.heap.size,2,none⟩=some (.int .i64 A)/\wX.cell? ⟨w.heap.size,3,none⟩=some (.int .i64 B))) (by kernel_rfl) (HKK.out _ HB.out.drew) (fun hHeld=>?_);refine tk 0 ?_;refine tk 1 ?_;refine tk 2 ?_;refine tk 3 ?_;refine tk 4 ?_;refine tk 5 ?_;refine tk 6 ?_;refine sk 7 ?_;refine sk 8 ?_;refine sk 9 ?_;refine sk 10 ?_;refine sk 11 ?_;refine sk 12 ?_;refine sk 13 ?_;refine sk 14 ?_;refine sk 15 ?_;refine sk 16 ?_;refine sk 17 ?_;refine sk 18 ?_;refine sk 19 ?_;refine sk 20 ?_;refine sk 21 ?_;refine tk 22 ?_;refine AZ ?_;(go_wp2_with fail);go_roundw
       case rel=>exact⟨k+1,by omega,by go_num,A6 fun j hj=>by
         by_cases e:j=k
         ·rw[e,HE.out];exact HF.out
         ·exact HJ.out j (by omega),HB.out.drew⟩
       case measure=>first|(simp[intOf];done)|(simp[intOf];omega)
      ·cases hm:LM B A B1 A1<;>rw[hm] at HM
       ·(have HF:Hid (G7 ⟨1,M,A,B,P,X⟩ ⟨K1,M1,A1,B1,P1,X1⟩=false):=A6 <| by unfold G7;rw[hK1];exact hm);clear hm;(go_wp2_with fail);refine wp_region_held_drew (S:=(fun wX=>wX.cell? ⟨g,k*6,none⟩=some (.int .i64 K1)/\wX.cell? ⟨g,k*6+2,none⟩=some (.int .i64 A1)/\wX.cell? ⟨g,k*6+3,none⟩=some (.int .i64 B1)/\wX.cell? ⟨w.heap.size,2,none⟩=some (.int .i64 A)/\wX.cell? ⟨w.heap.size,3,none⟩=some (.int .i64 B))) (by kernel_rfl) (HKK.out _ HB.out.drew) (fun hHeld=>?_);refine tk 0 ?_;refine tk 1 ?_;refine tk 2 ?_;refine tk 3 ?_;refine tk 4 ?_;refine tk 5 ?_;refine tk 6 ?_;refine tk 7 ?_;refine tk 8 ?_;refine tk 9 ?_;refine tk 10 ?_;refine tk 11 ?_;refine tk 12 ?_;refine tk 13 ?_;refine tk 14 ?_;refine tk 15 ?_;refine tk 16 ?_;refine tk 17 ?_;refine tk 18 ?_;refine tk 19 ?_;refine tk 20 ?_;(refine Aj 21 fun K hK=>?_);go_simp;(go_at_call 101);refine(HM.out _).mono ?_;rintro e w2 ⟨rfl,hw2⟩;obtain rfl:=hw2.symm;(go_wp2_with fail);refine hK.out _ _ (HKK.out _ HB.out.drew) (fun hHeld2=>?_);clear hK K;refine tk 22 ?_;refine AZ ?_;(go_wp2_with fail);go_roundw
        case rel=>exact⟨k+1,by omega,by go_num,A6 fun j hj=>by
          by_cases e:j=k
          ·rw[e,HE.out];exact HF.out
          ·exact HJ.out j (by omega),HB.out.drew⟩
        case measure=>first|(simp[intOf];done)|(simp[intOf];omega)
       ·have HV:Hid (Bu all ⟨1,M,A,B,P,X⟩=8):=A6 <| by
         rw[HX2.out,Nb hlt (by rw[HE.out];unfold G7;rw[hK1];exact hm)];rfl
        clear hm;(go_wp2_with fail);refine wp_region_held_drew (S:=(fun wX=>wX.cell? ⟨g,k*6,none⟩=some (.int .i64 K1)/\wX.cell? ⟨g,k*6+2,none⟩=some (.int .i64 A1)/\wX.cell? ⟨g,k*6+3,none⟩=some (.int .i64 B1)/\wX.cell? ⟨w.heap.size,2,none⟩=some (.int .i64 A)/\wX.cell? ⟨w.heap.size,3,none⟩=some (.int .i64 B))) (by kernel_rfl) (HKK.out _ HB.out.drew) (fun hHeld=>?_);refine tk 0 ?_;refine tk 1 ?_;refine tk 2 ?_;refine tk 3 ?_;refine tk 4 ?_;refine tk 5 ?_;refine tk 6 ?_;refine tk 7 ?_;refine tk 8 ?_;refine tk 9 ?_;refine tk 10 ?_;refine tk 11 ?_;refine tk 12 ?_;refine tk 13 ?_;refine tk 14 ?_;refine tk 15 ?_;refine tk 16 ?_;refine tk 17 ?_;refine tk 18 ?_;refine tk 19 ?_;refine tk 20 ?_;(refine Aj 21 fun K hK=>?_);go_simp;(go_at_call 101);refine(HM.out _).mono ?_;rintro e w2 ⟨rfl,hw2⟩;obtain rfl:=hw2.symm;(go_wp2_with fail);refine hK.out _ _ (HKK.out _ HB.out.drew) (fun hHeld2=>?_);clear hK K;refine tk 22 ?_;refine AZ ?_;(go_wp2_with fail);go_ret;exact⟨by rw[HV.out];rfl,HBW.out.trans (HB.out.drew.mono (by simp))⟩
     ·have HV:Hid (Bu all ⟨1,M,A,B,P,X⟩=0):=A6 <| by
       rw[HX2.out,Kg (fun j hj=>HJ.out j (by omega))];rfl
      (go_wp2_with fail);go_ret;exact⟨by rw[HV.out];rfl,HBW.out.trans (HB.out.mono (by simp))⟩
 ·have HV:Hid (Bu all ⟨1,M,A,B,P,X⟩=5):=A6 <| by rw[HX1.out,h1];rfl
  go_enter func37,ntmps37
  go_wp2_with fail
  refine(HO.out _ AO).mono ?_;rintro e w1 ⟨rfl,hb1⟩;obtain⟨-,q2,q3,q0,q5⟩:=HC.out w1 hb1;have hz1:w.heap.size<w1.heap.size:=by have:=hb1.size;rw[HSZ2.out] at this;omega
  go_wp2_with fail
  go_ret;refine⟨by rw[HV.out];rfl,?_⟩;exact HBW.out.trans ((hb1.alloc hb1.size _).mono (by simp))
theorem Yr(a:Option Addr)(c:Nat)(all:List St)(M:Az)(A B P:Int)(X:Bool)(w:World)(hle:all.length<=1000)(hr:Q1 w a all)(hall:∀t∈all,Ev t)(hs:Ev ⟨3,M,A,B,P,X⟩):Calls prog 37 #[.slice a all.length c,CH ⟨3,M,A,B,P,X⟩] w (AM w (.int .i64 (Bu all ⟨3,M,A,B,P,X⟩))):=by
 obtain⟨i0,hi,hz0,hz1q,hz2q⟩:=info_parts R5;obtain⟨R,hR⟩:∃R,By all M=R:=⟨_,rfl⟩
 obtain⟨Z,hZ⟩:∃Z,GX all ⟨3,M,A,B,P,X⟩=Z:=⟨_,rfl⟩
 have hZb:=KU hall hs;rw[hZ] at hZb;obtain⟨k2,m2,a2,b2,p2,x2⟩:=R;have HO:Hid (∀wX,Bl w wX->Calls prog 100 #[.slice a all.length c,.string (bs M)] wX (AM wX (.agg #[.int .i64 k2,.string (bs m2),.int .i64 a2,.int .i64 b2,.int .i64 p2,.bool x2]))):=A6 fun wX hX=>by
  have:=Dl a c all M wX hle (hr.below hX);rw[hR] at this;exact this
 have HC:Hid (∀wX,Below (w.alloc (.cells #[.int .i64 3,.string (bs M),.int .i64 A,.int .i64 B,.int .i64 P,.bool X] 96)).heap.size (w.alloc (.cells #[.int .i64 3,.string (bs M),.int .i64 A,.int .i64 B,.int .i64 P,.bool X] 96)) wX->Q1 wX a all/\wX.cell? ⟨w.heap.size,0,none⟩=some (.int .i64 3)/\wX.cell? ⟨w.heap.size,1,none⟩=some (.string (bs M))/\wX.cell? ⟨w.heap.size,2,none⟩=some (.int .i64 A)/\wX.cell? ⟨w.heap.size,3,none⟩=some (.int .i64 B)/\wX.cell? ⟨w.heap.size,4,none⟩=some (.int .i64 P)/\wX.cell? ⟨w.heap.size,5,none⟩=some (.bool X)):=A6 fun wX hX=>by
  refine⟨(hr.below AO).below hX,?_,?_,?_,?_,?_,?_⟩<;>(rw[hX.cell (by simp)];simp)
 have HS:Hid (∀wX,Below (w.alloc (.cells #[.int .i64 3,.string (bs M),.int .i64 A,.int .i64 B,.int .i64 P,.bool X] 96)).heap.size (w.alloc (.cells #[.int .i64 3,.string (bs M),.int .i64 A,.int .i64 B,.int .i64 P,.bool X] 96)) wX->Calls prog 102 #[.slice a all.length c,.agg #[.int .i64 3,.string (bs M),.int .i64 A,.int .i64 B,.int .i64 P,.bool X]] wX (AM wX (.int .i64 Z))):=A6 fun wX hX=>by
  have:=GG a c all ⟨3,M,A,B,P,X⟩ wX hle (HC.out wX hX).1;rw[hZ] at this;exact this
 have HSA:Hid (∀(s1:St) wX,Below (w.alloc (.cells #[.int .i64 3,.string (bs M),.int .i64 A,.int .i64 B,.int .i64 P,.bool X] 96)).heap.size (w.alloc (.cells #[.int .i64 3,.string (bs M),.int .i64 A,.int .i64 B,.int .i64 P,.bool X] 96)) wX->Calls prog 102 #[.slice a all.length c,CH s1] wX (AM wX (.int .i64 (GX all s1)))):=A6 fun s1 wX hX=>GG a c all s1 wX hle (HC.out wX hX).1
 have HOK:=A5 hall;have HBW:Hid (Bl w (w.alloc (.cells #[.int .i64 3,.string (bs M),.int .i64 A,.int .i64 B,.int .i64 P,.bool X] 96))):=AO;have HAZ:Hid ((0<=A/\A<1000000)/\(0<=Z/\Z<1000000)):=⟨⟨hs.a0,hs.a1⟩,hZb⟩;have hA1:0<=A/\A<1000000:=⟨hs.a0,hs.a1⟩;have HX1:Hid (Bu all ⟨3,M,A,B,P,X⟩=if Z==0||decide (4096<A+Z) then 7 else if all.any (Eh all A Z) then 8 else 0):=A6 <| by
  show (if (3:Int)==0 then (4:Int) else if (3:Int)==1 then _ else if (3:Int)==2&&(By all M).kind==0 then 6 else _)=_;rw[if_neg (by decide),if_neg (by decide),hR,hZ];rfl
 have HSZ2:Hid ((w.alloc (.cells #[.int .i64 3,.string (bs M),.int .i64 A,.int .i64 B,.int .i64 P,.bool X] 96)).heap.size=w.heap.size+1):=A6 (by simp);clear hr hall hR hs hZ;unfold CH;dsimp only;by_cases hZ0:Z=0
 ·have HV:Hid (Bu all ⟨3,M,A,B,P,X⟩=7):=A6 <| by rw[HX1.out,if_pos (by simp[hZ0])]
  have e0:(Z==0)=true:=by simp[hZ0]
  clear hZ0;go_enter func37,ntmps37
  go_wp2_with fail
  refine(HO.out _ AO).mono ?_;rintro e w1 ⟨rfl,hb1⟩;obtain⟨-,q0,q1,q2,q3,q4,q5⟩:=HC.out w1 hb1;have hz1:w.heap.size<w1.heap.size:=by have:=hb1.size;rw[HSZ2.out] at this;omega
  go_wp2_with fail
  have hb1':Below (w.alloc (.cells #[.int .i64 3,.string (bs M),.int .i64 A,.int .i64 B,.int .i64 P,.bool X] 96)).heap.size (w.alloc (.cells #[.int .i64 3,.string (bs M),.int .i64 A,.int .i64 B,.int .i64 P,.bool X] 96)) (w1.alloc (.cells #[.int .i64 k2,.string (bs m2),.int .i64 a2,.int .i64 b2,.int .i64 p2,.bool x2] 96)):=hb1.alloc hb1.size _;refine(HS.out _ hb1').mono ?_;rintro e w2 ⟨rfl,hb2⟩;have HB2:Hid (Below (w.alloc (.cells #[.int .i64 3,.string (bs M),.int .i64 A,.int .i64 B,.int .i64 P,.bool X] 96)).heap.size (w.alloc (.cells #[.int .i64 3,.string (bs M),.int .i64 A,.int .i64 B,.int .i64 P,.bool X] 96)) w2):=A6 (hb1'.trans (hb2.mono (by rw[HSZ2.out];simp;omega)));have HKN:Hid (w2.cell? ⟨w1.heap.size,0,none⟩=some (.int .i64 k2)/\w2.cell? ⟨w1.heap.size,5,none⟩=some (.bool x2)):=A6 <| by
   refine⟨?_,?_⟩<;>(rw[hb2.cell (by simp)];simp)
  clear hb1 hb1' hb2 q0 q1 q2 q3 q4 q5;obtain⟨-,q0,q1,q2,q3,q4,q5⟩:=HC.out w2 HB2.out;obtain⟨n0,n5⟩:=HKN.out;go_wp2_with fail
  go_ret;refine⟨by rw[HV.out];rfl,?_⟩;exact HBW.out.trans (HB2.out.mono (by simp))
 have e0:(Z==0)=false:=by simp[hZ0]
 by_cases hL:4096<A+Z
 ·have HV:Hid (Bu all ⟨3,M,A,B,P,X⟩=7):=A6 <| by rw[HX1.out,if_pos (by simp[hL])]
  clear hZ0;go_enter func37,ntmps37
  go_wp2_with fail
  refine(HO.out _ AO).mono ?_;rintro e w1 ⟨rfl,hb1⟩;obtain⟨-,q0,q1,q2,q3,q4,q5⟩:=HC.out w1 hb1;have hz1:w.heap.size<w1.heap.size:=by have:=hb1.size;rw[HSZ2.out] at this;omega
  go_wp2_with fail
  have hb1':Below (w.alloc (.cells #[.int .i64 3,.string (bs M),.int .i64 A,.int .i64 B,.int .i64 P,.bool X] 96)).heap.size (w.alloc (.cells #[.int .i64 3,.string (bs M),.int .i64 A,.int .i64 B,.int .i64 P,.bool X] 96)) (w1.alloc (.cells #[.int .i64 k2,.string (bs m2),.int .i64 a2,.int .i64 b2,.int .i64 p2,.bool x2] 96)):=hb1.alloc hb1.size _;refine(HS.out _ hb1').mono ?_;rintro e w2 ⟨rfl,hb2⟩;have HB2:Hid (Below (w.alloc (.cells #[.int .i64 3,.string (bs M),.int .i64 A,.int .i64 B,.int .i64 P,.bool X] 96)).heap.size (w.alloc (.cells #[.int .i64 3,.string (bs M),.int .i64 A,.int .i64 B,.int .i64 P,.bool X] 96)) w2):=A6 (hb1'.trans (hb2.mono (by rw[HSZ2.out];simp;omega)));have HKN:Hid (w2.cell? ⟨w1.heap.size,0,none⟩=some (.int .i64 k2)/\w2.cell? ⟨w1.heap.size,5,none⟩=some (.bool x2)):=A6 <| by
   refine⟨?_,?_⟩<;>(rw[hb2.cell (by simp)];simp)
  clear hb1 hb1' hb2 q0 q1 q2 q3 q4 q5;obtain⟨-,q0,q1,q2,q3,q4,q5⟩:=HC.out w2 HB2.out;obtain⟨n0,n5⟩:=HKN.out;go_wp2_with fail
  go_ret;refine⟨by rw[HV.out];rfl,?_⟩;exact HBW.out.trans (HB2.out.mono (by simp))
 have hL':A+Z<=4096:=by omega
 have HX2:Hid (Bu all ⟨3,M,A,B,P,X⟩=if all.any (Eh all A Z) then 8 else _):=A6 <| by rw[HX1.out,if_neg (by simp[hL,hZ0])]
 clear hZ0 hL;go_enter func37,ntmps37
 go_wp2_with fail
 refine(HO.out _ AO).mono ?_;rintro e w1 ⟨rfl,hb1⟩;obtain⟨-,q0,q1,q2,q3,q4,q5⟩:=HC.out w1 hb1;have hz1:w.heap.size<w1.heap.size:=by have:=hb1.size;rw[HSZ2.out] at this;omega
 go_wp2_with fail
 have hb1':Below (w.alloc (.cells #[.int .i64 3,.string (bs M),.int .i64 A,.int .i64 B,.int .i64 P,.bool X] 96)).heap.size (w.alloc (.cells #[.int .i64 3,.string (bs M),.int .i64 A,.int .i64 B,.int .i64 P,.bool X] 96)) (w1.alloc (.cells #[.int .i64 k2,.string (bs m2),.int .i64 a2,.int .i64 b2,.int .i64 p2,.bool x2] 96)):=hb1.alloc hb1.size _;refine(HS.out _ hb1').mono ?_;rintro e w2 ⟨rfl,hb2⟩;have hz3:w1.heap.size<w2.heap.size:=by have:=hb2.size;simp at this;omega
 have HB2:Hid (Below (w.alloc (.cells #[.int .i64 3,.string (bs M),.int .i64 A,.int .i64 B,.int .i64 P,.bool X] 96)).heap.size (w.alloc (.cells #[.int .i64 3,.string (bs M),.int .i64 A,.int .i64 B,.int .i64 P,.bool X] 96)) w2):=A6 (hb1'.trans (hb2.mono (by rw[HSZ2.out];simp;omega)));have HKN:Hid (w2.cell? ⟨w1.heap.size,0,none⟩=some (.int .i64 k2)/\w2.cell? ⟨w1.heap.size,5,none⟩=some (.bool x2)):=A6 <| by
  refine⟨?_,?_⟩<;>(rw[hb2.cell (by simp)];simp)
 clear hb1 hb1' hb2 q0 q1 q2 q3 q4 q5;obtain⟨-,q0,q1,q2,q3,q4,q5⟩:=HC.out w2 HB2.out;obtain⟨n0,n5⟩:=HKN.out;go_wp2_with fail
 clear n0 q0 q1 q2 q3 q4 q5;have HBX:Hid (∀wX,Bl w2 wX->Below (w.alloc (.cells #[.int .i64 3,.string (bs M),.int .i64 A,.int .i64 B,.int .i64 P,.bool X] 96)).heap.size (w.alloc (.cells #[.int .i64 3,.string (bs M),.int .i64 A,.int .i64 B,.int .i64 P,.bool X] 96)) wX):=A6 fun wX hX=>HB2.out.trans (hX.mono (by have:=HB2.out.size;omega))
 go_loopw [8] (fun iv wr=>∃(k:Nat),k<=all.length/\iv=.int .i64 k/\Hid (∀j,j<k->Eh all A Z (BN all j)=false)/\Bl w2 wr) (fun iv _=>all.length-(intOf iv).toNat)
 case atStart=>exact⟨0,Nat.zero_le _,rfl,A6 fun j hj=>absurd hj (by omega),AH⟩
 case round =>
  obtain⟨k,hk,rfl,HJ,hbel⟩:=hrel;have HB:=A5 hbel;clear hbel;by_cases hlt:k<all.length
  ·obtain⟨hR0,-,-,cA,-,-,-⟩:=HC.out wr (HBX.out wr HB.out);obtain⟨g,rfl,hcc⟩:=hR0 (by omega);have HKK0:Hid (∀wX,Bl w2 wX->Vi wX g k (BN all k)):=A6 fun wX hX=>by
    obtain⟨hR1,_⟩:=HC.out wX (HBX.out wX hX);obtain⟨g',e,hcc'⟩:=hR1 (by omega);simp only[Option.some.injEq,Addr.mk.injEq,and_true] at e;rw[e];exact hcc' k hlt
   obtain⟨hg,c0,c1,c2,c3,c4,c5⟩:=hcc k hlt;have HOKk:Hid _:=Iq HOK.out k;(have HSZ1a:Hid _:=fun wX (hX:Bl w2 wX)=>HSA.out (BN all k) wX (HBX.out wX hX));(obtain⟨Y,hY⟩:∃Y,GX all (BN all k)=Y:=⟨_,rfl⟩);have hYb:=KU HOK.out HOKk.out;rw[hY] at hYb HSZ1a;(obtain⟨s1,hs1⟩:∃s1,BN all k=s1:=⟨_,rfl⟩);rw[hs1] at c0 c1 c2 c3 c4 c5 HOKk HKK0 HSZ1a hY;obtain⟨K1,M1,A1,B1,P1,X1⟩:=s1;dsimp only at c0 c1 c2 c3 c4 c5;have HE:=A5 hs1;have HY:=A5 hY;have HSZ1:=A5 HSZ1a;(have HKK:Hid (∀wX,Bl w2 wX->(fun wX=>wX.cell? ⟨g,k*6,none⟩=some (.int .i64 K1)/\wX.cell? ⟨g,k*6+1,none⟩=some (.string (bs M1))/\wX.cell? ⟨g,k*6+2,none⟩=some (.int .i64 A1)/\wX.cell? ⟨g,k*6+3,none⟩=some (.int .i64 B1)/\wX.cell? ⟨g,k*6+4,none⟩=some (.int .i64 P1)/\wX.cell? ⟨g,k*6+5,none⟩=some (.bool X1)/\wX.cell? ⟨w.heap.size,2,none⟩=some (.int .i64 A)) wX):=A6 fun wX hX=>⟨(HKK0.out wX hX).k,(HKK0.out wX hX).n,(HKK0.out wX hX).a,(HKK0.out wX hX).b,(HKK0.out wX hX).p,(HKK0.out wX hX).e,(HC.out wX (HBX.out wX hX)).2.2.2.1⟩);have HM:Hid _:=II A Z A1 Y HAZ.out.1 HAZ.out.2 ⟨HOKk.out.a0,HOKk.out.a1⟩ hYb;(have L1:(0:Int)<=(k:Int):=by omega);(have L2:(k:Int)<(all.length:Int):=by omega);clear hs1 hcc hR0 hY HSZ1a;cases hK1:K1==1
   ·(have hK1':(K1 != 1)=true:=by simpa using hK1);cases hm:LM A Z A1 Y<;>rw[hm] at HM
    ·(have HF:Hid (Eh all A Z ⟨K1,M1,A1,B1,P1,X1⟩=false):=A6 <| by unfold Eh;rw[hK1,HY.out];exact hm);clear hm;(go_wp2_with fail);refine wp_region_held_drew (S:=(fun wX=>wX.cell? ⟨g,k*6,none⟩=some (.int .i64 K1)/\wX.cell? ⟨g,k*6+1,none⟩=some (.string (bs M1))/\wX.cell? ⟨g,k*6+2,none⟩=some (.int .i64 A1)/\wX.cell? ⟨g,k*6+3,none⟩=some (.int .i64 B1)/\wX.cell? ⟨g,k*6+4,none⟩=some (.int .i64 P1)/\wX.cell? ⟨g,k*6+5,none⟩=some (.bool X1)/\wX.cell? ⟨w.heap.size,2,none⟩=some (.int .i64 A))) (by kernel_rfl) (HKK.out _ HB.out.drew) (fun hHeld=>?_);refine tk 0 ?_;refine tk 1 ?_;refine tk 2 ?_;refine tk 3 ?_;refine tk 4 ?_;refine tk 5 ?_;refine tk 6 ?_;refine tk 7 ?_;refine tk 8 ?_;refine tk 9 ?_;refine tk 10 ?_;refine tk 11 ?_;refine tk 12 ?_;refine tk 13 ?_;refine tk 14 ?_;refine tk 15 ?_;refine tk 16 ?_;refine tk 17 ?_;refine tk 18 ?_;refine tk 19 ?_;(refine Aj 20 fun K hK=>?_);go_simp;(go_at_call 102);refine(HSZ1.out _ HB.out.drew).mono ?_;rintro e w4 ⟨rfl,hb4⟩;have HB4:Hid (Bl w2 w4):=A6 (HB.out.drew.trans (hb4.mono (by have:=HB.out.size;simp;omega)));clear hb4;(go_wp2_with fail);refine hK.out _ _ (HKK.out _ HB4.out) (fun hHeld2=>?_);clear hK K;(refine Aj 21 fun K hK=>?_);go_simp;(go_at_call 101);refine(HM.out _).mono ?_;rintro e w5 ⟨rfl,hw5⟩;obtain rfl:=hw5.symm;(go_wp2_with fail);refine hK.out _ _ (HKK.out _ HB4.out) (fun hHeld3=>?_);clear hK K;refine tk 22 ?_;refine AZ ?_;(go_wp2_with fail);go_roundw
     case rel=>exact⟨k+1,by omega,by go_num,A6 fun j hj=>by
       by_cases e:j=k
       ·rw[e,HE.out];exact HF.out
       ·exact HJ.out j (by omega),HB4.out⟩
     case measure=>first|(simp[intOf];done)|(simp[intOf];omega)
    ·have HV:Hid (Bu all ⟨3,M,A,B,P,X⟩=8):=A6 <| by
      rw[HX2.out,Nb hlt (by rw[HE.out];unfold Eh;rw[hK1,HY.out];exact hm)];rfl
     clear hm;(go_wp2_with fail);refine wp_region_held_drew (S:=(fun wX=>wX.cell? ⟨g,k*6,none⟩=some (.int .i64 K1)/\wX.cell? ⟨g,k*6+1,none⟩=some (.string (bs M1))/\wX.cell? ⟨g,k*6+2,none⟩=some (.int .i64 A1)/\wX.cell? ⟨g,k*6+3,none⟩=some (.int .i64 B1)/\wX.cell? ⟨g,k*6+4,none⟩=some (.int .i64 P1)/\wX.cell? ⟨g,k*6+5,none⟩=some (.bool X1)/\wX.cell? ⟨w.heap.size,2,none⟩=some (.int .i64 A))) (by kernel_rfl) (HKK.out _ HB.out.drew) (fun hHeld=>?_);refine tk 0 ?_;refine tk 1 ?_;refine tk 2 ?_;refine tk 3 ?_;refine tk 4 ?_;refine tk 5 ?_;refine tk 6 ?_;refine tk 7 ?_;refine tk 8 ?_;refine tk 9 ?_;refine tk 10 ?_;refine tk 11 ?_;refine tk 12 ?_;refine tk 13 ?_;refine tk 14 ?_;refine tk 15 ?_;refine tk 16 ?_;refine tk 17 ?_;refine tk 18 ?_;refine tk 19 ?_;(refine Aj 20 fun K hK=>?_);go_simp;(go_at_call 102);refine(HSZ1.out _ HB.out.drew).mono ?_;rintro e w4 ⟨rfl,hb4⟩;have HB4:Hid (Bl w2 w4):=A6 (HB.out.drew.trans (hb4.mono (by have:=HB.out.size;simp;omega)));clear hb4;(go_wp2_with fail);refine hK.out _ _ (HKK.out _ HB4.out) (fun hHeld2=>?_);clear hK K;(refine Aj 21 fun K hK=>?_);go_simp;(go_at_call 101);refine(HM.out _).mono ?_;rintro e w5 ⟨rfl,hw5⟩;obtain rfl:=hw5.symm;(go_wp2_with fail);refine hK.out _ _ (HKK.out _ HB4.out) (fun hHeld3=>?_);clear hK K;refine tk 22 ?_;refine AZ ?_;(go_wp2_with fail);go_ret;exact⟨by rw[HV.out];rfl,HBW.out.trans ((HBX.out _ HB4.out).mono (by simp))⟩
   ·(have hK1':(K1 != 1)=false:=by simpa using hK1);(have HF:Hid (Eh all A Z ⟨K1,M1,A1,B1,P1,X1⟩=false):=A6 <| by unfold Eh;rw[hK1];rfl);(go_wp2_with fail);refine wp_region_held_drew (S:=(fun wX=>wX.cell? ⟨g,k*6,none⟩=some (.int .i64 K1)/\wX.cell? ⟨g,k*6+1,none⟩=some (.string (bs M1))/\wX.cell? ⟨g,k*6+2,none⟩=some (.int .i64 A1)/\wX.cell? ⟨g,k*6+3,none⟩=some (.int .i64 B1)/\wX.cell? ⟨g,k*6+4,none⟩=some (.int .i64 P1)/\wX.cell? ⟨g,k*6+5,none⟩=some (.bool X1)/\wX.cell? ⟨w.heap.size,2,none⟩=some (.int .i64 A))) (by kernel_rfl) (HKK.out _ HB.out.drew) (fun hHeld=>?_);refine tk 0 ?_;refine tk 1 ?_;refine tk 2 ?_;refine tk 3 ?_;refine tk 4 ?_;refine tk 5 ?_;refine tk 6 ?_;refine sk 7 ?_;refine sk 8 ?_;refine sk 9 ?_;refine sk 10 ?_;refine sk 11 ?_;refine sk 12 ?_;refine sk 13 ?_;refine sk 14 ?_;refine sk 15 ?_;refine sk 16 ?_;refine sk 17 ?_;refine sk 18 ?_;refine sk 19 ?_;refine sk 20 ?_;refine sk 21 ?_;refine tk 22 ?_;refine AZ ?_;(go_wp2_with fail);go_roundw
    case rel=>exact⟨k+1,by omega,by go_num,A6 fun j hj=>by
      by_cases e:j=k
      ·rw[e,HE.out];exact HF.out
      ·exact HJ.out j (by omega),HB.out.drew⟩
    case measure=>first|(simp[intOf];done)|(simp[intOf];omega)
  ·have HX3:Hid (Bu all ⟨3,M,A,B,P,X⟩=_):=A6 <| by
    rw[HX2.out,Kg (fun j hj=>HJ.out j (by omega))]<;>rfl
   obtain⟨-,q0,q1,q2,q3,q4,q5⟩:=HC.out wr (HBX.out wr HB.out);(go_wp2_with fail);go_ret;exact⟨by rw[HX3.out];rfl,HBW.out.trans ((HBX.out _ HB.out).mono (by simp))⟩
end Go.Proofs.YtnmhkgmmpkjjeaaGreat
