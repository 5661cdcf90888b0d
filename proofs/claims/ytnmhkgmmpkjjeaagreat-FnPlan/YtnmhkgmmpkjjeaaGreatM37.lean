import Derived.Test.YtnmhkgmmpkjjeaaGreatM36
namespace Go.Proofs.YtnmhkgmmpkjjeaaGreat
open ChangeShapes WideShapes ChangeAt RowKit Proofs.Tryz
set_option linter.all false
set_option maxRecDepth 100000
set_option maxHeartbeats 8000000
attribute [local go_sem ↓] wp_at_zero wp_at_succ
attribute [local go_sem] DU FG FM H5 FE Du
theorem JW{all:List St}{M:Az}{t:Nat}(h:t<all.length):DY (all.take (t+1)) M=DY (all.take t) M++(if (BN all t).kind==2&&(BN all t).name==M then [BN all t] else []):=by
 unfold DY BN;rw[List.take_add_one,List.getElem?_eq_getElem h,List.filter_append,List.getD_eq_getElem?_getD,List.getElem?_eq_getElem h];simp only[Option.toList_some,Option.getD_some];rw[List.filter_cons];rfl
theorem V4(all:List St)(M:Az)(t:Nat){s:St}:(s :: DY (all.take t) M).length<=t+1:=by
 have h:(DY (all.take t) M).length<=t:=by
  unfold DY;exact Nat.le_trans (List.length_filter_le _ _) (by rw[List.length_take];omega)
 simp only[List.length_cons];omega
theorem Ig{L:List St}{p:St->Bool}{t:Nat}(h:t<L.length):(L.take (t+1)).any p=((L.take t).any p||p (BN L t)):=by
 unfold BN;rw[List.take_add_one,List.getElem?_eq_getElem h,List.any_append,List.getD_eq_getElem?_getD,List.getElem?_eq_getElem h];simp
theorem Gh{α:Type}{E:Dw α}{w wq wn:World}{g c g1 c1:Nat}{l:List α}{x:α}(hbel:Bl w wq)(hr:A8 E wq w.heap.size (.slice (some ⟨g,0,none⟩) l.length c) l)(hown:wn.ownsRow w.heap.size E.T E.sz (.slice (some ⟨g1,0,none⟩) (l.length+1) c1) (l.length+1) (AK E l++E.enc x))(hgrow:wq.grownBy wn (Value.ownBlock (.slice (some ⟨g,0,none⟩) l.length c))):A8 E wn w.heap.size (.slice (some ⟨g1,0,none⟩) (l++[x]).length c1) (l++[x])/\Bl w wn:=by
 refine⟨?_,hbel.grown hgrow hbel.size (fun q hq=>(hr.own q hq).1)⟩;have:=F6 rfl hown;rw[List.length_append,List.length_singleton];exact this
theorem Xm{w:World}:Bl w w.drew:=AH.drew
theorem LS.one{α:Type}{E:Dw α}{w wr:World}{x:α}(hb:Bl w wr):LS E w (wr.alloc (.cells (E.enc x).toArray E.T)) (.slice (some ⟨wr.heap.size,0,none⟩) 1 1) [x]:=by
 refine⟨⟨wr.heap.size,1,rfl,⟨by simp[AK,E.len],.inr ⟨wr.heap.size,1,(E.enc x).toArray,rfl,hb.size,heap_alloc_new wr _,Nat.le_refl _,by unfold maxLen;omega,by simp[E.len],?_⟩⟩⟩,hb.alloc hb.size _⟩;simp[AK];exact List.take_of_length_le (by rw[E.len];exact Nat.le_refl _)
theorem Ex(perm need:Int)(hp0:0<=perm)(hp1:perm<=7)(hn:need=2\/need=4)(w:World):Calls prog 103 #[.int .i64 perm,.int .i64 need] w fun e w'=>e=.returned (.bool (KJ perm need))/\w'=w:=by
 unfold KJ;have T1:perm.tdiv need=perm/need:=Int.tdiv_eq_ediv_of_nonneg hp0;have T2:0<=perm/need:=by rcases hn with h|h<;>subst h<;>omega
 have T3:(perm/need).tmod 2=perm/need%2:=Int.tmod_eq_emod_of_nonneg T2;have N0:¬need=0:=by omega
 have N0':(need==0)=false:=by simpa using N0
 have W1:IntKind.i64.wrap (perm/need)=perm/need:=by rw[IntKind.wrap_i64];rcases hn with h|h<;>subst h<;>omega
 by_cases hx:perm/need%2=1
 ·have hx':(perm/need%2==1)=true:=by simpa using hx
  rw[decide_eq_true hx];clear hx hn;go_enter func103,ntmps103
  go_wp2
  go_ret;exact⟨rfl,rfl⟩
 ·have hx':(perm/need%2==1)=false:=by simpa using hx
  rw[decide_eq_false hx];clear hx hn;go_enter func103,ntmps103
  go_wp2
  go_ret;exact⟨rfl,rfl⟩
theorem Z6(a:Option Addr)(c:Nat)(all:List St)(M:Az)(A B P:Int)(X:Bool)(w:World)(hle:all.length<=1000)(hr:Q1 w a all)(hall:∀t∈all,Ev t)(hs:Ev ⟨2,M,A,B,P,X⟩):Calls prog 37 #[.slice a all.length c,CH ⟨2,M,A,B,P,X⟩] w (AM w (.int .i64 (Bu all ⟨2,M,A,B,P,X⟩))):=by
 obtain⟨i0,hi,hz0,hz1q,hz2q⟩:=info_parts R5;obtain⟨R,hR⟩:∃R,By all M=R:=⟨_,rfl⟩
 obtain⟨Z,hZ⟩:∃Z,GX all ⟨2,M,A,B,P,X⟩=Z:=⟨_,rfl⟩
 have hZb:=KU hall hs;rw[hZ] at hZb;obtain⟨k2,m2,a2,b2,p2,x2⟩:=R;have HO:Hid (∀wX,Bl w wX->Calls prog 100 #[.slice a all.length c,.string (bs M)] wX (AM wX (.agg #[.int .i64 k2,.string (bs m2),.int .i64 a2,.int .i64 b2,.int .i64 p2,.bool x2]))):=A6 fun wX hX=>by
  have:=Dl a c all M wX hle (hr.below hX);rw[hR] at this;exact this
 have HC:Hid (∀wX,Below (w.alloc (.cells #[.int .i64 2,.string (bs M),.int .i64 A,.int .i64 B,.int .i64 P,.bool X] 96)).heap.size (w.alloc (.cells #[.int .i64 2,.string (bs M),.int .i64 A,.int .i64 B,.int .i64 P,.bool X] 96)) wX->Q1 wX a all/\wX.cell? ⟨w.heap.size,0,none⟩=some (.int .i64 2)/\wX.cell? ⟨w.heap.size,1,none⟩=some (.string (bs M))/\wX.cell? ⟨w.heap.size,2,none⟩=some (.int .i64 A)/\wX.cell? ⟨w.heap.size,3,none⟩=some (.int .i64 B)/\wX.cell? ⟨w.heap.size,4,none⟩=some (.int .i64 P)/\wX.cell? ⟨w.heap.size,5,none⟩=some (.bool X)):=A6 fun wX hX=>by
  refine⟨(hr.below AO).below hX,?_,?_,?_,?_,?_,?_⟩<;>(rw[hX.cell (by simp)];simp)
 have HS:Hid (∀wX,Below (w.alloc (.cells #[.int .i64 2,.string (bs M),.int .i64 A,.int .i64 B,.int .i64 P,.bool X] 96)).heap.size (w.alloc (.cells #[.int .i64 2,.string (bs M),.int .i64 A,.int .i64 B,.int .i64 P,.bool X] 96)) wX->Calls prog 102 #[.slice a all.length c,.agg #[.int .i64 2,.string (bs M),.int .i64 A,.int .i64 B,.int .i64 P,.bool X]] wX (AM wX (.int .i64 Z))):=A6 fun wX hX=>by
  have:=GG a c all ⟨2,M,A,B,P,X⟩ wX hle (HC.out wX hX).1;rw[hZ] at this;exact this
 have HSA:Hid (∀(s1:St) wX,Below (w.alloc (.cells #[.int .i64 2,.string (bs M),.int .i64 A,.int .i64 B,.int .i64 P,.bool X] 96)).heap.size (w.alloc (.cells #[.int .i64 2,.string (bs M),.int .i64 A,.int .i64 B,.int .i64 P,.bool X] 96)) wX->Calls prog 102 #[.slice a all.length c,CH s1] wX (AM wX (.int .i64 (GX all s1)))):=A6 fun s1 wX hX=>GG a c all s1 wX hle (HC.out wX hX).1
 have HOK:=A5 hall;have HSK:=A5 hs;have HBW:Hid (Bl w (w.alloc (.cells #[.int .i64 2,.string (bs M),.int .i64 A,.int .i64 B,.int .i64 P,.bool X] 96))):=AO;have HAZ:Hid ((0<=A/\A<1000000)/\(0<=Z/\Z<1000000)):=⟨⟨hs.a0,hs.a1⟩,hZb⟩;have hA1:0<=A/\A<1000000:=⟨hs.a0,hs.a1⟩;have HX1:Hid (Bu all ⟨2,M,A,B,P,X⟩=if k2==0 then 6 else if Z==0||decide (4096<A+Z) then 7 else if all.any (Eh all A Z) then 8 else (if !x2&&decide (1<(⟨2,M,A,B,P,X⟩ :: DY all M).length) then 9 else if x2&&((⟨2,M,A,B,P,X⟩ :: DY all M).any (fun e=>KJ e.perm 2)&&(⟨2,M,A,B,P,X⟩ :: DY all M).any (fun e=>KJ e.perm 4)) then 10 else 0)):=A6 <| by
  show (if (2:Int)==0 then (4:Int) else if (2:Int)==1 then _ else if (2:Int)==2&&(By all M).kind==0 then 6 else _)=_;rw[if_neg (by decide),if_neg (by decide),hR,hZ];rfl
 have HSZ2:Hid ((w.alloc (.cells #[.int .i64 2,.string (bs M),.int .i64 A,.int .i64 B,.int .i64 P,.bool X] 96)).heap.size=w.heap.size+1):=A6 (by simp);clear hr hall hR hs hZ;unfold CH;dsimp only;cases h2:k2==0;rotate_left
 ·have HV:Hid (Bu all ⟨2,M,A,B,P,X⟩=6):=A6 <| by rw[HX1.out,h2];rfl
  go_enter func37,ntmps37
  go_wp2_with fail
  refine(HO.out _ AO).mono ?_;rintro e w1 ⟨rfl,hb1⟩;obtain⟨-,q0,q1,q2,q3,q4,q5⟩:=HC.out w1 hb1;have hz1:w.heap.size<w1.heap.size:=by have:=hb1.size;rw[HSZ2.out] at this;omega
  go_wp2_with fail
  go_ret;refine⟨by rw[HV.out];rfl,?_⟩;exact HBW.out.trans ((hb1.alloc hb1.size _).mono (by simp))
 by_cases hZ0:Z=0
 ·have HV:Hid (Bu all ⟨2,M,A,B,P,X⟩=7):=A6 <| by rw[HX1.out,h2,if_neg (by decide),if_pos (by simp[hZ0])]
  have e0:(Z==0)=true:=by simp[hZ0]
  clear hZ0;go_enter func37,ntmps37
  go_wp2_with fail
  refine(HO.out _ AO).mono ?_;rintro e w1 ⟨rfl,hb1⟩;obtain⟨-,q0,q1,q2,q3,q4,q5⟩:=HC.out w1 hb1;have hz1:w.heap.size<w1.heap.size:=by have:=hb1.size;rw[HSZ2.out] at this;omega
  go_wp2_with fail
  have hb1':Below (w.alloc (.cells #[.int .i64 2,.string (bs M),.int .i64 A,.int .i64 B,.int .i64 P,.bool X] 96)).heap.size (w.alloc (.cells #[.int .i64 2,.string (bs M),.int .i64 A,.int .i64 B,.int .i64 P,.bool X] 96)) (w1.alloc (.cells #[.int .i64 k2,.string (bs m2),.int .i64 a2,.int .i64 b2,.int .i64 p2,.bool x2] 96)):=hb1.alloc hb1.size _;refine(HS.out _ hb1').mono ?_;rintro e w2 ⟨rfl,hb2⟩;have HB2:Hid (Below (w.alloc (.cells #[.int .i64 2,.string (bs M),.int .i64 A,.int .i64 B,.int .i64 P,.bool X] 96)).heap.size (w.alloc (.cells #[.int .i64 2,.string (bs M),.int .i64 A,.int .i64 B,.int .i64 P,.bool X] 96)) w2):=A6 (hb1'.trans (hb2.mono (by rw[HSZ2.out];simp;omega)));have HKN:Hid (w2.cell? ⟨w1.heap.size,0,none⟩=some (.int .i64 k2)/\w2.cell? ⟨w1.heap.size,5,none⟩=some (.bool x2)):=A6 <| by
   refine⟨?_,?_⟩<;>(rw[hb2.cell (by simp)];simp)
  clear hb1 hb1' hb2 q0 q1 q2 q3 q4 q5;obtain⟨-,q0,q1,q2,q3,q4,q5⟩:=HC.out w2 HB2.out;obtain⟨n0,n5⟩:=HKN.out;go_wp2_with fail
  go_ret;refine⟨by rw[HV.out];rfl,?_⟩;exact HBW.out.trans (HB2.out.mono (by simp))
 have e0:(Z==0)=false:=by simp[hZ0]
 by_cases hL:4096<A+Z
 ·have HV:Hid (Bu all ⟨2,M,A,B,P,X⟩=7):=A6 <| by rw[HX1.out,h2,if_neg (by decide),if_pos (by simp[hL])]
  clear hZ0;go_enter func37,ntmps37
  go_wp2_with fail
  refine(HO.out _ AO).mono ?_;rintro e w1 ⟨rfl,hb1⟩;obtain⟨-,q0,q1,q2,q3,q4,q5⟩:=HC.out w1 hb1;have hz1:w.heap.size<w1.heap.size:=by have:=hb1.size;rw[HSZ2.out] at this;omega
  go_wp2_with fail
  have hb1':Below (w.alloc (.cells #[.int .i64 2,.string (bs M),.int .i64 A,.int .i64 B,.int .i64 P,.bool X] 96)).heap.size (w.alloc (.cells #[.int .i64 2,.string (bs M),.int .i64 A,.int .i64 B,.int .i64 P,.bool X] 96)) (w1.alloc (.cells #[.int .i64 k2,.string (bs m2),.int .i64 a2,.int .i64 b2,.int .i64 p2,.bool x2] 96)):=hb1.alloc hb1.size _;refine(HS.out _ hb1').mono ?_;rintro e w2 ⟨rfl,hb2⟩;have HB2:Hid (Below (w.alloc (.cells #[.int .i64 2,.string (bs M),.int .i64 A,.int .i64 B,.int .i64 P,.bool X] 96)).heap.size (w.alloc (.cells #[.int .i64 2,.string (bs M),.int .i64 A,.int .i64 B,.int .i64 P,.bool X] 96)) w2):=A6 (hb1'.trans (hb2.mono (by rw[HSZ2.out];simp;omega)));have HKN:Hid (w2.cell? ⟨w1.heap.size,0,none⟩=some (.int .i64 k2)/\w2.cell? ⟨w1.heap.size,5,none⟩=some (.bool x2)):=A6 <| by
   refine⟨?_,?_⟩<;>(rw[hb2.cell (by simp)];simp)
  clear hb1 hb1' hb2 q0 q1 q2 q3 q4 q5;obtain⟨-,q0,q1,q2,q3,q4,q5⟩:=HC.out w2 HB2.out;obtain⟨n0,n5⟩:=HKN.out;go_wp2_with fail
  go_ret;refine⟨by rw[HV.out];rfl,?_⟩;exact HBW.out.trans (HB2.out.mono (by simp))
 have hL':A+Z<=4096:=by omega
 have HX2:Hid (Bu all ⟨2,M,A,B,P,X⟩=if all.any (Eh all A Z) then 8 else _):=A6 <| by rw[HX1.out,h2,if_neg (by decide),if_neg (by simp[hL,hZ0])]
 clear hZ0 hL;go_enter func37,ntmps37
 go_wp2_with fail
 refine(HO.out _ AO).mono ?_;rintro e w1 ⟨rfl,hb1⟩;obtain⟨-,q0,q1,q2,q3,q4,q5⟩:=HC.out w1 hb1;have hz1:w.heap.size<w1.heap.size:=by have:=hb1.size;rw[HSZ2.out] at this;omega
 go_wp2_with fail
 have hb1':Below (w.alloc (.cells #[.int .i64 2,.string (bs M),.int .i64 A,.int .i64 B,.int .i64 P,.bool X] 96)).heap.size (w.alloc (.cells #[.int .i64 2,.string (bs M),.int .i64 A,.int .i64 B,.int .i64 P,.bool X] 96)) (w1.alloc (.cells #[.int .i64 k2,.string (bs m2),.int .i64 a2,.int .i64 b2,.int .i64 p2,.bool x2] 96)):=hb1.alloc hb1.size _;refine(HS.out _ hb1').mono ?_;rintro e w2 ⟨rfl,hb2⟩;have hz3:w1.heap.size<w2.heap.size:=by have:=hb2.size;simp at this;omega
 have HB2:Hid (Below (w.alloc (.cells #[.int .i64 2,.string (bs M),.int .i64 A,.int .i64 B,.int .i64 P,.bool X] 96)).heap.size (w.alloc (.cells #[.int .i64 2,.string (bs M),.int .i64 A,.int .i64 B,.int .i64 P,.bool X] 96)) w2):=A6 (hb1'.trans (hb2.mono (by rw[HSZ2.out];simp;omega)));have HKN:Hid (w2.cell? ⟨w1.heap.size,0,none⟩=some (.int .i64 k2)/\w2.cell? ⟨w1.heap.size,5,none⟩=some (.bool x2)):=A6 <| by
  refine⟨?_,?_⟩<;>(rw[hb2.cell (by simp)];simp)
 clear hb1 hb1' hb2 q0 q1 q2 q3 q4 q5;obtain⟨-,q0,q1,q2,q3,q4,q5⟩:=HC.out w2 HB2.out;obtain⟨n0,n5⟩:=HKN.out;go_wp2_with fail
 clear n0 q0 q1 q2 q3 q4 q5 n5;have HBX:Hid (∀wX,Bl w2 wX->Below (w.alloc (.cells #[.int .i64 2,.string (bs M),.int .i64 A,.int .i64 B,.int .i64 P,.bool X] 96)).heap.size (w.alloc (.cells #[.int .i64 2,.string (bs M),.int .i64 A,.int .i64 B,.int .i64 P,.bool X] 96)) wX):=A6 fun wX hX=>HB2.out.trans (hX.mono (by have:=HB2.out.size;omega))
 go_loopw [8] (fun iv wr=>∃(k:Nat),k<=all.length/\iv=.int .i64 k/\Hid (∀j,j<k->Eh all A Z (BN all j)=false)/\Bl w2 wr) (fun iv _=>all.length-(intOf iv).toNat)
 case atStart=>exact⟨0,Nat.zero_le _,rfl,A6 fun j hj=>absurd hj (by omega),AH⟩
 case round =>
  obtain⟨k,hk,rfl,HJ,hbel⟩:=hrel;have HB:=A5 hbel;clear hbel;by_cases hlt:k<all.length
  ·obtain⟨hR0,-,-,cA,-,-,-⟩:=HC.out wr (HBX.out wr HB.out);obtain⟨g,rfl,hcc⟩:=hR0 (by omega);have HKK0:Hid (∀wX,Bl w2 wX->Vi wX g k (BN all k)):=A6 fun wX hX=>by
    obtain⟨hR1,_⟩:=HC.out wX (HBX.out wX hX);obtain⟨g',e,hcc'⟩:=hR1 (by omega);simp only[Option.some.injEq,Addr.mk.injEq,and_true] at e;rw[e];exact hcc' k hlt
   obtain⟨hg,c0,c1,c2,c3,c4,c5⟩:=hcc k hlt;have HOKk:Hid _:=Iq HOK.out k;(have HSZ1a:Hid _:=fun wX (hX:Bl w2 wX)=>HSA.out (BN all k) wX (HBX.out wX hX));(obtain⟨Y,hY⟩:∃Y,GX all (BN all k)=Y:=⟨_,rfl⟩);have hYb:=KU HOK.out HOKk.out;rw[hY] at hYb HSZ1a;(obtain⟨s1,hs1⟩:∃s1,BN all k=s1:=⟨_,rfl⟩);rw[hs1] at c0 c1 c2 c3 c4 c5 HOKk HKK0 HSZ1a hY;obtain⟨K1,M1,A1,B1,P1,X1⟩:=s1;dsimp only at c0 c1 c2 c3 c4 c5;have HE:=A5 hs1;have HY:=A5 hY;have HSZ1:=A5 HSZ1a;(have HKK:Hid (∀wX,Bl w2 wX->(fun wX=>wX.cell? ⟨g,k*6,none⟩=some (.int .i64 K1)/\wX.cell? ⟨g,k*6+1,none⟩=some (.string (bs M1))/\wX.cell? ⟨g,k*6+2,none⟩=some (.int .i64 A1)/\wX.cell? ⟨g,k*6+3,none⟩=some (.int .i64 B1)/\wX.cell? ⟨g,k*6+4,none⟩=some (.int .i64 P1)/\wX.cell? ⟨g,k*6+5,none⟩=some (.bool X1)/\wX.cell? ⟨w.heap.size,2,none⟩=some (.int .i64 A)) wX):=A6 fun wX hX=>⟨(HKK0.out wX hX).k,(HKK0.out wX hX).n,(HKK0.out wX hX).a,(HKK0.out wX hX).b,(HKK0.out wX hX).p,(HKK0.out wX hX).e,(HC.out wX (HBX.out wX hX)).2.2.2.1⟩);have HM:Hid _:=II A Z A1 Y HAZ.out.1 HAZ.out.2 ⟨HOKk.out.a0,HOKk.out.a1⟩ hYb;(have L1:(0:Int)<=(k:Int):=by omega);(have L2:(k:Int)<(all.length:Int):=by omega);clear hs1 hcc hR0 hY HSZ1a;cases hK1:K1==1
   ·(have hK1':(K1 != 1)=true:=by simpa using hK1);cases hm:LM A Z A1 Y<;>rw[hm] at HM
    ·(have HF:Hid (Eh all A Z ⟨K1,M1,A1,B1,P1,X1⟩=false):=A6 <| by unfold Eh;rw[hK1,HY.out];exact hm);clear hm;(go_wp2_with fail);refine wp_region_held_drew (S:=(fun wX=>wX.cell? ⟨g,k*6,none⟩=some (.int .i64 K1)/\wX.cell? ⟨g,k*6+1,none⟩=some (.string (bs M1))/\wX.cell? ⟨g,k*6+2,none⟩=some (.int .i64 A1)/\wX.cell? ⟨g,k*6+3,none⟩=some (.int .i64 B1)/\wX.cell? ⟨g,k*6+4,none⟩=some (.int .i64 P1)/\wX.cell? ⟨g,k*6+5,none⟩=some (.bool X1)/\wX.cell? ⟨w.heap.size,2,none⟩=some (.int .i64 A))) (by kernel_rfl) (HKK.out _ HB.out.drew) (fun hHeld=>?_);refine tk 0 ?_;refine tk 1 ?_;refine tk 2 ?_;refine tk 3 ?_;refine tk 4 ?_;refine tk 5 ?_;refine tk 6 ?_;refine tk 7 ?_;refine tk 8 ?_;refine tk 9 ?_;refine tk 10 ?_;refine tk 11 ?_;refine tk 12 ?_;refine tk 13 ?_;refine tk 14 ?_;refine tk 15 ?_;refine tk 16 ?_;refine tk 17 ?_;refine tk 18 ?_;refine tk 19 ?_;(refine Aj 20 fun K hK=>?_);go_simp;(go_at_call 102);refine(HSZ1.out _ HB.out.drew).mono ?_;rintro e w4 ⟨rfl,hb4⟩;have HB4:Hid (Bl w2 w4):=A6 (HB.out.drew.trans (hb4.mono (by have:=HB.out.size;simp;omega)));clear hb4;(go_wp2_with fail);refine hK.out _ _ (HKK.out _ HB4.out) (fun hHeld2=>?_);clear hK K;(refine Aj 21 fun K hK=>?_);go_simp;(go_at_call 101);refine(HM.out _).mono ?_;rintro e w5 ⟨rfl,hw5⟩;obtain rfl:=hw5.symm;(go_wp2_with fail);refine hK.out _ _ (HKK.out _ HB4.out) (fun hHeld3=>?_);clear hK K;refine tk 22 ?_;refine AZ ?_;(go_wp2_with fail);go_roundw
     case rel=>exact⟨k+1,by omega,by go_num,A6 fun j hj=>by
       by_cases e:j=k
       ·rw[e,HE.out];exact HF.out
       ·exact HJ.out j (by omega),HB4.out⟩
     case measure=>first|(simp[intOf];done)|(simp[intOf];omega)
    ·have HV:Hid (Bu all ⟨2,M,A,B,P,X⟩=8):=A6 <| by
      rw[HX2.out,Nb hlt (by rw[HE.out];unfold Eh;rw[hK1,HY.out];exact hm)];rfl
     clear hm;(go_wp2_with fail);refine wp_region_held_drew (S:=(fun wX=>wX.cell? ⟨g,k*6,none⟩=some (.int .i64 K1)/\wX.cell? ⟨g,k*6+1,none⟩=some (.string (bs M1))/\wX.cell? ⟨g,k*6+2,none⟩=some (.int .i64 A1)/\wX.cell? ⟨g,k*6+3,none⟩=some (.int .i64 B1)/\wX.cell? ⟨g,k*6+4,none⟩=some (.int .i64 P1)/\wX.cell? ⟨g,k*6+5,none⟩=some (.bool X1)/\wX.cell? ⟨w.heap.size,2,none⟩=some (.int .i64 A))) (by kernel_rfl) (HKK.out _ HB.out.drew) (fun hHeld=>?_);refine tk 0 ?_;refine tk 1 ?_;refine tk 2 ?_;refine tk 3 ?_;refine tk 4 ?_;refine tk 5 ?_;refine tk 6 ?_;refine tk 7 ?_;refine tk 8 ?_;refine tk 9 ?_;refine tk 10 ?_;refine tk 11 ?_;refine tk 12 ?_;refine tk 13 ?_;refine tk 14 ?_;refine tk 15 ?_;refine tk 16 ?_;refine tk 17 ?_;refine tk 18 ?_;refine tk 19 ?_;(refine Aj 20 fun K hK=>?_);go_simp;(go_at_call 102);refine(HSZ1.out _ HB.out.drew).mono ?_;rintro e w4 ⟨rfl,hb4⟩;have HB4:Hid (Bl w2 w4):=A6 (HB.out.drew.trans (hb4.mono (by have:=HB.out.size;simp;omega)));clear hb4;(go_wp2_with fail);refine hK.out _ _ (HKK.out _ HB4.out) (fun hHeld2=>?_);clear hK K;(refine Aj 21 fun K hK=>?_);go_simp;(go_at_call 101);refine(HM.out _).mono ?_;rintro e w5 ⟨rfl,hw5⟩;obtain rfl:=hw5.symm;(go_wp2_with fail);refine hK.out _ _ (HKK.out _ HB4.out) (fun hHeld3=>?_);clear hK K;refine tk 22 ?_;refine AZ ?_;(go_wp2_with fail);go_ret;exact⟨by rw[HV.out];rfl,HBW.out.trans ((HBX.out _ HB4.out).mono (by simp))⟩
   ·(have hK1':(K1 != 1)=false:=by simpa using hK1);(have HF:Hid (Eh all A Z ⟨K1,M1,A1,B1,P1,X1⟩=false):=A6 <| by unfold Eh;rw[hK1];rfl);(go_wp2_with fail);refine wp_region_held_drew (S:=(fun wX=>wX.cell? ⟨g,k*6,none⟩=some (.int .i64 K1)/\wX.cell? ⟨g,k*6+1,none⟩=some (.string (bs M1))/\wX.cell? ⟨g,k*6+2,none⟩=some (.int .i64 A1)/\wX.cell? ⟨g,k*6+3,none⟩=some (.int .i64 B1)/\wX.cell? ⟨g,k*6+4,none⟩=some (.int .i64 P1)/\wX.cell? ⟨g,k*6+5,none⟩=some (.bool X1)/\wX.cell? ⟨w.heap.size,2,none⟩=some (.int .i64 A))) (by kernel_rfl) (HKK.out _ HB.out.drew) (fun hHeld=>?_);refine tk 0 ?_;refine tk 1 ?_;refine tk 2 ?_;refine tk 3 ?_;refine tk 4 ?_;refine tk 5 ?_;refine tk 6 ?_;refine sk 7 ?_;refine sk 8 ?_;refine sk 9 ?_;refine sk 10 ?_;refine sk 11 ?_;refine sk 12 ?_;refine sk 13 ?_;refine sk 14 ?_;refine sk 15 ?_;refine sk 16 ?_;refine sk 17 ?_;refine sk 18 ?_;refine sk 19 ?_;refine sk 20 ?_;refine sk 21 ?_;refine tk 22 ?_;refine AZ ?_;(go_wp2_with fail);go_roundw
    case rel=>exact⟨k+1,by omega,by go_num,A6 fun j hj=>by
      by_cases e:j=k
      ·rw[e,HE.out];exact HF.out
      ·exact HJ.out j (by omega),HB.out.drew⟩
    case measure=>first|(simp[intOf];done)|(simp[intOf];omega)
  ·have HX3:Hid (Bu all ⟨2,M,A,B,P,X⟩=_):=A6 <| by
    rw[HX2.out,Kg (fun j hj=>HJ.out j (by omega))]<;>rfl
   obtain⟨-,q0,q1,q2,q3,q4,q5⟩:=HC.out wr (HBX.out wr HB.out);have n5:wr.cell? ⟨w1.heap.size,5,none⟩=some (.bool x2):=(HB.out.cell (p:=⟨w1.heap.size,5,none⟩) hz3).trans HKN.out.2;(go_wp2_with fail);have HL0:Hid (LS Th w2 (wr.alloc (.cells #[.int .i64 2,.string (bs M),.int .i64 A,.int .i64 B,.int .i64 P,.bool X] 96)) (.slice (some ⟨wr.heap.size,0,none⟩) 1 1) [⟨2,M,A,B,P,X⟩]):=A6 (LS.one (E:=Th) (x:=⟨2,M,A,B,P,X⟩) HB.out);clear HB;(go_loopw [9,10] (fun vv iv wr=>∃(t:Nat) (L:List St),t<=all.length/\iv=.int .i64 t/\Hid (L=⟨2,M,A,B,P,X⟩ :: DY (all.take t) M)/\LS Th w2 wr vv L) (fun _ iv _=>all.length-(intOf iv).toNat));(case atStart=>exact⟨0,[⟨2,M,A,B,P,X⟩],Nat.zero_le _,rfl,A6 rfl,HL0.out⟩);case round =>
    obtain⟨t,L,ht,rfl,HLE,hst⟩:=hrel;have HBQ:=A5 hst.bel;(have hLl:L.length<=t+1:=by rw[HLE.out];exact V4 all M t);by_cases hlt2:t<all.length
    ·obtain⟨hR0,-,cM,-,-,-,-⟩:=HC.out wr (HBX.out wr HBQ.out);obtain⟨g,rfl,hcc⟩:=hR0 (by omega);have HKK0:Hid (∀wX,Bl w2 wX->Vi wX g t (BN all t)):=A6 fun wX hX=>by
      obtain⟨hR1,_⟩:=HC.out wX (HBX.out wX hX);obtain⟨g',e,hcc'⟩:=hR1 (by omega);simp only[Option.some.injEq,Addr.mk.injEq,and_true] at e;rw[e];exact hcc' t hlt2
     obtain⟨hg,c0,c1,c2,c3,c4,c5⟩:=hcc t hlt2;(obtain⟨s1,hs1⟩:∃s1,BN all t=s1:=⟨_,rfl⟩);rw[hs1] at c0 c1 c2 c3 c4 c5 HKK0;obtain⟨K1,M1,A1,B1,P1,X1⟩:=s1;dsimp only at c0 c1 c2 c3 c4 c5;have HE:=A5 hs1;(have HKK:Hid (∀wX,Bl w2 wX->(fun wX=>wX.cell? ⟨g,t*6,none⟩=some (.int .i64 K1)/\wX.cell? ⟨g,t*6+1,none⟩=some (.string (bs M1))/\wX.cell? ⟨w.heap.size,1,none⟩=some (.string (bs M))) wX):=A6 fun wX hX=>⟨(HKK0.out wX hX).k,(HKK0.out wX hX).n,(HC.out wX (HBX.out wX hX)).2.2.1⟩);(have L1:(0:Int)<=(t:Int):=by omega);(have L2:(t:Int)<(all.length:Int):=by omega);clear hs1 hcc hR0;cases hK1:K1==2
     ·(go_wp2_with fail);refine wp_region_held_drew (S:=(fun wX=>wX.cell? ⟨g,t*6,none⟩=some (.int .i64 K1)/\wX.cell? ⟨g,t*6+1,none⟩=some (.string (bs M1))/\wX.cell? ⟨w.heap.size,1,none⟩=some (.string (bs M)))) (by kernel_rfl) (HKK.out _ HBQ.out.drew) (fun hHeld=>?_);refine tk 0 ?_;refine tk 1 ?_;refine tk 2 ?_;refine tk 3 ?_;refine tk 4 ?_;refine tk 5 ?_;refine tk 6 ?_;refine sk 7 ?_;refine sk 8 ?_;refine sk 9 ?_;refine sk 10 ?_;refine sk 11 ?_;refine sk 12 ?_;refine sk 13 ?_;refine sk 14 ?_;refine tk 15 ?_;refine AZ ?_;(go_wp2_with fail);go_roundw;(case rel=>exact⟨t+1,L,by omega,by go_num,A6 <| by rw[HLE.out,JW hlt2,HE.out,show ((K1==2)&&(M1==M))=false by rw[hK1];rfl];simp,(hst.below Xm)⟩);case measure=>first|(simp[intOf];done)|(simp[intOf];omega)
     ·cases hM1:M1==M
      ·(go_wp2_with fail);refine wp_region_held_drew (S:=(fun wX=>wX.cell? ⟨g,t*6,none⟩=some (.int .i64 K1)/\wX.cell? ⟨g,t*6+1,none⟩=some (.string (bs M1))/\wX.cell? ⟨w.heap.size,1,none⟩=some (.string (bs M)))) (by kernel_rfl) (HKK.out _ HBQ.out.drew) (fun hHeld=>?_);refine tk 0 ?_;refine tk 1 ?_;refine tk 2 ?_;refine tk 3 ?_;refine tk 4 ?_;refine tk 5 ?_;refine tk 6 ?_;refine tk 7 ?_;refine tk 8 ?_;refine tk 9 ?_;refine tk 10 ?_;refine tk 11 ?_;refine tk 12 ?_;refine tk 13 ?_;refine tk 14 ?_;refine tk 15 ?_;refine AZ ?_;(go_wp2_with fail);go_roundw;(case rel=>exact⟨t+1,L,by omega,by go_num,A6 <| by rw[HLE.out,JW hlt2,HE.out,show ((K1==2)&&(M1==M))=false by rw[hK1,hM1];rfl];simp,(hst.below Xm)⟩);case measure=>first|(simp[intOf];done)|(simp[intOf];omega)
      ·obtain⟨⟨gv,cv,rfl,hrow⟩,hbel⟩:=hst;have HROW:=A5 hrow;have hszq:=hbel.size;clear hrow hbel;(go_wp2_with fail);refine wp_region_held_drew (S:=(fun wX=>wX.cell? ⟨g,t*6,none⟩=some (.int .i64 K1)/\wX.cell? ⟨g,t*6+1,none⟩=some (.string (bs M1))/\wX.cell? ⟨w.heap.size,1,none⟩=some (.string (bs M)))) (by kernel_rfl) (HKK.out _ HBQ.out.drew) (fun hHeld=>?_);refine tk 0 ?_;refine tk 1 ?_;refine tk 2 ?_;refine tk 3 ?_;refine tk 4 ?_;refine tk 5 ?_;refine tk 6 ?_;refine tk 7 ?_;refine tk 8 ?_;refine tk 9 ?_;refine tk 10 ?_;refine tk 11 ?_;refine tk 12 ?_;refine tk 13 ?_;refine tk 14 ?_;refine tk 15 ?_;refine AZ ?_;have HRD:Hid (A8 Th (wr.alloc (.cells #[.int .i64 K1,.string (bs M1),.int .i64 A1,.int .i64 B1,.int .i64 P1,.bool X1] 96)).drew w2.heap.size (.slice (some ⟨gv,0,none⟩) L.length cv) L):=A6 (HROW.out.below AO.drew);have HBD:Hid (Bl w2 (wr.alloc (.cells #[.int .i64 K1,.string (bs M1),.int .i64 A1,.int .i64 B1,.int .i64 P1,.bool X1] 96)).drew):=A6 (HBQ.out.alloc HBQ.out.size _).drew;(have HLN:Hid (L++[(⟨K1,M1,A1,B1,P1,X1⟩:St)]=⟨2,M,A,B,P,X⟩ :: DY (all.take (t+1)) M):=A6 <| by rw[HLE.out,JW hlt2,HE.out,show ((K1==2)&&(M1==M))=true by rw[hK1,hM1];rfl];simp);(go_wp2_with (at_builtin;refine wpList_append_lies _ rfl (.tmp 143) (.tmp 148) 94 rfl w2.heap.size 96 i0 _ 6 56 underlying94 hi hz0 hz1q hz2q rfl (by omega) _ _ _ rfl HRD.out ⟨_,0,none⟩ 1 1 [.int .i64 K1,.string (bs M1),.int .i64 A1,.int .i64 B1,.int .i64 P1,.bool X1] rfl rfl ?c1 ?c2 (by omega) ?c3 ?c4 ?c5 _ rfl ?_));(case c1=>exact World.news_of_block (show (wr.alloc (.cells #[.int .i64 K1,.string (bs M1),.int .i64 A1,.int .i64 B1,.int .i64 P1,.bool X1] 96)).drew.heap[wr.heap.size]?=_ from heap_alloc_new wr _));(case c2=>intro u hu;simp at hu;rcases hu with rfl|rfl|rfl|rfl|rfl|rfl<;>rfl);(case c3=>unfold maxLen;omega);(case c4=>omega);(case c5=>first|omega|(simp;omega));intro g7 c7 w7 hown hgrow hat hlt3;obtain⟨hr7,hb7⟩:=Gh (E:=Th) (x:=⟨K1,M1,A1,B1,P1,X1⟩) HBD.out HRD.out hown hgrow;have HR7:=A5 hr7;have HB7:=A5 hb7;clear hown hgrow hat hlt3 hr7 hb7;(go_wp2_with fail);go_roundw;(case rel=>exact⟨t+1,L++[(⟨K1,M1,A1,B1,P1,X1⟩:St)],by omega,by go_num,HLN,⟨⟨g7,c7,by simp,HR7.out⟩,HB7.out⟩⟩);case measure=>first|(simp[intOf];done)|(simp[intOf];omega)
    ·(have HLF:Hid (L=⟨2,M,A,B,P,X⟩ :: DY all M):=A6 <| by rw[HLE.out,show t=all.length by omega,List.take_length]);have HLK:Hid (∀s∈L,Ev s):=A6 <| by
      rw[HLF.out];intro s hs;rcases List.mem_cons.1 hs with rfl|h
      ·exact HSK.out
      ·exact HOK.out s (List.mem_filter.1 h).1
     obtain⟨⟨gv,cv,rfl,hrow⟩,hbel⟩:=hst;have HLC:Hid (∀i,i<L.length->Vi wr gv i (BN L i)):=A6 fun i hi=>by
      obtain⟨g',e,hh⟩:=JN hrow (by omega);simp only[Option.some.injEq,Addr.mk.injEq,and_true] at e;rw[e];exact hh i hi
     have n5:wr.cell? ⟨w1.heap.size,5,none⟩=some (.bool x2):=(HBQ.out.cell (p:=⟨w1.heap.size,5,none⟩) hz3).trans HKN.out.2;have hszq:=hbel.size;clear hrow hbel;cases x2
     ·by_cases hlen:1<L.length
      ·(have HV:Hid (Bu all ⟨2,M,A,B,P,X⟩=9):=A6 <| by rw[HX3.out,<- HLF.out,decide_eq_true hlen];rfl);(have hlen':(1:Int)<(L.length:Int):=by omega);(go_wp2_with fail);go_ret;exact⟨by rw[HV.out];rfl,HBW.out.trans ((HBX.out _ HBQ.out).mono (by simp))⟩
      ·(have hlen':(L.length:Int)<=1:=by omega);(go_wp2_with fail);(go_loopw [11,12,13] (fun wv fv iv wz=>∃(t:Nat),t<=L.length/\iv=.int .i64 t/\wv=.bool ((L.take t).any fun e=>KJ e.perm 2)/\fv=.bool ((L.take t).any fun e=>KJ e.perm 4)/\wz=wr) (fun _ _ iv _=>L.length-(intOf iv).toNat));(case atStart=>exact⟨0,Nat.zero_le _,rfl,rfl,rfl,rfl⟩);case round =>
        obtain⟨t,ht,rfl,rfl,rfl,rfl⟩:=hrel;by_cases hlt4:t<L.length
        ·obtain⟨hgv,d0,d1,d2,d3,d4,d5⟩:=HLC.out t hlt4;have HOK4:Hid _:=Iq HLK.out t;have HW:Hid _:=Ig (p:=fun e=>KJ e.perm 2) hlt4;have HF:Hid _:=Ig (p:=fun e=>KJ e.perm 4) hlt4;(obtain⟨s4,hs4⟩:∃s4,BN L t=s4:=⟨_,rfl⟩);rw[hs4] at d0 d1 d2 d3 d4 d5 HOK4 HW HF;obtain⟨K4,M4,A4,B4,P4,X4⟩:=s4;dsimp only at d0 d1 d2 d3 d4 d5 HW HF;have HA2:Hid _:=Ex P4 2 HOK4.out.p0 HOK4.out.p1 (.inl rfl);have HA4:Hid _:=Ex P4 4 HOK4.out.p0 HOK4.out.p1 (.inr rfl);(obtain⟨w2b,hw2b⟩:∃b,KJ P4 2=b:=⟨_,rfl⟩);(obtain⟨w4b,hw4b⟩:∃b,KJ P4 4=b:=⟨_,rfl⟩);(obtain⟨aW,haW⟩:∃b,((L.take t).any fun e=>KJ e.perm 2)=b:=⟨_,rfl⟩);(obtain⟨aF,haF⟩:∃b,((L.take t).any fun e=>KJ e.perm 4)=b:=⟨_,rfl⟩);rw[hw2b,haW] at HW;rw[hw4b,haF] at HF;rw[hw2b] at HA2;rw[hw4b] at HA4;rw[haW,haF];clear hs4 hw2b hw4b haW haF;(have L1:(0:Int)<=(t:Int):=by omega);(have L2:(t:Int)<(L.length:Int):=by omega);cases w2b<;>cases w4b;all_goals
          go_wp2_with fail
          refine(HA2.out _).mono ?_
          rintro e w' ⟨rfl,hwq⟩
          obtain rfl:=hwq.symm
          go_wp2_with fail
          refine(HA4.out _).mono ?_
          rintro e w'' ⟨rfl,hwq2⟩
          obtain rfl:=hwq2.symm
          go_wp2_with fail
          go_roundw
          case rel=>exact⟨t+1,by omega,by go_num,by rw[HW.out];cases aW<;>rfl,by rw[HF.out];cases aF<;>rfl,by first|rfl|trivial⟩
          case measure=>first|(simp[intOf];done)|(simp[intOf];omega)
        ·(have htl:t=L.length:=by omega);(have HTK:Hid (L.take t=L):=A6 <| by rw[htl,List.take_length]);rw[HTK.out];(have HV:Hid (Bu all ⟨2,M,A,B,P,X⟩=0):=A6 <| by rw[HX3.out,<- HLF.out,decide_eq_false hlen];rfl);(go_wp2_with fail);go_ret;exact⟨by rw[HV.out];rfl,HBW.out.trans ((HBX.out _ HBQ.out).mono (by simp))⟩
     ·(go_wp2_with fail);(go_loopw [11,12,13] (fun wv fv iv wz=>∃(t:Nat),t<=L.length/\iv=.int .i64 t/\wv=.bool ((L.take t).any fun e=>KJ e.perm 2)/\fv=.bool ((L.take t).any fun e=>KJ e.perm 4)/\wz=wr) (fun _ _ iv _=>L.length-(intOf iv).toNat));(case atStart=>exact⟨0,Nat.zero_le _,rfl,rfl,rfl,rfl⟩);case round =>
       obtain⟨t,ht,rfl,rfl,rfl,rfl⟩:=hrel;by_cases hlt4:t<L.length
       ·obtain⟨hgv,d0,d1,d2,d3,d4,d5⟩:=HLC.out t hlt4;have HOK4:Hid _:=Iq HLK.out t;have HW:Hid _:=Ig (p:=fun e=>KJ e.perm 2) hlt4;have HF:Hid _:=Ig (p:=fun e=>KJ e.perm 4) hlt4;(obtain⟨s4,hs4⟩:∃s4,BN L t=s4:=⟨_,rfl⟩);rw[hs4] at d0 d1 d2 d3 d4 d5 HOK4 HW HF;obtain⟨K4,M4,A4,B4,P4,X4⟩:=s4;dsimp only at d0 d1 d2 d3 d4 d5 HW HF;have HA2:Hid _:=Ex P4 2 HOK4.out.p0 HOK4.out.p1 (.inl rfl);have HA4:Hid _:=Ex P4 4 HOK4.out.p0 HOK4.out.p1 (.inr rfl);(obtain⟨w2b,hw2b⟩:∃b,KJ P4 2=b:=⟨_,rfl⟩);(obtain⟨w4b,hw4b⟩:∃b,KJ P4 4=b:=⟨_,rfl⟩);(obtain⟨aW,haW⟩:∃b,((L.take t).any fun e=>KJ e.perm 2)=b:=⟨_,rfl⟩);(obtain⟨aF,haF⟩:∃b,((L.take t).any fun e=>KJ e.perm 4)=b:=⟨_,rfl⟩);rw[hw2b,haW] at HW;rw[hw4b,haF] at HF;rw[hw2b] at HA2;rw[hw4b] at HA4;rw[haW,haF];clear hs4 hw2b hw4b haW haF;(have L1:(0:Int)<=(t:Int):=by omega);(have L2:(t:Int)<(L.length:Int):=by omega);cases w2b<;>cases w4b;all_goals
         go_wp2_with fail
         refine(HA2.out _).mono ?_
         rintro e w' ⟨rfl,hwq⟩
         obtain rfl:=hwq.symm
         go_wp2_with fail
         refine(HA4.out _).mono ?_
         rintro e w'' ⟨rfl,hwq2⟩
         obtain rfl:=hwq2.symm
         go_wp2_with fail
         go_roundw
         case rel=>exact⟨t+1,by omega,by go_num,by rw[HW.out];cases aW<;>rfl,by rw[HF.out];cases aF<;>rfl,by first|rfl|trivial⟩
         case measure=>first|(simp[intOf];done)|(simp[intOf];omega)
       ·(have htl:t=L.length:=by omega);(have HTK:Hid (L.take t=L):=A6 <| by rw[htl,List.take_length]);rw[HTK.out];(have HV:Hid (Bu all ⟨2,M,A,B,P,X⟩=if ((L.any fun e=>KJ e.perm 2)&&(L.any fun e=>KJ e.perm 4)) then 10 else 0):=A6 <| by rw[HX3.out,<- HLF.out];rfl);(obtain⟨aW,haW⟩:∃b,(L.any fun e=>KJ e.perm 2)=b:=⟨_,rfl⟩);(obtain⟨aF,haF⟩:∃b,(L.any fun e=>KJ e.perm 4)=b:=⟨_,rfl⟩);rw[haW,haF] at HV;rw[haW,haF];clear haW haF;cases aW<;>cases aF;all_goals
         go_wp2_with fail
         go_ret
         exact⟨by rw[HV.out];rfl,HBW.out.trans ((HBX.out _ HBQ.out).mono (by simp))⟩
end Go.Proofs.YtnmhkgmmpkjjeaaGreat
