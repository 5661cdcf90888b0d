import Derived.Test.YtnmhkgmmpkjjeabGreatE11
namespace Go.Proofs.YtnmhkgmmpkjjeabGreat
open ChangeShapes WideShapes ChangeAt RowKit Proofs.Tryz
set_option linter.all false
set_option maxRecDepth 100000
set_option maxHeartbeats 4000000
attribute [local go_sem ↓] wp_at_zero wp_at_succ
theorem Ge(a1 a2 a3 a4:Int)(a5:Bool)(h:¬(a2=1\/a2=16))(w:World):Calls prog 98 #[.agg #[.int .i64 a1,.int .i64 a2,.int .i64 a3,.int .i64 a4,.bool a5]] w fun r w'=>r=.returned (.bool false)/\Below w.heap.size w w':=by
 have h1:(a2 != 1)=true:=by simp;omega
 have h2:(a2 != 16)=true:=by simp;omega
 clear h;go_enter func98,ntmps98
 go_wp2_with fail
 go_ret;exact⟨rfl,(Below.refl _ _).alloc (Nat.le_refl _) _⟩
theorem JW(a1 a3 a4:Int)(a5:Bool)(w:World):Calls prog 98 #[.agg #[.int .i64 a1,.int .i64 1,.int .i64 a3,.int .i64 a4,.bool a5]] w fun r w'=>r=.returned (.bool (AH ⟨a1,1,a3,a4,a5⟩))/\Below w.heap.size w w':=by
 have hpk:=BU a1;cases hp:AP a1
 ·rw[hp] at hpk;have hr:AH ⟨a1,1,a3,a4,a5⟩=false:=by simp[AH,hp]
  rw[hr];clear hr hp;go_enter func98,ntmps98
  go_wp2_with (go_at_call 48;refine(hpk _).mono ?_;rintro e w1 ⟨rfl,hw1⟩;obtain rfl:=hw1.symm)
  go_ret;exact⟨rfl,(Below.refl _ _).alloc (Nat.le_refl _) _⟩
 ·rw[hp] at hpk;have hp0:0<=a1/\a1<4096:=by simpa [AP] using hp
  by_cases hm:a1%1=0
  ·(have hm':(a1%1==0)=true:=by simp);by_cases h1:1<=a4
   ·(have h1':decide (1<=a4)=true:=by simpa using h1);by_cases h7:a4<=7
    ·(have h7':decide (a4<=7)=true:=by simpa using h7);by_cases o0:0<=a3
     ·(have o0':decide (0<=a3)=true:=by simpa using o0);by_cases o1:a3<65536
      ·(have o1':decide (a3<65536)=true:=by simpa using o1);by_cases om:a3%1=0
       ·(have om':(a3%1==0)=true:=by simp);(have hr:AH ⟨a1,1,a3,a4,a5⟩=true:=by simp[AH,hp,hm,h1,h7,o0,o1,om]);rw[hr];clear hr hp;(go_enter func98,ntmps98);(go_wp2_with (go_at_call 48;refine(hpk _).mono ?_;rintro e w1 ⟨rfl,hw1⟩;obtain rfl:=hw1.symm));go_ret;exact⟨rfl,(Below.refl _ _).alloc (Nat.le_refl _) _⟩
       ·exact absurd (by omega) om
      ·(have o1':decide (a3<65536)=false:=by simpa using o1);(have hr:AH ⟨a1,1,a3,a4,a5⟩=false:=by simp[AH,o1]);rw[hr];clear hr hp o1;(go_enter func98,ntmps98);(go_wp2_with (go_at_call 48;refine(hpk _).mono ?_;rintro e w1 ⟨rfl,hw1⟩;obtain rfl:=hw1.symm));go_ret;exact⟨rfl,(Below.refl _ _).alloc (Nat.le_refl _) _⟩
     ·(have o0':decide (0<=a3)=false:=by simpa using o0);(have hr:AH ⟨a1,1,a3,a4,a5⟩=false:=by simp[AH,o0]);rw[hr];clear hr hp o0;(go_enter func98,ntmps98);(go_wp2_with (go_at_call 48;refine(hpk _).mono ?_;rintro e w1 ⟨rfl,hw1⟩;obtain rfl:=hw1.symm));go_ret;exact⟨rfl,(Below.refl _ _).alloc (Nat.le_refl _) _⟩
    ·(have h7':decide (a4<=7)=false:=by simpa using h7);(have hr:AH ⟨a1,1,a3,a4,a5⟩=false:=by simp[AH,h7]);rw[hr];clear hr hp h7;(go_enter func98,ntmps98);(go_wp2_with (go_at_call 48;refine(hpk _).mono ?_;rintro e w1 ⟨rfl,hw1⟩;obtain rfl:=hw1.symm));go_ret;exact⟨rfl,(Below.refl _ _).alloc (Nat.le_refl _) _⟩
   ·(have h1':decide (1<=a4)=false:=by simpa using h1);(have hr:AH ⟨a1,1,a3,a4,a5⟩=false:=by simp[AH,h1]);rw[hr];clear hr hp h1;(go_enter func98,ntmps98);(go_wp2_with (go_at_call 48;refine(hpk _).mono ?_;rintro e w1 ⟨rfl,hw1⟩;obtain rfl:=hw1.symm));go_ret;exact⟨rfl,(Below.refl _ _).alloc (Nat.le_refl _) _⟩
  ·exact absurd (by omega) hm
theorem JD(a1 a3 a4:Int)(a5:Bool)(w:World):Calls prog 98 #[.agg #[.int .i64 a1,.int .i64 16,.int .i64 a3,.int .i64 a4,.bool a5]] w fun r w'=>r=.returned (.bool (AH ⟨a1,16,a3,a4,a5⟩))/\Below w.heap.size w w':=by
 have hpk:=BU a1;cases hp:AP a1
 ·rw[hp] at hpk;have hr:AH ⟨a1,16,a3,a4,a5⟩=false:=by simp[AH,hp]
  rw[hr];clear hr hp;go_enter func98,ntmps98
  go_wp2_with (go_at_call 48;refine(hpk _).mono ?_;rintro e w1 ⟨rfl,hw1⟩;obtain rfl:=hw1.symm)
  go_ret;exact⟨rfl,(Below.refl _ _).alloc (Nat.le_refl _) _⟩
 ·rw[hp] at hpk;have hp0:0<=a1/\a1<4096:=by simpa [AP] using hp
  by_cases hm:a1%16=0
  ·(have hm':(a1%16==0)=true:=by simpa using hm);by_cases h1:1<=a4
   ·(have h1':decide (1<=a4)=true:=by simpa using h1);by_cases h7:a4<=7
    ·(have h7':decide (a4<=7)=true:=by simpa using h7);by_cases o0:0<=a3
     ·(have o0':decide (0<=a3)=true:=by simpa using o0);by_cases o1:a3<65536
      ·(have o1':decide (a3<65536)=true:=by simpa using o1);by_cases om:a3%16=0
       ·(have om':(a3%16==0)=true:=by simpa using om);(have hr:AH ⟨a1,16,a3,a4,a5⟩=true:=by simp[AH,hp,hm,h1,h7,o0,o1,om]);rw[hr];clear hr hp;(go_enter func98,ntmps98);(go_wp2_with (go_at_call 48;refine(hpk _).mono ?_;rintro e w1 ⟨rfl,hw1⟩;obtain rfl:=hw1.symm));go_ret;exact⟨rfl,(Below.refl _ _).alloc (Nat.le_refl _) _⟩
       ·(have om':(a3%16==0)=false:=by simpa using om);(have hr:AH ⟨a1,16,a3,a4,a5⟩=false:=by simp[AH,om]);rw[hr];clear hr hp om;(go_enter func98,ntmps98);(go_wp2_with (go_at_call 48;refine(hpk _).mono ?_;rintro e w1 ⟨rfl,hw1⟩;obtain rfl:=hw1.symm));go_ret;exact⟨rfl,(Below.refl _ _).alloc (Nat.le_refl _) _⟩
      ·(have o1':decide (a3<65536)=false:=by simpa using o1);(have hr:AH ⟨a1,16,a3,a4,a5⟩=false:=by simp[AH,o1]);rw[hr];clear hr hp o1;(go_enter func98,ntmps98);(go_wp2_with (go_at_call 48;refine(hpk _).mono ?_;rintro e w1 ⟨rfl,hw1⟩;obtain rfl:=hw1.symm));go_ret;exact⟨rfl,(Below.refl _ _).alloc (Nat.le_refl _) _⟩
     ·(have o0':decide (0<=a3)=false:=by simpa using o0);(have hr:AH ⟨a1,16,a3,a4,a5⟩=false:=by simp[AH,o0]);rw[hr];clear hr hp o0;(go_enter func98,ntmps98);(go_wp2_with (go_at_call 48;refine(hpk _).mono ?_;rintro e w1 ⟨rfl,hw1⟩;obtain rfl:=hw1.symm));go_ret;exact⟨rfl,(Below.refl _ _).alloc (Nat.le_refl _) _⟩
    ·(have h7':decide (a4<=7)=false:=by simpa using h7);(have hr:AH ⟨a1,16,a3,a4,a5⟩=false:=by simp[AH,h7]);rw[hr];clear hr hp h7;(go_enter func98,ntmps98);(go_wp2_with (go_at_call 48;refine(hpk _).mono ?_;rintro e w1 ⟨rfl,hw1⟩;obtain rfl:=hw1.symm));go_ret;exact⟨rfl,(Below.refl _ _).alloc (Nat.le_refl _) _⟩
   ·(have h1':decide (1<=a4)=false:=by simpa using h1);(have hr:AH ⟨a1,16,a3,a4,a5⟩=false:=by simp[AH,h1]);rw[hr];clear hr hp h1;(go_enter func98,ntmps98);(go_wp2_with (go_at_call 48;refine(hpk _).mono ?_;rintro e w1 ⟨rfl,hw1⟩;obtain rfl:=hw1.symm));go_ret;exact⟨rfl,(Below.refl _ _).alloc (Nat.le_refl _) _⟩
  ·(have hm':(a1%16==0)=false:=by simpa using hm);(have hr:AH ⟨a1,16,a3,a4,a5⟩=false:=by simp[AH,hm]);rw[hr];clear hr hp hm;(go_enter func98,ntmps98);(go_wp2_with (go_at_call 48;refine(hpk _).mono ?_;rintro e w1 ⟨rfl,hw1⟩;obtain rfl:=hw1.symm));go_ret;exact⟨rfl,(Below.refl _ _).alloc (Nat.le_refl _) _⟩
theorem I9(e:Am)(w:World):Calls prog 98 #[.agg #[.int .i64 e.page,.int .i64 e.size,.int .i64 e.out,.int .i64 e.perm,.bool e.doom]] w fun r w'=>r=.returned (.bool (AH e))/\Below w.heap.size w w':=by
 obtain⟨a1,a2,a3,a4,a5⟩:=e;by_cases h:a2=1\/a2=16
 ·rcases h with rfl|rfl
  ·exact JW a1 a3 a4 a5 w
  ·exact JD a1 a3 a4 a5 w
 ·have hr:AH ⟨a1,a2,a3,a4,a5⟩=false:=by
   (have h1:¬a2=1:=fun h'=>h (.inl h'));(have h2:¬a2=16:=fun h'=>h (.inr h'));simp[AH,h1,h2]
  rw[hr];exact Ge a1 a2 a3 a4 a5 h w
theorem FJ(a:Option Addr)(m c:Nat)(o n:Int)(hn:n*16=m)(hm:m<=8192)(w:World):Calls prog 127 #[.agg #[.slice a m c],.int .i64 o] w fun e w'=>e=.returned (.bool (decide (0<=o)&&decide (o<n)))/\Below w.heap.size w w':=by
 by_cases ho:0<=o
 ·refine(D8 a m c o n hn ho hm w).mono ?_;rintro e w' ⟨rfl,h⟩;exact⟨by simp[ho],h⟩
 ·have h0:decide (0<=o)=false:=by simpa using ho
  rw[h0];clear ho;go_enter func127,ntmps127
  go_wp2
  go_ret;exact⟨by simp,(Below.refl _ _).alloc (Nat.le_refl _) _⟩
theorem Gn(a:Option Addr)(m c:Nat)(a1 a2 a3:Int)(a4:Bool)(h:¬(a1=2\/a1=3))(w:World):Calls prog 99 #[.agg #[.slice a m c],.agg #[.int .i64 a1,.int .i64 a2,.int .i64 a3,.bool a4]] w fun r w'=>r=.returned (.bool false)/\Below w.heap.size w w':=by
 have h1:(a1 != 2)=true:=by simp;omega
 have h2:(a1 != 3)=true:=by simp;omega
 clear h;go_enter func99,ntmps99
 go_wp2_with fail
 go_ret;exact⟨rfl,((Below.refl _ _).alloc (Nat.le_refl _) _).alloc (by simp) _⟩
theorem La(a:Option Addr)(m c:Nat)(n a2 a3:Int)(a4:Bool)(hn:n*16=m)(hm:m<=8192)(w:World):Calls prog 99 #[.agg #[.slice a m c],.agg #[.int .i64 2,.int .i64 a2,.int .i64 a3,.bool a4]] w fun r w'=>r=.returned (.bool (AX n ⟨2,a2,a3,a4⟩))/\Below w.heap.size w w':=by
 have hpk:=BU a2;have htp:∀w,Calls prog 102 #[.int .i64 2] w fun e w'=>e=.returned (.int .i64 256)/\w'=w:=Cc 2
 have hcv:Ab 1=256:=by decide
 cases hp:AP a2
 ·rw[hp] at hpk;have hr:AX n ⟨2,a2,a3,a4⟩=false:=by simp[AX,hp]
  rw[hr];clear hr hp;go_enter func99,ntmps99
  go_wp2_with fail
  go_quiet ((first|(go_at_call 48;exact Calls.quiet_of_same (hpk _))|(go_at_call 102;exact Calls.quiet_of_same (htp _))))
  go_wp2
  go_ret;exact⟨rfl,AS (((Below.refl _ _).alloc (Nat.le_refl _) _).alloc (by simp) _) _⟩
 ·rw[hp] at hpk;have hp0:0<=a2/\a2<4096:=by simpa [AP] using hp
  by_cases hmd:a2%256=0
  ·(have hmd':(a2%256==0)=true:=by simpa using hmd);(have hr:AX n ⟨2,a2,a3,a4⟩=(decide (0<=a3)&&decide (a3<n)):=by simp[AX,hp,hmd,hcv]);rw[hr];have hhf:=FJ a m c a3 n hn hm;generalize (decide (0<=a3)&&decide (a3<n))=T at *;(obtain⟨wb,hwb⟩:∃wb,wb=(w.alloc (.cells #[.slice a m c] 31)).alloc (.cells #[.int .i64 2,.int .i64 a2,.int .i64 a3,.bool a4] 113):=⟨_,rfl⟩);(have hbb:Below w.heap.size w wb:=by rw[hwb];exact((Below.refl _ _).alloc (Nat.le_refl _) _).alloc (by simp) _);have HK:Hid (∀wX,Below wb.heap.size wb wX->wX.cell? ⟨w.heap.size,0,none⟩=some (.slice a m c)/\wX.cell? ⟨w.heap.size+1,0,none⟩=some (.int .i64 2)/\wX.cell? ⟨w.heap.size+1,1,none⟩=some (.int .i64 a2)/\wX.cell? ⟨w.heap.size+1,2,none⟩=some (.int .i64 a3)):=fun wX hX=>by
    refine⟨?_,?_,?_,?_⟩;iterate 4 (exact(hX.cell (by rw[hwb];simp<;>omega)).trans (by rw[hwb];simp[go_sem]))
   have HWB:Hid (wb=_):=hwb;have HBB:Hid _:=hbb;have hT:a2.tmod 256=a2%256:=Int.tmod_eq_emod_of_nonneg hp0.1;clear hr hp hwb hbb hmd;(go_enter func99,ntmps99);(go_upto_region 3 with fail);rw[<- HWB.out];go_region_held3 (fun wX=>wX.cell? ⟨w.heap.size,0,none⟩=some (.slice a m c)/\wX.cell? ⟨w.heap.size+1,0,none⟩=some (.int .i64 2)/\wX.cell? ⟨w.heap.size+1,1,none⟩=some (.int .i64 a2)/\wX.cell? ⟨w.heap.size+1,2,none⟩=some (.int .i64 a3))
    ((refine HK.out _ ?_;repeat (first|exact Below.refl _ _|with_reducible refine Below.drew ?_|refine Below.trans ?_ (hb1.mono (by first|omega|(simp<;>omega))))))
    (first
     | (go_at_call 48;refine(hpk _).mono ?_;rintro e wE ⟨rfl,hwE⟩;obtain rfl:=hwE.symm)
     | (go_at_call 102;refine(htp _).mono ?_;rintro e wF ⟨rfl,hwF⟩;obtain rfl:=hwF.symm)
     | (go_at_call 127;refine(hhf _).mono ?_;rintro e w1 ⟨rfl,hb1⟩))
   (go_wp2_with fail);go_ret;exact⟨rfl,HBB.out.trans (((Below.refl _ _).drew.trans (hb1.mono (by simp))).mono HBB.out.size)⟩
  ·(have hmd':(a2%256==0)=false:=by simpa using hmd);(have hr:AX n ⟨2,a2,a3,a4⟩=false:=by simp[AX,hp,hmd,hcv]);rw[hr];clear hr hp hmd;(go_enter func99,ntmps99);(go_wp2_with fail);(go_quiet ((first|(go_at_call 48;exact Calls.quiet_of_same (hpk _))|(go_at_call 102;exact Calls.quiet_of_same (htp _)))));(go_wp2);go_ret;exact⟨rfl,AS (((Below.refl _ _).alloc (Nat.le_refl _) _).alloc (by simp) _) _⟩
theorem LZ(a:Option Addr)(m c:Nat)(n a2 a3:Int)(a4:Bool)(hn:n*16=m)(hm:m<=8192)(w:World):Calls prog 99 #[.agg #[.slice a m c],.agg #[.int .i64 3,.int .i64 a2,.int .i64 a3,.bool a4]] w fun r w'=>r=.returned (.bool (AX n ⟨3,a2,a3,a4⟩))/\Below w.heap.size w w':=by
 have hpk:=BU a2;have htp:∀w,Calls prog 102 #[.int .i64 3] w fun e w'=>e=.returned (.int .i64 16)/\w'=w:=Cc 3
 have hcv:Ab 2=16:=by decide
 cases hp:AP a2
 ·rw[hp] at hpk;have hr:AX n ⟨3,a2,a3,a4⟩=false:=by simp[AX,hp]
  rw[hr];clear hr hp;go_enter func99,ntmps99
  go_wp2_with fail
  go_quiet ((first|(go_at_call 48;exact Calls.quiet_of_same (hpk _))|(go_at_call 102;exact Calls.quiet_of_same (htp _))))
  go_wp2
  go_ret;exact⟨rfl,AS (((Below.refl _ _).alloc (Nat.le_refl _) _).alloc (by simp) _) _⟩
 ·rw[hp] at hpk;have hp0:0<=a2/\a2<4096:=by simpa [AP] using hp
  by_cases hmd:a2%16=0
  ·(have hmd':(a2%16==0)=true:=by simpa using hmd);(have hr:AX n ⟨3,a2,a3,a4⟩=(decide (0<=a3)&&decide (a3<n)):=by simp[AX,hp,hmd,hcv]);rw[hr];have hhf:=FJ a m c a3 n hn hm;generalize (decide (0<=a3)&&decide (a3<n))=T at *;(obtain⟨wb,hwb⟩:∃wb,wb=(w.alloc (.cells #[.slice a m c] 31)).alloc (.cells #[.int .i64 3,.int .i64 a2,.int .i64 a3,.bool a4] 113):=⟨_,rfl⟩);(have hbb:Below w.heap.size w wb:=by rw[hwb];exact((Below.refl _ _).alloc (Nat.le_refl _) _).alloc (by simp) _);have HK:Hid (∀wX,Below wb.heap.size wb wX->wX.cell? ⟨w.heap.size,0,none⟩=some (.slice a m c)/\wX.cell? ⟨w.heap.size+1,0,none⟩=some (.int .i64 3)/\wX.cell? ⟨w.heap.size+1,1,none⟩=some (.int .i64 a2)/\wX.cell? ⟨w.heap.size+1,2,none⟩=some (.int .i64 a3)):=fun wX hX=>by
    refine⟨?_,?_,?_,?_⟩;iterate 4 (exact(hX.cell (by rw[hwb];simp<;>omega)).trans (by rw[hwb];simp[go_sem]))
   have HWB:Hid (wb=_):=hwb;have HBB:Hid _:=hbb;have hT:a2.tmod 16=a2%16:=Int.tmod_eq_emod_of_nonneg hp0.1;clear hr hp hwb hbb hmd;(go_enter func99,ntmps99);(go_upto_region 3 with fail);rw[<- HWB.out];go_region_held3 (fun wX=>wX.cell? ⟨w.heap.size,0,none⟩=some (.slice a m c)/\wX.cell? ⟨w.heap.size+1,0,none⟩=some (.int .i64 3)/\wX.cell? ⟨w.heap.size+1,1,none⟩=some (.int .i64 a2)/\wX.cell? ⟨w.heap.size+1,2,none⟩=some (.int .i64 a3))
    ((refine HK.out _ ?_;repeat (first|exact Below.refl _ _|with_reducible refine Below.drew ?_|refine Below.trans ?_ (hb1.mono (by first|omega|(simp<;>omega))))))
    (first
     | (go_at_call 48;refine(hpk _).mono ?_;rintro e wE ⟨rfl,hwE⟩;obtain rfl:=hwE.symm)
     | (go_at_call 102;refine(htp _).mono ?_;rintro e wF ⟨rfl,hwF⟩;obtain rfl:=hwF.symm)
     | (go_at_call 127;refine(hhf _).mono ?_;rintro e w1 ⟨rfl,hb1⟩))
   (go_wp2_with fail);go_ret;exact⟨rfl,HBB.out.trans (((Below.refl _ _).drew.trans (hb1.mono (by simp))).mono HBB.out.size)⟩
  ·(have hmd':(a2%16==0)=false:=by simpa using hmd);(have hr:AX n ⟨3,a2,a3,a4⟩=false:=by simp[AX,hp,hmd,hcv]);rw[hr];clear hr hp hmd;(go_enter func99,ntmps99);(go_wp2_with fail);(go_quiet ((first|(go_at_call 48;exact Calls.quiet_of_same (hpk _))|(go_at_call 102;exact Calls.quiet_of_same (htp _)))));(go_wp2);go_ret;exact⟨rfl,AS (((Below.refl _ _).alloc (Nat.le_refl _) _).alloc (by simp) _) _⟩
theorem Ij(a:Option Addr)(m c:Nat)(n:Int)(hn:n*16=m)(hm:m<=8192)(e:CI)(w:World):Calls prog 99 #[.agg #[.slice a m c],.agg #[.int .i64 e.level,.int .i64 e.page,.int .i64 e.table,.bool e.doom]] w fun r w'=>r=.returned (.bool (AX n e))/\Below w.heap.size w w':=by
 obtain⟨a1,a2,a3,a4⟩:=e;by_cases h:a1=2\/a1=3
 ·rcases h with rfl|rfl
  ·exact La a m c n a2 a3 a4 hn hm w
  ·exact LZ a m c n a2 a3 a4 hn hm w
 ·have hr:AX n ⟨a1,a2,a3,a4⟩=false:=by
   (have h1:¬a1=2:=fun h'=>h (.inl h'));(have h2:¬a1=3:=fun h'=>h (.inr h'));simp[AX,h1,h2]
  rw[hr];exact Gn a m c a1 a2 a3 a4 h w
theorem LI(s:SV)(M:A9)(b:Nat)(w:World)(hs:M.Small)(h:AB w b (s.mv M) M)(hv:CY M=false):Calls prog 47 #[.agg #[.slice s.a1 M.mem.length s.c1,.slice s.a2 M.pend.length s.c2,.slice s.a3 M.tlb.length s.c3,.slice s.a4 M.wc.length s.c4]] w fun e w'=>e=.returned (.bool false)/\Below w.heap.size w w':=by
 have y1:=hs.w;have y2:=hs.p;have y3:=hs.t;have y4:=hs.c;have hf:=Hg s.a1 M.mem.length s.c1 (by omega);unfold CY at hv;by_cases h0:BS M.mem.length=0
 ·simp only[h0,decide_true,Bool.not_true] at hf;clear hv h0;go_enter func47,ntmps47
  go_wp2_with (go_at_call 97;refine(hf _).mono ?_;rintro e w1 ⟨rfl,hb1⟩;obtain⟨hc1,hf1⟩:=Cy hb1)
  go_ret;exact⟨rfl,((Below.refl _ _).alloc (Nat.le_refl _) _).trans (hb1.mono (by simp))⟩
 ·simp only[h0,decide_false,Bool.not_false] at hf;simp only[h0,decide_false,Bool.not_false,Bool.true_and] at hv;generalize BS M.mem.length=n at *;by_cases h1:M.pend.length<=10000
  ·(have h1':decide ((10000:Int)<M.pend.length)=false:=by simp;omega);simp only[h1,decide_true,Bool.true_and] at hv;by_cases h2:M.tlb.length<=256
   ·(have h2':decide ((256:Int)<M.tlb.length)=false:=by simp;omega);simp only[h2,decide_true,Bool.true_and] at hv;(have h3':decide ((256:Int)<M.wc.length)=true:=by simp at hv ⊢;omega);clear hv h0 h1 h2;(go_enter func47,ntmps47);(go_wp2_with (go_at_call 97;refine(hf _).mono ?_;rintro e w1 ⟨rfl,hb1⟩;obtain⟨hc1,hf1⟩:=Cy hb1));go_ret;exact⟨rfl,((Below.refl _ _).alloc (Nat.le_refl _) _).trans (hb1.mono (by simp))⟩
   ·(have h2':decide ((256:Int)<M.tlb.length)=true:=by simp;omega);clear hv h0 h1 h2;(go_enter func47,ntmps47);(go_wp2_with (go_at_call 97;refine(hf _).mono ?_;rintro e w1 ⟨rfl,hb1⟩;obtain⟨hc1,hf1⟩:=Cy hb1));go_ret;exact⟨rfl,((Below.refl _ _).alloc (Nat.le_refl _) _).trans (hb1.mono (by simp))⟩
  ·(have h1':decide ((10000:Int)<M.pend.length)=true:=by simp;omega);clear hv h0 h1;(go_enter func47,ntmps47);(go_wp2_with (go_at_call 97;refine(hf _).mono ?_;rintro e w1 ⟨rfl,hb1⟩;obtain⟨hc1,hf1⟩:=Cy hb1));go_ret;exact⟨rfl,((Below.refl _ _).alloc (Nat.le_refl _) _).trans (hb1.mono (by simp))⟩
theorem Jb(s:SV)(M:A9)(b:Nat)(w:World)(hs:M.Small)(h:AB w b (s.mv M) M)(hv:CY M=true):Calls prog 47 #[.agg #[.slice s.a1 M.mem.length s.c1,.slice s.a2 M.pend.length s.c2,.slice s.a3 M.tlb.length s.c3,.slice s.a4 M.wc.length s.c4]] w fun e w'=>e=.returned (.bool (AG M))/\Below w.heap.size w w':=by
 have y1:=hs.w;have y2:=hs.p;have y3:=hs.t;have y4:=hs.c;have hf:=Hg s.a1 M.mem.length s.c1 (by omega);have hvb:AG M=(C6 M M.pend.length&&CO M M.tlb.length&&DK M M.wc.length):=by unfold AG;rw[hv,Bool.true_and]
 simp only[CY,Bool.and_eq_true,Bool.not_eq_true',decide_eq_false_iff_not,decide_eq_true_eq] at hv;obtain⟨⟨⟨v0,v1⟩,v2⟩,v3⟩:=hv;simp only[v0,decide_false,Bool.not_false] at hf;have hnm:=BP M.mem.length v0;have hnle:=Cd M.mem.length;have d1:decide ((10000:Int)<M.pend.length)=false:=by simp;omega
 have d2:decide ((256:Int)<M.tlb.length)=false:=by simp;omega
 have d3:decide ((256:Int)<M.wc.length)=false:=by simp;omega
 obtain⟨wb,hwb⟩:∃wb,wb=w.alloc (.cells #[.slice s.a1 M.mem.length s.c1,.slice s.a2 M.pend.length s.c2,.slice s.a3 M.tlb.length s.c3,.slice s.a4 M.wc.length s.c4] 36):=⟨_,rfl⟩
 have hbb:Below w.heap.size w wb:=by rw[hwb];exact(Below.refl _ _).alloc (Nat.le_refl _) _
 have hzb:wb.heap.size=w.heap.size+1:=by rw[hwb];simp
 have qb:wb.cell? ⟨w.heap.size,0,none⟩=some (.slice s.a1 M.mem.length s.c1)/\wb.cell? ⟨w.heap.size,1,none⟩=some (.slice s.a2 M.pend.length s.c2)/\wb.cell? ⟨w.heap.size,2,none⟩=some (.slice s.a3 M.tlb.length s.c3)/\wb.cell? ⟨w.heap.size,3,none⟩=some (.slice s.a4 M.wc.length s.c4):=by rw[hwb];simp[go_sem]
 have HBOX:Hid (∀wX,Below (w.heap.size+1) wb wX->wX.cell? ⟨w.heap.size,0,none⟩=some (.slice s.a1 M.mem.length s.c1)/\wX.cell? ⟨w.heap.size,1,none⟩=some (.slice s.a2 M.pend.length s.c2)/\wX.cell? ⟨w.heap.size,2,none⟩=some (.slice s.a3 M.tlb.length s.c3)/\wX.cell? ⟨w.heap.size,3,none⟩=some (.slice s.a4 M.wc.length s.c4)) :=
  fun wX hX=>⟨(hX.cell (by simp)).trans qb.1,(hX.cell (by simp)).trans qb.2.1,(hX.cell (by simp)).trans qb.2.2.1,(hX.cell (by simp)).trans qb.2.2.2⟩
 have HM:Hid (AB w b (s.mv M) M):=h;have HWB:Hid (wb=_):=hwb;have HBB:Hid (Below _ w wb):=hbb;have HVB:Hid _:=hvb;have hok:=Ij s.a1 M.mem.length s.c1 (BS M.mem.length) hnm.1 (by omega);have HOK:Hid _:=hok;have hAdef:∀k,DK M (k+1)=(DK M k&&AX (BS M.mem.length) (A8 AJ M.wc k)):=fun k=>DC _ k
 have HAD:Hid _:=hAdef;have hAfal:∀k,k<M.wc.length->AX (BS M.mem.length) (A8 AJ M.wc k)=false->DK M M.wc.length=false:=fun k hk h=>Ci _ k _ hk h
 have HAF:Hid _:=hAfal;clear hwb hbb qb h hvb hok hAdef hAfal v0;generalize BS M.mem.length=n at *;go_enter func47,ntmps47
 go_wp2_with fail
 refine(hf _).mono ?_;rintro e w1 ⟨rfl,hb1⟩;have b1:Below (w.heap.size+1) wb w1:=by rw[HWB.out];exact hb1.mono (by simp)
 obtain⟨q0,q1,q2,q3⟩:=HBOX.out w1 b1;clear hb1 hf;go_wp2_with fail
 go_loopw [34] (fun iv wr=>∃i:Nat,i<=M.pend.length/\iv=.int .i64 i/\C6 M i=true/\Below (w.heap.size+1) wb wr) (fun iv _=>M.pend.length-(intOf iv).toNat)
 case atStart=>exact⟨0,Nat.zero_le _,rfl,rfl,b1⟩
 case round =>
  obtain⟨i,hi,rfl,hall,hb⟩:=hrel;obtain⟨q0,q1,q2,q3⟩:=HBOX.out wr hb;have hsz:=hb.size;have N0:w.heap.size<wr.heap.size:=by omega
  by_cases hlt:i<M.pend.length
  ·have hsu:C6 M (i+1)=(C6 M i&&D3 M.mem.length (A8 AA M.pend i)):=DC _ i;(have hfa:D3 M.mem.length (A8 AA M.pend i)=false->AG M=false:=fun h=>by rw[HVB.out,show C6 M M.pend.length=false from Ci _ i _ hlt h];rfl);rw[hall,Bool.true_and] at hsu;have hdef:D3 M.mem.length (A8 AA M.pend i)=(decide (0<=(A8 AA M.pend i).addr)&&decide ((A8 AA M.pend i).addr<M.mem.length)):=rfl;obtain⟨ga,ca,hae,haf⟩:=HM.out.p.form;obtain⟨g,N,f,hag,_,hr,hN,hf⟩:=haf (by omega);have hga:s.a2=some ⟨g,0,none⟩:=by
    have h2:Value.slice s.a2 M.pend.length s.c2=.slice ga M.pend.length ca:=hae;simp only[Value.slice.injEq] at h2;exact h2.1.trans hag
   have hN':M.pend.length*2<=N:=hN;have hb2:Below w.heap.size w wr:=HBB.out.trans (hb.mono (by omega));have hr1:wr.rowIs g 110 N f:=hr.of_block (hb2.block g hr.lt);rw[hga] at q1 ⊢;have k0:=hr1.cell (i:=i*2) (by omega);rw[show f (i*2)=.int .i64 (A8 AA M.pend i).addr from hf i hlt 0 (by decide)] at k0;have k1:=hr1.cell (i:=i*2+1) (by omega);rw[show f (i*2+1)=.int .u64 (A8 AA M.pend i).word from hf i hlt 1 (by decide)] at k1;(have L1:(0:Int)<=(i:Int):=by omega);(have L2:(i:Int)<(M.pend.length:Int):=by omega);have HB:Hid (Below _ wb wr):=hb;have hrl:=hr1.lt;clear hb hb2 hr1 hr hf hae haf hga hN;have HSU:Hid _:=hsu;have HFA:Hid _:=hfa;have HDF:Hid _:=hdef;clear hsu hfa hdef hall;generalize (A8 AA M.pend i).word=Wd at *;generalize (A8 AA M.pend i).addr=A at *;by_cases hA:A<0
   ·(have hA':decide (A<0)=true:=by simpa using hA);have HR:Hid (AG M=false):=HFA.out (by rw[HDF.out];simp;omega);clear HFA HSU HDF;(go_wp2_with fail);go_ret;exact⟨by rw[HR.out];rfl,HBB.out.trans ((HB.out.alloc (by omega) _).mono (by omega))⟩
   ·(have hA':decide (A<0)=false:=by simpa using hA);by_cases hA2:A<M.mem.length
    ·(have hA2':decide ((M.mem.length:Int)<=A)=false:=by simp;omega);have HR:Hid (C6 M (i+1)=true):=by
      exact(show _=true by rw[HSU.out,HDF.out];simp;omega)
     clear HFA HSU HDF;(go_wp2_with fail);go_roundw;(case rel=>exact⟨i+1,by omega,by go_num,HR.out,HB.out.alloc (by omega) _⟩);case measure=>simp[intOf];omega
    ·(have hA2':decide ((M.mem.length:Int)<=A)=true:=by simp;omega);have HR:Hid (AG M=false):=HFA.out (by rw[HDF.out];simp;omega);clear HFA HSU HDF;(go_wp2_with fail);go_ret;exact⟨by rw[HR.out];rfl,HBB.out.trans ((HB.out.alloc (by omega) _).mono (by omega))⟩
  ·(have e:i=M.pend.length:=by omega);subst e;have HPA:Hid _:=hall;(obtain⟨wp,rfl⟩:∃wp:World,wp=wr:=⟨_,rfl⟩);clear hall;(go_wp2_with fail);(go_loopw [54] (fun iv wr=>∃i:Nat,i<=M.tlb.length/\iv=.int .i64 i/\CO M i=true/\Below (w.heap.size+1) wb wr) (fun iv _=>M.tlb.length-(intOf iv).toNat));(case atStart=>exact⟨0,Nat.zero_le _,rfl,rfl,hb⟩);case round =>
    clear q0 q1 q2 q3 hb;obtain⟨i,hi,rfl,hall,hb⟩:=hrel;obtain⟨q0,q1,q2,q3⟩:=HBOX.out wr hb;have hsz:=hb.size;(have N0:w.heap.size<wr.heap.size:=by omega);by_cases hlt:i<M.tlb.length
    ·have hsu:CO M (i+1)=(CO M i&&AH (A8 A7 M.tlb i)):=DC _ i;(have hfa:AH (A8 A7 M.tlb i)=false->AG M=false:=fun h=>by rw[HVB.out,show CO M M.tlb.length=false from Ci _ i _ hlt h,Bool.and_false];rfl);rw[hall,Bool.true_and] at hsu;have hok:=I9 (A8 A7 M.tlb i);obtain⟨ga,ca,hae,haf⟩:=HM.out.t.form;obtain⟨g,N,f,hag,_,hr,hN,hf⟩:=haf (by omega);have hga:s.a3=some ⟨g,0,none⟩:=by
      have h2:Value.slice s.a3 M.tlb.length s.c3=.slice ga M.tlb.length ca:=hae;simp only[Value.slice.injEq] at h2;exact h2.1.trans hag
     have hN':M.tlb.length*5<=N:=hN;have hb2:Below w.heap.size w wr:=HBB.out.trans (hb.mono (by omega));have hr1:wr.rowIs g 81 N f:=hr.of_block (hb2.block g hr.lt);rw[hga] at q2 ⊢;have k0:=hr1.cell (i:=i*5) (by omega);rw[show f (i*5)=.int .i64 (A8 A7 M.tlb i).page from hf i hlt 0 (by decide)] at k0;have k1:=hr1.cell (i:=i*5+1) (by omega);rw[show f (i*5+1)=.int .i64 (A8 A7 M.tlb i).size from hf i hlt 1 (by decide)] at k1;have k2:=hr1.cell (i:=i*5+2) (by omega);rw[show f (i*5+2)=.int .i64 (A8 A7 M.tlb i).out from hf i hlt 2 (by decide)] at k2;have k3:=hr1.cell (i:=i*5+3) (by omega);rw[show f (i*5+3)=.int .i64 (A8 A7 M.tlb i).perm from hf i hlt 3 (by decide)] at k3;have k4:=hr1.cell (i:=i*5+4) (by omega);rw[show f (i*5+4)=.bool (A8 A7 M.tlb i).doom from hf i hlt 4 (by decide)] at k4;(have L1:(0:Int)<=(i:Int):=by omega);(have L2:(i:Int)<(M.tlb.length:Int):=by omega);have HB:Hid (Below _ wb wr):=hb;have hrl:=hr1.lt;clear hb hb2 hr1 hr hf hae haf hga hN;have HSU:Hid _:=hsu;have HFA:Hid _:=hfa;have HOKT:Hid _:=hok;clear hsu hfa hall hok;(go_wp2_with fail);refine(HOKT.out _).mono ?_;rintro e w2 ⟨rfl,hb2⟩;have b2:Below (w.heap.size+1) wb w2:=(HB.out.alloc (by omega) _).trans (hb2.mono (by simp;omega));cases hT:AH (A8 A7 M.tlb i)
     ·have HR:Hid (AG M=false):=HFA.out hT;clear HFA HSU hT hb2;(go_wp2_with fail);go_ret;exact⟨by rw[HR.out];rfl,HBB.out.trans (b2.mono (by omega))⟩
     ·have HR:Hid (CO M (i+1)=true):=HSU.out.trans hT;clear HFA HSU hT hb2;(go_wp2_with fail);go_roundw;(case rel=>exact⟨i+1,by omega,by go_num,HR.out,b2⟩);case measure=>simp[intOf];omega
    ·(have e:i=M.tlb.length:=by omega);subst e;have HTA:Hid _:=hall;(obtain⟨wt,rfl⟩:∃wt:World,wt=wr:=⟨_,rfl⟩);clear hall;(go_wp2_with fail);(go_loopw [65] (fun iv wr=>∃i:Nat,i<=M.wc.length/\iv=.int .i64 i/\DK M i=true/\Below (w.heap.size+1) wb wr) (fun iv _=>M.wc.length-(intOf iv).toNat));(case atStart=>exact⟨0,Nat.zero_le _,rfl,rfl,hb⟩);case round =>
      clear q0 q1 q2 q3 hb;obtain⟨i,hi,rfl,hall,hb⟩:=hrel;obtain⟨q0,q1,q2,q3⟩:=HBOX.out wr hb;have hsz:=hb.size;(have N0:w.heap.size<wr.heap.size:=by omega);by_cases hlt:i<M.wc.length
      ·have hsu:=HAD.out i;(have hfa:AX n (A8 AJ M.wc i)=false->AG M=false:=fun h=>by rw[HVB.out,HAF.out i hlt h,Bool.and_false]);rw[hall,Bool.true_and] at hsu;have hok:=HOK.out (A8 AJ M.wc i);obtain⟨ga,ca,hae,haf⟩:=HM.out.c.form;obtain⟨g,N,f,hag,_,hr,hN,hf⟩:=haf (by omega);have hga:s.a4=some ⟨g,0,none⟩:=by
        have h2:Value.slice s.a4 M.wc.length s.c4=.slice ga M.wc.length ca:=hae;simp only[Value.slice.injEq] at h2;exact h2.1.trans hag
       have hN':M.wc.length*4<=N:=hN;have hb2:Below w.heap.size w wr:=HBB.out.trans (hb.mono (by omega));have hr1:wr.rowIs g 113 N f:=hr.of_block (hb2.block g hr.lt);rw[hga] at q3 ⊢;have k0:=hr1.cell (i:=i*4) (by omega);rw[show f (i*4)=.int .i64 (A8 AJ M.wc i).level from hf i hlt 0 (by decide)] at k0;have k1:=hr1.cell (i:=i*4+1) (by omega);rw[show f (i*4+1)=.int .i64 (A8 AJ M.wc i).page from hf i hlt 1 (by decide)] at k1;have k2:=hr1.cell (i:=i*4+2) (by omega);rw[show f (i*4+2)=.int .i64 (A8 AJ M.wc i).table from hf i hlt 2 (by decide)] at k2;have k3:=hr1.cell (i:=i*4+3) (by omega);rw[show f (i*4+3)=.bool (A8 AJ M.wc i).doom from hf i hlt 3 (by decide)] at k3;(have L1:(0:Int)<=(i:Int):=by omega);(have L2:(i:Int)<(M.wc.length:Int):=by omega);have HB:Hid (Below _ wb wr):=hb;have hrl:=hr1.lt;clear hb hb2 hr1 hr hf hae haf hga hN;have HSU:Hid _:=hsu;have HFA:Hid _:=hfa;have HOKT:Hid _:=hok;clear hsu hfa hall hok;(go_wp2_with fail);refine(HOKT.out _).mono ?_;rintro e w2 ⟨rfl,hb2⟩;have b2:Below (w.heap.size+1) wb w2:=(HB.out.alloc (by omega) _).trans (hb2.mono (by simp;omega));cases hT:AX n (A8 AJ M.wc i)
       ·have HR:Hid (AG M=false):=HFA.out hT;clear HFA HSU hT hb2;(go_wp2_with fail);go_ret;exact⟨by rw[HR.out];rfl,HBB.out.trans (b2.mono (by omega))⟩
       ·have HR:Hid (DK M (i+1)=true):=HSU.out.trans hT;clear HFA HSU hT hb2;(go_wp2_with fail);go_roundw;(case rel=>exact⟨i+1,by omega,by go_num,HR.out,b2⟩);case measure=>simp[intOf];omega
      ·(have e:i=M.wc.length:=by omega);subst e;(have hvt:AG M=true:=by rw[HVB.out,HPA.out,HTA.out,hall];rfl);have HVT:Hid _:=hvt;clear hall hvt;(go_wp2_with fail);go_ret;exact⟨by rw[HVT.out];rfl,HBB.out.trans (hb.mono (by omega))⟩
theorem Eo(s:SV)(M:A9)(b:Nat)(w:World)(hs:M.Small)(h:AB w b (s.mv M) M):Calls prog 47 #[.agg #[.slice s.a1 M.mem.length s.c1,.slice s.a2 M.pend.length s.c2,.slice s.a3 M.tlb.length s.c3,.slice s.a4 M.wc.length s.c4]] w fun e w'=>e=.returned (.bool (AG M))/\Below w.heap.size w w':=by
 cases hv:CY M
 ·have:AG M=false:=by unfold AG;rw[hv];rfl
  rw[this];exact LI s M b w hs h hv
 ·exact Jb s M b w hs h hv
end Go.Proofs.YtnmhkgmmpkjjeabGreat
