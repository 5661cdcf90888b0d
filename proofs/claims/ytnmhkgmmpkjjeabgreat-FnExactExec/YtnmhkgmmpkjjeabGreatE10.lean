import Derived.Test.YtnmhkgmmpkjjeabGreatE07
import Derived.Test.YtnmhkgmmpkjjeabGreatE09
import Derived.Laws.BitsLemmas
namespace Go.Proofs.YtnmhkgmmpkjjeabGreat
open ChangeShapes WideShapes ChangeAt RowKit Proofs.Tryz
set_option linter.all false
set_option maxRecDepth 100000
set_option maxHeartbeats 4000000
def AP (p:Int):Bool:=decide (0<=p)&&decide (p<4096)
def Ax (c:Int):Bool:=decide (0<=c)&&decide (c<=65535)
def BT (c:Int) (b:Nat):Bool:=decide (c/2 ^ b%2=1)
def Ho (page level:Int):Int:=if level=1 then page/256 else if level=2 then page/16%16 else page%16
theorem CN(p:Int)(w:World):Calls prog 35 #[.int .i64 p] w fun e w'=>e=.returned (.bool (AP p))/\w'=w:=by
 unfold AP;by_cases h:0<=p
 ·have h':decide (0<=p)=true:=by simpa using h
  rw[h'];by_cases k:p<4096
  ·(have k':decide (p<4096)=true:=by simpa using k);rw[k'];(go_enter func35,ntmps35);(go_wp2);go_ret;exact⟨rfl,rfl⟩
  ·(have k':decide (p<4096)=false:=by simpa using k);rw[k'];(go_enter func35,ntmps35);(go_wp2);go_ret;exact⟨rfl,rfl⟩
 ·have h':decide (0<=p)=false:=by simpa using h
  rw[h'];go_enter func35,ntmps35
  go_wp2
  go_ret;exact⟨rfl,rfl⟩
theorem Dg(p:Int)(w:World):Calls prog 36 #[.int .i64 p] w fun e w'=>e=.returned (.bool (Ax p))/\w'=w:=by
 unfold Ax;by_cases h:0<=p
 ·have h':decide (0<=p)=true:=by simpa using h
  rw[h'];by_cases k:p<=65535
  ·(have k':decide (p<=65535)=true:=by simpa using k);rw[k'];(go_enter func36,ntmps36);(go_wp2);go_ret;exact⟨rfl,rfl⟩
  ·(have k':decide (p<=65535)=false:=by simpa using k);rw[k'];(go_enter func36,ntmps36);(go_wp2);go_ret;exact⟨rfl,rfl⟩
 ·have h':decide (0<=p)=false:=by simpa using h
  rw[h'];go_enter func36,ntmps36
  go_wp2
  go_ret;exact⟨rfl,rfl⟩
theorem CK(c:Int)(b:Nat)(hc0:0<=c)(hc1:c<=65535)(hb:b<=100)(w:World):Calls prog 38 #[.int .i64 c,.int .i64 b] w fun e w'=>e=.returned (.bool (BT c b))/\w'=w:=by
 go_enter func38,ntmps38
 go_wp2
 go_loop [0,5] (fun x i=>∃k:Nat,k<=b/\i=.int .i64 k/\x=.int .i64 (c/2 ^ k)) (fun _ i=>b-(intOf i).toNat)
 case atStart=>exact⟨0,Nat.zero_le _,rfl,by simp⟩
 case round =>
  obtain⟨k,hk,rfl,rfl⟩:=hrel;have hp:(0:Int)<2 ^ k:=Int.pow_pos (by omega);have h0:0<=c/2 ^ k:=Int.ediv_nonneg hc0 (by omega);have h1:c/2 ^ k<=c:=Int.ediv_le_self _ hc0;have hst:c/2 ^ k/2=c/2 ^ (k+1):=by
   rw[Int.ediv_ediv_of_nonneg (by omega),Int.pow_succ]
  by_cases hlt:k<b
  ·have HST:Hid _:=hst;clear hst hp;generalize c/2 ^ k=X at *;(go_wp2);(go_round);(case rel=>exact⟨k+1,by omega,by go_num,by rw[<- HST.out]⟩);case measure=>simp[intOf];omega
  ·(have e:k=b:=by omega);subst e;clear hst hp;by_cases hX:c/2 ^ k%2=1
   ·(have hX':(c/2 ^ k%2==1)=true:=by simpa using hX);(have hv:BT c k=true:=by simpa [BT] using hX);have HV:Hid _:=hv;clear hX hv;generalize c/2 ^ k=X at *;(go_wp2);go_ret;exact⟨by rw[HV.out];rfl,rfl⟩
   ·(have hX':(c/2 ^ k%2==1)=false:=by simpa using hX);(have hv:BT c k=false:=by simpa [BT] using hX);have HV:Hid _:=hv;clear hX hv;generalize c/2 ^ k=X at *;(go_wp2);go_ret;exact⟨by rw[HV.out];rfl,rfl⟩
theorem LQ(p l:Int)(hp0:0<=p)(hp1:p<4096)(w:World):Calls prog 123 #[.int .i64 p,.int .i64 l] w fun e w'=>e=.returned (.int .i64 (Ho p l))/\w'=w:=by
 by_cases h1:l=1
 ·subst h1;go_enter func123,ntmps123
  go_wp2
  go_ret;exact⟨rfl,rfl⟩
 ·by_cases h2:l=2
  ·subst h2;(go_enter func123,ntmps123);(go_wp2);go_ret;exact⟨rfl,rfl⟩
  ·(have e:Ho p l=p%16:=by simp[Ho,h1,h2]);rw[e];(have h1':(l==1)=false:=by simpa using h1);(have h2':(l==2)=false:=by simpa using h2);clear e h1 h2;(go_enter func123,ntmps123);(go_wp2);go_ret;exact⟨rfl,rfl⟩
theorem MJ(p l:Int)(hp0:0<=p)(hp1:p<4096):0<=Ho p l/\Ho p l<16:=by
 unfold Ho;by_cases a:l=1<;>by_cases b:l=2<;>simp[a,b]<;>omega
def AH (e:Am):Bool:=(decide (e.size=1)||decide (e.size=16))&&AP e.page&&decide (e.page%e.size=0)&&decide (1<=e.perm)&&decide (e.perm<=7)&&decide (0<=e.out)&&decide (e.out<65536)&&decide (e.out%e.size=0)
def AX (n:Int) (e:CI):Bool:=(decide (e.level=2)||decide (e.level=3))&&AP e.page&&decide (e.page%Ab (e.level-1)=0)&&decide (0<=e.table)&&decide (e.table<n)
def BH (a b:Am):Bool:=decide (a.page=b.page)&&decide (a.size=b.size)&&decide (a.out=b.out)&&decide (a.perm=b.perm)
def AY (e:Am) (p:Int):Bool:=decide (p-p%e.size=e.page)
def DO (e:CI) (p:Int):Bool:=decide (p-p%Ab (e.level-1)=e.page)
def Nq (e:Am):Value:=.agg #[.int .i64 e.page,.int .i64 e.size,.int .i64 e.out,.int .i64 e.perm,.bool e.doom]
def Nr (e:CI):Value:=.agg #[.int .i64 e.level,.int .i64 e.page,.int .i64 e.table,.bool e.doom]
theorem EZ(a b:Am)(w:World):Calls prog 39 #[.agg #[.int .i64 a.page,.int .i64 a.size,.int .i64 a.out,.int .i64 a.perm,.bool a.doom],.agg #[.int .i64 b.page,.int .i64 b.size,.int .i64 b.out,.int .i64 b.perm,.bool b.doom]] w fun e w'=>e=.returned (.bool (BH a b))/\Below w.heap.size w w':=by
 unfold BH;obtain⟨a1,a2,a3,a4,a5⟩:=a;obtain⟨b1,b2,b3,b4,b5⟩:=b;simp only;by_cases h1:a1=b1
 ·subst h1;by_cases h2:a2=b2
  ·subst h2;by_cases h3:a3=b3
   ·subst h3;by_cases h4:a4=b4
    ·subst h4;simp only[decide_true,Bool.and_self];(go_enter func39,ntmps39);(go_wp2);go_ret;exact⟨rfl,((Below.refl _ _).alloc (Nat.le_refl _) _).alloc (by simp) _⟩
    ·(have h4':(a4==b4)=false:=by simpa using h4);simp only[h4,decide_true,decide_false,Bool.and_self,Bool.and_false];clear h4;(go_enter func39,ntmps39);(go_wp2);go_ret;exact⟨rfl,((Below.refl _ _).alloc (Nat.le_refl _) _).alloc (by simp) _⟩
   ·(have h3':(a3==b3)=false:=by simpa using h3);simp only[h3,decide_true,decide_false,Bool.and_self,Bool.and_false,Bool.false_and];clear h3;(go_enter func39,ntmps39);(go_wp2);go_ret;exact⟨rfl,((Below.refl _ _).alloc (Nat.le_refl _) _).alloc (by simp) _⟩
  ·(have h2':(a2==b2)=false:=by simpa using h2);simp only[h2,decide_true,decide_false,Bool.and_false,Bool.false_and];clear h2;(go_enter func39,ntmps39);(go_wp2);go_ret;exact⟨rfl,((Below.refl _ _).alloc (Nat.le_refl _) _).alloc (by simp) _⟩
 ·have h1':(a1==b1)=false:=by simpa using h1
  simp only[h1,decide_false,Bool.false_and];clear h1;go_enter func39,ntmps39
  go_wp2
  go_ret;exact⟨rfl,((Below.refl _ _).alloc (Nat.le_refl _) _).alloc (by simp) _⟩
theorem KF(e:Am)(p:Int)(hp0:0<=p)(hp1:p<100000)(hs:e.size=1\/e.size=16)(w:World):Calls prog 37 #[.agg #[.int .i64 e.page,.int .i64 e.size,.int .i64 e.out,.int .i64 e.perm,.bool e.doom],.int .i64 p] w fun r w'=>r=.returned (.bool (AY e p))/\Below w.heap.size w w':=by
 unfold AY;obtain⟨a1,a2,a3,a4,a5⟩:=e;simp only at hs ⊢;rcases hs with rfl|rfl
 ·by_cases h:p-p%1=a1
  ·(have h':(p-p%1==a1)=true:=by simpa using h);(have h2:p=a1:=by omega);subst h2;(have e0:p-p%1=p:=by omega);simp only[e0,decide_true];clear h h' e0;(go_enter func37,ntmps37);(go_wp2_with fail);(go_quiet (fail));(go_wp2);go_ret;exact⟨rfl,AS ((Below.refl _ _).alloc (Nat.le_refl _) _) _⟩
  ·(have h2:(p==a1)=false:=by simp;omega);simp only[h,decide_false];clear h;(go_enter func37,ntmps37);(go_wp2_with fail);(go_quiet (fail));(go_wp2);go_ret;exact⟨rfl,AS ((Below.refl _ _).alloc (Nat.le_refl _) _) _⟩
 ·by_cases h:p-p%16=a1
  ·(have h':(p-p%16==a1)=true:=by simpa using h);simp only[h,decide_true];clear h;(go_enter func37,ntmps37);(go_wp2_with fail);(go_quiet (fail));(go_wp2);go_ret;exact⟨rfl,AS ((Below.refl _ _).alloc (Nat.le_refl _) _) _⟩
  ·(have h':(p-p%16==a1)=false:=by simpa using h);simp only[h,decide_false];clear h;(go_enter func37,ntmps37);(go_wp2_with fail);(go_quiet (fail));(go_wp2);go_ret;exact⟨rfl,AS ((Below.refl _ _).alloc (Nat.le_refl _) _) _⟩
section
attribute [local go_sem ↓] wp_at_zero wp_at_succ
theorem JY(a1 a2 a3 a4:Int)(a5:Bool)(h:¬(a2=1\/a2=16))(w:World):Calls prog 87 #[.agg #[.int .i64 a1,.int .i64 a2,.int .i64 a3,.int .i64 a4,.bool a5]] w fun r w'=>r=.returned (.bool false)/\Below w.heap.size w w':=by
 have h1:(a2 != 1)=true:=by simp;omega
 have h2:(a2 != 16)=true:=by simp;omega
 clear h;go_enter func87,ntmps87
 go_wp2_with fail
 go_ret;exact⟨rfl,(Below.refl _ _).alloc (Nat.le_refl _) _⟩
theorem Mj(a1 a3 a4:Int)(a5:Bool)(w:World):Calls prog 87 #[.agg #[.int .i64 a1,.int .i64 1,.int .i64 a3,.int .i64 a4,.bool a5]] w fun r w'=>r=.returned (.bool (AH ⟨a1,1,a3,a4,a5⟩))/\Below w.heap.size w w':=by
 have hpk:=CN a1;by_cases hp:AP a1=true
 ·rw[hp] at hpk;have hp0:0<=a1/\a1<4096:=by simpa [AP] using hp
  by_cases hm:a1%1=0
  ·(have hm':(a1%1 != 0)=false:=by simp);by_cases h1:1<=a4
   ·by_cases h7:a4<=7
    ·by_cases o0:0<=a3
     ·by_cases o1:a3<65536
      ·by_cases om:a3%1=0
       ·(have om':(a3%1==0)=true:=by simp);(have hr:AH ⟨a1,1,a3,a4,a5⟩=true:=by simp[AH,hp,hm,h1,h7,o0,o1,om]);rw[hr];clear hr hp;(go_enter func87,ntmps87);(go_wp2_with (go_at_call 35;refine(hpk _).mono ?_;rintro e w1 ⟨rfl,rfl⟩));go_ret;exact⟨rfl,(Below.refl _ _).alloc (Nat.le_refl _) _⟩
       ·exact absurd (by omega) om
      ·(have o1':decide (a3<65536)=false:=by simpa using o1);(have hr:AH ⟨a1,1,a3,a4,a5⟩=false:=by simp[AH,hp,o1]);rw[hr];clear hr hp;(go_enter func87,ntmps87);(go_wp2_with (go_at_call 35;refine(hpk _).mono ?_;rintro e w1 ⟨rfl,rfl⟩));go_ret;exact⟨rfl,(Below.refl _ _).alloc (Nat.le_refl _) _⟩
     ·(have o0':decide (0<=a3)=false:=by simpa using o0);(have hr:AH ⟨a1,1,a3,a4,a5⟩=false:=by simp[AH,hp,o0]);rw[hr];clear hr hp;(go_enter func87,ntmps87);(go_wp2_with (go_at_call 35;refine(hpk _).mono ?_;rintro e w1 ⟨rfl,rfl⟩));go_ret;exact⟨rfl,(Below.refl _ _).alloc (Nat.le_refl _) _⟩
    ·(have h7':decide (7<a4)=true:=by simp;omega);(have hr:AH ⟨a1,1,a3,a4,a5⟩=false:=by simp[AH,hp,h7]);rw[hr];clear hr hp;(go_enter func87,ntmps87);(go_wp2_with (go_at_call 35;refine(hpk _).mono ?_;rintro e w1 ⟨rfl,rfl⟩));go_ret;exact⟨rfl,(Below.refl _ _).alloc (Nat.le_refl _) _⟩
   ·(have h1':decide (a4<1)=true:=by simp;omega);(have hr:AH ⟨a1,1,a3,a4,a5⟩=false:=by simp[AH,hp,h1]);rw[hr];clear hr hp;(go_enter func87,ntmps87);(go_wp2_with (go_at_call 35;refine(hpk _).mono ?_;rintro e w1 ⟨rfl,rfl⟩));go_ret;exact⟨rfl,(Below.refl _ _).alloc (Nat.le_refl _) _⟩
  ·exact absurd (by omega) hm
 ·have hp':AP a1=false:=by simpa using hp
  rw[hp'] at hpk;have hr:AH ⟨a1,1,a3,a4,a5⟩=false:=by simp[AH,hp']
  rw[hr];clear hr hp hp';go_enter func87,ntmps87
  go_wp2_with (go_at_call 35;refine(hpk _).mono ?_;rintro e w1 ⟨rfl,rfl⟩)
  go_ret;exact⟨rfl,(Below.refl _ _).alloc (Nat.le_refl _) _⟩
theorem MF(a1 a3 a4:Int)(a5:Bool)(w:World):Calls prog 87 #[.agg #[.int .i64 a1,.int .i64 16,.int .i64 a3,.int .i64 a4,.bool a5]] w fun r w'=>r=.returned (.bool (AH ⟨a1,16,a3,a4,a5⟩))/\Below w.heap.size w w':=by
 have hpk:=CN a1;by_cases hp:AP a1=true
 ·rw[hp] at hpk;have hp0:0<=a1/\a1<4096:=by simpa [AP] using hp
  by_cases hm:a1%16=0
  ·(have hm':(a1%16 != 0)=false:=by simp;omega);by_cases h1:1<=a4
   ·by_cases h7:a4<=7
    ·by_cases o0:0<=a3
     ·by_cases o1:a3<65536
      ·by_cases om:a3%16=0
       ·(have om':(a3%16==0)=true:=by simp;omega);(have hr:AH ⟨a1,16,a3,a4,a5⟩=true:=by simp[AH,hp,hm,h1,h7,o0,o1,om]);rw[hr];clear hr hp;(go_enter func87,ntmps87);(go_wp2_with (go_at_call 35;refine(hpk _).mono ?_;rintro e w1 ⟨rfl,rfl⟩));go_ret;exact⟨rfl,(Below.refl _ _).alloc (Nat.le_refl _) _⟩
       ·(have om':(a3%16==0)=false:=by simp;omega);(have hr:AH ⟨a1,16,a3,a4,a5⟩=false:=by simp[AH,hp,hm,h1,h7,o0,o1,om]);rw[hr];clear hr hp;(go_enter func87,ntmps87);(go_wp2_with (go_at_call 35;refine(hpk _).mono ?_;rintro e w1 ⟨rfl,rfl⟩));go_ret;exact⟨rfl,(Below.refl _ _).alloc (Nat.le_refl _) _⟩
      ·(have o1':decide (a3<65536)=false:=by simpa using o1);(have hr:AH ⟨a1,16,a3,a4,a5⟩=false:=by simp[AH,hp,o1]);rw[hr];clear hr hp;(go_enter func87,ntmps87);(go_wp2_with (go_at_call 35;refine(hpk _).mono ?_;rintro e w1 ⟨rfl,rfl⟩));go_ret;exact⟨rfl,(Below.refl _ _).alloc (Nat.le_refl _) _⟩
     ·(have o0':decide (0<=a3)=false:=by simpa using o0);(have hr:AH ⟨a1,16,a3,a4,a5⟩=false:=by simp[AH,hp,o0]);rw[hr];clear hr hp;(go_enter func87,ntmps87);(go_wp2_with (go_at_call 35;refine(hpk _).mono ?_;rintro e w1 ⟨rfl,rfl⟩));go_ret;exact⟨rfl,(Below.refl _ _).alloc (Nat.le_refl _) _⟩
    ·(have h7':decide (7<a4)=true:=by simp;omega);(have hr:AH ⟨a1,16,a3,a4,a5⟩=false:=by simp[AH,hp,h7]);rw[hr];clear hr hp;(go_enter func87,ntmps87);(go_wp2_with (go_at_call 35;refine(hpk _).mono ?_;rintro e w1 ⟨rfl,rfl⟩));go_ret;exact⟨rfl,(Below.refl _ _).alloc (Nat.le_refl _) _⟩
   ·(have h1':decide (a4<1)=true:=by simp;omega);(have hr:AH ⟨a1,16,a3,a4,a5⟩=false:=by simp[AH,hp,h1]);rw[hr];clear hr hp;(go_enter func87,ntmps87);(go_wp2_with (go_at_call 35;refine(hpk _).mono ?_;rintro e w1 ⟨rfl,rfl⟩));go_ret;exact⟨rfl,(Below.refl _ _).alloc (Nat.le_refl _) _⟩
  ·(have hm':(a1%16 != 0)=true:=by simp;omega);(have hr:AH ⟨a1,16,a3,a4,a5⟩=false:=by simp[AH,hp,hm]);rw[hr];clear hr hp;(go_enter func87,ntmps87);(go_wp2_with (go_at_call 35;refine(hpk _).mono ?_;rintro e w1 ⟨rfl,rfl⟩));go_ret;exact⟨rfl,(Below.refl _ _).alloc (Nat.le_refl _) _⟩
 ·have hp':AP a1=false:=by simpa using hp
  rw[hp'] at hpk;have hr:AH ⟨a1,16,a3,a4,a5⟩=false:=by simp[AH,hp']
  rw[hr];clear hr hp hp';go_enter func87,ntmps87
  go_wp2_with (go_at_call 35;refine(hpk _).mono ?_;rintro e w1 ⟨rfl,rfl⟩)
  go_ret;exact⟨rfl,(Below.refl _ _).alloc (Nat.le_refl _) _⟩
theorem Kv(e:Am)(w:World):Calls prog 87 #[.agg #[.int .i64 e.page,.int .i64 e.size,.int .i64 e.out,.int .i64 e.perm,.bool e.doom]] w fun r w'=>r=.returned (.bool (AH e))/\Below w.heap.size w w':=by
 obtain⟨a1,a2,a3,a4,a5⟩:=e;by_cases h1:a2=1
 ·subst h1;exact Mj a1 a3 a4 a5 w
 ·by_cases h2:a2=16
  ·subst h2;exact MF a1 a3 a4 a5 w
  ·(have:AH ⟨a1,a2,a3,a4,a5⟩=false:=by simp[AH,h1,h2]);rw[this];exact JY a1 a2 a3 a4 a5 (by omega) w
theorem K7(a1 a2 a3 n:Int)(a4:Bool)(h:¬(a1=2\/a1=3))(w:World):Calls prog 88 #[.agg #[.int .i64 a1,.int .i64 a2,.int .i64 a3,.bool a4],.int .i64 n] w fun r w'=>r=.returned (.bool false)/\Below w.heap.size w w':=by
 have h1:(a1 != 2)=true:=by simp;omega
 have h2:(a1 != 3)=true:=by simp;omega
 clear h;go_enter func88,ntmps88
 go_wp2_with fail
 go_ret;exact⟨rfl,(Below.refl _ _).alloc (Nat.le_refl _) _⟩
theorem NO(a2 a3 n:Int)(a4:Bool)(w:World):Calls prog 88 #[.agg #[.int .i64 2,.int .i64 a2,.int .i64 a3,.bool a4],.int .i64 n] w fun r w'=>r=.returned (.bool (AX n ⟨2,a2,a3,a4⟩))/\Below w.heap.size w w':=by
 have hpk:=CN a2;have hcv:∀w,Calls prog 71 #[.int .i64 1] w fun e w'=>e=.returned (.int .i64 256)/\w'=w:=C2 1
 by_cases hp:AP a2=true
 ·rw[hp] at hpk;have hp0:0<=a2/\a2<4096:=by simpa [AP] using hp
  by_cases hm:a2%256=0
  ·(have hm':(a2%256==0)=true:=by simp;omega);by_cases h0:0<=a3
   ·(have h0':decide (0<=a3)=true:=by simpa using h0);by_cases h1:a3<n
    ·(have h1':decide (a3<n)=true:=by simpa using h1);(have hr:AX n ⟨2,a2,a3,a4⟩=true:=by simp[AX,Ab,hp,hm,h0,h1]);rw[hr];clear hr hp;(go_enter func88,ntmps88);(go_wp2_with fail);(go_quiet ((first|(go_at_call 35;exact Calls.quiet_of_same (hpk _))|(go_at_call 71;exact Calls.quiet_of_same (hcv _)))));(go_wp2);go_ret;exact⟨rfl,AS ((Below.refl _ _).alloc (Nat.le_refl _) _) _⟩
    ·(have h1':decide (a3<n)=false:=by simpa using h1);(have hr:AX n ⟨2,a2,a3,a4⟩=false:=by simp[AX,Ab,hp,h1]);rw[hr];clear hr hp;(go_enter func88,ntmps88);(go_wp2_with fail);(go_quiet ((first|(go_at_call 35;exact Calls.quiet_of_same (hpk _))|(go_at_call 71;exact Calls.quiet_of_same (hcv _)))));(go_wp2);go_ret;exact⟨rfl,AS ((Below.refl _ _).alloc (Nat.le_refl _) _) _⟩
   ·(have h0':decide (0<=a3)=false:=by simpa using h0);(have hr:AX n ⟨2,a2,a3,a4⟩=false:=by simp[AX,Ab,hp,h0]);rw[hr];clear hr hp;(go_enter func88,ntmps88);(go_wp2_with fail);(go_quiet ((first|(go_at_call 35;exact Calls.quiet_of_same (hpk _))|(go_at_call 71;exact Calls.quiet_of_same (hcv _)))));(go_wp2);go_ret;exact⟨rfl,AS ((Below.refl _ _).alloc (Nat.le_refl _) _) _⟩
  ·(have hm':(a2%256==0)=false:=by simp;omega);(have hr:AX n ⟨2,a2,a3,a4⟩=false:=by simp[AX,Ab,hp,hm]);rw[hr];clear hr hp;(go_enter func88,ntmps88);(go_wp2_with fail);(go_quiet ((first|(go_at_call 35;exact Calls.quiet_of_same (hpk _))|(go_at_call 71;exact Calls.quiet_of_same (hcv _)))));(go_wp2);go_ret;exact⟨rfl,AS ((Below.refl _ _).alloc (Nat.le_refl _) _) _⟩
 ·have hp':AP a2=false:=by simpa using hp
  rw[hp'] at hpk;have hr:AX n ⟨2,a2,a3,a4⟩=false:=by simp[AX,hp']
  rw[hr];clear hr hp hp';go_enter func88,ntmps88
  go_wp2_with fail
  go_quiet ((first|(go_at_call 35;exact Calls.quiet_of_same (hpk _))|(go_at_call 71;exact Calls.quiet_of_same (hcv _))))
  go_wp2
  go_ret;exact⟨rfl,AS ((Below.refl _ _).alloc (Nat.le_refl _) _) _⟩
theorem Mo(a2 a3 p:Int)(a4:Bool)(hp0:0<=p)(hp1:p<100000)(w:World):Calls prog 91 #[.agg #[.int .i64 2,.int .i64 a2,.int .i64 a3,.bool a4],.int .i64 p] w fun r w'=>r=.returned (.bool (DO ⟨2,a2,a3,a4⟩ p))/\Below w.heap.size w w':=by
 have hcv:∀w,Calls prog 71 #[.int .i64 1] w fun e w'=>e=.returned (.int .i64 256)/\w'=w:=C2 1
 have hr:DO ⟨2,a2,a3,a4⟩ p=decide (p-p%256=a2):=by simp[DO,Ab]
 rw[hr];clear hr;by_cases h:p-p%256=a2
 ·have h':(p-p%256==a2)=true:=by simpa using h
  simp only[h,decide_true];clear h;go_enter func91,ntmps91
  go_wp2_with fail
  go_quiet ((go_at_call 71;exact Calls.quiet_of_same (hcv _)))
  go_wp2
  go_ret;exact⟨rfl,AS ((Below.refl _ _).alloc (Nat.le_refl _) _) _⟩
 ·have h':(p-p%256==a2)=false:=by simpa using h
  simp only[h,decide_false];clear h;go_enter func91,ntmps91
  go_wp2_with fail
  go_quiet ((go_at_call 71;exact Calls.quiet_of_same (hcv _)))
  go_wp2
  go_ret;exact⟨rfl,AS ((Below.refl _ _).alloc (Nat.le_refl _) _) _⟩
theorem NL(a2 a3 n:Int)(a4:Bool)(w:World):Calls prog 88 #[.agg #[.int .i64 3,.int .i64 a2,.int .i64 a3,.bool a4],.int .i64 n] w fun r w'=>r=.returned (.bool (AX n ⟨3,a2,a3,a4⟩))/\Below w.heap.size w w':=by
 have hpk:=CN a2;have hcv:∀w,Calls prog 71 #[.int .i64 2] w fun e w'=>e=.returned (.int .i64 16)/\w'=w:=C2 2
 by_cases hp:AP a2=true
 ·rw[hp] at hpk;have hp0:0<=a2/\a2<4096:=by simpa [AP] using hp
  by_cases hm:a2%16=0
  ·(have hm':(a2%16==0)=true:=by simp;omega);by_cases h0:0<=a3
   ·(have h0':decide (0<=a3)=true:=by simpa using h0);by_cases h1:a3<n
    ·(have h1':decide (a3<n)=true:=by simpa using h1);(have hr:AX n ⟨3,a2,a3,a4⟩=true:=by simp[AX,Ab,hp,hm,h0,h1]);rw[hr];clear hr hp;(go_enter func88,ntmps88);(go_wp2_with fail);(go_quiet ((first|(go_at_call 35;exact Calls.quiet_of_same (hpk _))|(go_at_call 71;exact Calls.quiet_of_same (hcv _)))));(go_wp2);go_ret;exact⟨rfl,AS ((Below.refl _ _).alloc (Nat.le_refl _) _) _⟩
    ·(have h1':decide (a3<n)=false:=by simpa using h1);(have hr:AX n ⟨3,a2,a3,a4⟩=false:=by simp[AX,Ab,hp,h1]);rw[hr];clear hr hp;(go_enter func88,ntmps88);(go_wp2_with fail);(go_quiet ((first|(go_at_call 35;exact Calls.quiet_of_same (hpk _))|(go_at_call 71;exact Calls.quiet_of_same (hcv _)))));(go_wp2);go_ret;exact⟨rfl,AS ((Below.refl _ _).alloc (Nat.le_refl _) _) _⟩
   ·(have h0':decide (0<=a3)=false:=by simpa using h0);(have hr:AX n ⟨3,a2,a3,a4⟩=false:=by simp[AX,Ab,hp,h0]);rw[hr];clear hr hp;(go_enter func88,ntmps88);(go_wp2_with fail);(go_quiet ((first|(go_at_call 35;exact Calls.quiet_of_same (hpk _))|(go_at_call 71;exact Calls.quiet_of_same (hcv _)))));(go_wp2);go_ret;exact⟨rfl,AS ((Below.refl _ _).alloc (Nat.le_refl _) _) _⟩
  ·(have hm':(a2%16==0)=false:=by simp;omega);(have hr:AX n ⟨3,a2,a3,a4⟩=false:=by simp[AX,Ab,hp,hm]);rw[hr];clear hr hp;(go_enter func88,ntmps88);(go_wp2_with fail);(go_quiet ((first|(go_at_call 35;exact Calls.quiet_of_same (hpk _))|(go_at_call 71;exact Calls.quiet_of_same (hcv _)))));(go_wp2);go_ret;exact⟨rfl,AS ((Below.refl _ _).alloc (Nat.le_refl _) _) _⟩
 ·have hp':AP a2=false:=by simpa using hp
  rw[hp'] at hpk;have hr:AX n ⟨3,a2,a3,a4⟩=false:=by simp[AX,hp']
  rw[hr];clear hr hp hp';go_enter func88,ntmps88
  go_wp2_with fail
  go_quiet ((first|(go_at_call 35;exact Calls.quiet_of_same (hpk _))|(go_at_call 71;exact Calls.quiet_of_same (hcv _))))
  go_wp2
  go_ret;exact⟨rfl,AS ((Below.refl _ _).alloc (Nat.le_refl _) _) _⟩
theorem N9(a2 a3 p:Int)(a4:Bool)(hp0:0<=p)(hp1:p<100000)(w:World):Calls prog 91 #[.agg #[.int .i64 3,.int .i64 a2,.int .i64 a3,.bool a4],.int .i64 p] w fun r w'=>r=.returned (.bool (DO ⟨3,a2,a3,a4⟩ p))/\Below w.heap.size w w':=by
 have hcv:∀w,Calls prog 71 #[.int .i64 2] w fun e w'=>e=.returned (.int .i64 16)/\w'=w:=C2 2
 have hr:DO ⟨3,a2,a3,a4⟩ p=decide (p-p%16=a2):=by simp[DO,Ab]
 rw[hr];clear hr;by_cases h:p-p%16=a2
 ·have h':(p-p%16==a2)=true:=by simpa using h
  simp only[h,decide_true];clear h;go_enter func91,ntmps91
  go_wp2_with fail
  go_quiet ((go_at_call 71;exact Calls.quiet_of_same (hcv _)))
  go_wp2
  go_ret;exact⟨rfl,AS ((Below.refl _ _).alloc (Nat.le_refl _) _) _⟩
 ·have h':(p-p%16==a2)=false:=by simpa using h
  simp only[h,decide_false];clear h;go_enter func91,ntmps91
  go_wp2_with fail
  go_quiet ((go_at_call 71;exact Calls.quiet_of_same (hcv _)))
  go_wp2
  go_ret;exact⟨rfl,AS ((Below.refl _ _).alloc (Nat.le_refl _) _) _⟩
theorem M7(n:Int)(e:CI)(w:World):Calls prog 88 #[.agg #[.int .i64 e.level,.int .i64 e.page,.int .i64 e.table,.bool e.doom],.int .i64 n] w fun r w'=>r=.returned (.bool (AX n e))/\Below w.heap.size w w':=by
 obtain⟨a1,a2,a3,a4⟩:=e;by_cases h1:a1=2
 ·subst h1;exact NO a2 a3 n a4 w
 ·by_cases h2:a1=3
  ·subst h2;exact NL a2 a3 n a4 w
  ·(have:AX n ⟨a1,a2,a3,a4⟩=false:=by simp[AX,h1,h2]);rw[this];exact K7 a1 a2 a3 n a4 (by omega) w
theorem Fw(a k:Nat)(ha:a<65536)(hk:k<16):bits .and .i64 (a:Int) ((2 ^ k:Nat):Int)=((a/2 ^ k%2*2 ^ k:Nat):Int):=by
 have hb:2 ^ k<2 ^ 16:=Nat.pow_lt_pow_right (by omega) hk;have h1:(BitVec.ofInt 64 (a:Int)).toNat=a:=by
  rw[BitVec.ofInt_natCast,BitVec.toNat_ofNat];exact Nat.mod_eq_of_lt (by omega)
 have h2:(BitVec.ofInt 64 ((2 ^ k:Nat):Int)).toNat=2 ^ k:=by
  rw[BitVec.ofInt_natCast,BitVec.toNat_ofNat];exact Nat.mod_eq_of_lt (by omega)
 show IntKind.i64.wrap ((BitVec.ofInt 64 (a:Int) &&& BitVec.ofInt 64 ((2 ^ k:Nat):Int)).toNat:Int)=_;have h3:=D5 a k 1;rw[show (2 ^ 1-1)*2 ^ k=2 ^ k by omega,show (2:Nat) ^ 1=2 from rfl] at h3;rw[BitVec.toNat_and,h1,h2,h3,IntKind.wrap_i64];rcases Nat.mod_two_eq_zero_or_one (a/2 ^ k) with h|h<;>rw[h]<;>omega
theorem DU(c:Int)(k:Nat)(B:Int)(hB:B=((2 ^ k:Nat):Int))(hk:k<16)(hc0:0<=c)(hc1:c<=65535)(w:World):Calls prog 103 #[.int .i64 c,.int .i64 B] w fun e w'=>e=.returned (.bool (BT c k))/\w'=w:=by
 obtain⟨a,rfl⟩:=Int.eq_ofNat_of_zero_le hc0;have h:=Fw a k (by omega) hk;rw[<- hB] at h;have hpos:0<2 ^ k:=Nat.pow_pos (by omega);have e:((a:Int)/2 ^ k%2=1)↔a/2 ^ k%2=1:=by
  rw[show (2:Int) ^ k=((2 ^ k:Nat):Int) by simp];omega
 by_cases hb:a/2 ^ k%2=1
 ·have hv:BT a k=true:=by simpa [BT] using e.2 hb
  have hx:(bits .and .i64 (a:Int) B != 0)=true:=by
   (rw[h,hb,Nat.one_mul,bne_iff_ne];intro h0;have:2 ^ k=0:=by exact_mod_cast h0);omega
  rw[hv];clear h e hb hv hB;go_enter func103,ntmps103
  go_wp2
  go_ret;exact⟨rfl,rfl⟩
 ·have hv:BT a k=false:=by
   unfold BT;rw[decide_eq_false_iff_not];exact fun h'=>hb (e.1 h')
  have hx:(bits .and .i64 (a:Int) B != 0)=false:=by
   rw[h,show a/2 ^ k%2=0 by omega];simp
  rw[hv];clear h e hb hv hB;go_enter func103,ntmps103
  go_wp2
  go_ret;exact⟨rfl,rfl⟩
theorem IJ(c l:Int)(hl:l=1\/l=2\/l=3)(hc0:0<=c)(hc1:c<=65535)(w:World):Calls prog 136 #[.int .i64 c,.int .i64 l] w fun e w'=>e=.returned (.bool (BT c l.toNat))/\w'=w:=by
 rcases hl with rfl|rfl|rfl
 ·have h:=DU c 1 2 rfl (by omega) hc0 hc1;go_enter func136,ntmps136
  go_wp2_with (go_at_call 103;refine(h _).mono ?_;rintro e w1 ⟨rfl,rfl⟩)
  go_ret;exact⟨rfl,rfl⟩
 ·have h:=DU c 2 4 rfl (by omega) hc0 hc1;go_enter func136,ntmps136
  go_wp2_with (go_at_call 103;refine(h _).mono ?_;rintro e w1 ⟨rfl,rfl⟩)
  go_ret;exact⟨rfl,rfl⟩
 ·have h:=DU c 3 8 rfl (by omega) hc0 hc1;go_enter func136,ntmps136
  go_wp2_with (go_at_call 103;refine(h _).mono ?_;rintro e w1 ⟨rfl,rfl⟩)
  go_ret;exact⟨rfl,rfl⟩
theorem GV(c l:Int)(hl:l=2\/l=3)(hc0:0<=c)(hc1:c<=65535)(w:World):Calls prog 139 #[.int .i64 c,.int .i64 l] w fun e w'=>e=.returned (.bool (BT c (l+2).toNat))/\w'=w:=by
 rcases hl with rfl|rfl
 ·have h:=DU c 4 16 rfl (by omega) hc0 hc1;go_enter func139,ntmps139
  go_wp2_with (go_at_call 103;refine(h _).mono ?_;rintro e w1 ⟨rfl,rfl⟩)
  go_ret;exact⟨rfl,rfl⟩
 ·have h:=DU c 5 32 rfl (by omega) hc0 hc1;go_enter func139,ntmps139
  go_wp2_with (go_at_call 103;refine(h _).mono ?_;rintro e w1 ⟨rfl,rfl⟩)
  go_ret;exact⟨rfl,rfl⟩
theorem BU(p:Int)(w:World):Calls prog 48 #[.int .i64 p] w fun e w'=>e=.returned (.bool (AP p))/\w'=w:=by
 unfold AP;by_cases h1:0<=p
 ·have h1':decide (0<=p)=true:=by simpa using h1
  by_cases h2:p<4096
  ·(have h2':decide (p<4096)=true:=by simpa using h2);rw[h1',h2'];clear h1 h2;(go_enter func48,ntmps48);(go_wp2);go_ret;exact⟨rfl,rfl⟩
  ·(have h2':decide (p<4096)=false:=by simpa using h2);rw[h1',h2'];clear h1 h2;(go_enter func48,ntmps48);(go_wp2);go_ret;exact⟨rfl,rfl⟩
 ·have h1':decide (0<=p)=false:=by simpa using h1
  rw[h1'];clear h1;go_enter func48,ntmps48
  go_wp2
  go_ret;exact⟨by simp,rfl⟩
theorem Dv(p:Int)(w:World):Calls prog 50 #[.int .i64 p] w fun e w'=>e=.returned (.bool (Ax p))/\w'=w:=by
 unfold Ax;by_cases h1:0<=p
 ·have h1':decide (0<=p)=true:=by simpa using h1
  by_cases h2:p<=65535
  ·(have h2':decide (p<=65535)=true:=by simpa using h2);rw[h1',h2'];clear h1 h2;(go_enter func50,ntmps50);(go_wp2);go_ret;exact⟨rfl,rfl⟩
  ·(have h2':decide (p<=65535)=false:=by simpa using h2);rw[h1',h2'];clear h1 h2;(go_enter func50,ntmps50);(go_wp2);go_ret;exact⟨rfl,rfl⟩
 ·have h1':decide (0<=p)=false:=by simpa using h1
  rw[h1'];clear h1;go_enter func50,ntmps50
  go_wp2
  go_ret;exact⟨by simp,rfl⟩
theorem GQ(b o:Nat)(page pages:Int)(doom:Bool)(hp0:0<=page)(hp1:page<100000)(hs:pages=1\/pages=16\/pages=256)(w:World)(hb:b<w.heap.size)(hc:w.cell? ⟨b,o+2,none⟩=some (.bool doom)):Calls prog 138 #[.pointer (some ⟨b,o,none⟩),.int .i64 page,.int .i64 pages] w fun e w'=>e=.returned (.agg #[.int .i64 (page-page%pages),.int .i64 pages,.bool doom])/\Below w.heap.size w w':=by
 have HK:Hid (∀wX,Below w.heap.size w wX->wX.cell? ⟨b,o+2,none⟩=some (.bool doom)):=fun wX hX=>(hX.cell (by simpa using hb)).trans hc
 have hwp:IntKind.i64.wrap page=page:=by rw[IntKind.wrap_i64];omega
 rcases hs with rfl|rfl|rfl
 ·have e1:page-page%1=page:=by omega
  rw[e1];clear e1;go_enter func138,ntmps138
  go_wp2_with fail
  go_region_held3 (fun w'=>w'.cell? ⟨b,o+2,none⟩=some (.bool doom)) ((refine HK.out _ ?_;repeat (first|exact Below.refl _ _|with_reducible refine Below.drew ?_|refine Below.alloc ?_ (by first|omega|(simp<;>omega)) _))) (fail)
  go_wp2
  exact bodyPost_ret (v:=.agg #[.int .i64 page,.int .i64 1,.bool doom]) (by simp[results,results138,go_sem]) rfl ⟨rfl,((Below.refl _ _).alloc (Nat.le_refl _) _).drew⟩
 ·clear hwp;go_enter func138,ntmps138
  go_wp2_with fail
  go_region_held3 (fun w'=>w'.cell? ⟨b,o+2,none⟩=some (.bool doom)) ((refine HK.out _ ?_;repeat (first|exact Below.refl _ _|with_reducible refine Below.drew ?_|refine Below.alloc ?_ (by first|omega|(simp<;>omega)) _))) (fail)
  go_wp2
  exact bodyPost_ret (v:=.agg #[.int .i64 (page-page%16),.int .i64 16,.bool doom]) (by simp[results,results138,go_sem,Int.tmod_eq_emod_of_nonneg hp0,show IntKind.i64.wrap (page-page%16)=page-page%16 by rw[IntKind.wrap_i64];omega]) rfl ⟨rfl,((Below.refl _ _).alloc (Nat.le_refl _) _).drew⟩
 ·clear hwp;go_enter func138,ntmps138
  go_wp2_with fail
  go_region_held3 (fun w'=>w'.cell? ⟨b,o+2,none⟩=some (.bool doom)) ((refine HK.out _ ?_;repeat (first|exact Below.refl _ _|with_reducible refine Below.drew ?_|refine Below.alloc ?_ (by first|omega|(simp<;>omega)) _))) (fail)
  go_wp2
  exact bodyPost_ret (v:=.agg #[.int .i64 (page-page%256),.int .i64 256,.bool doom]) (by simp[results,results138,go_sem,Int.tmod_eq_emod_of_nonneg hp0,show IntKind.i64.wrap (page-page%256)=page-page%256 by rw[IntKind.wrap_i64];omega]) rfl ⟨rfl,((Below.refl _ _).alloc (Nat.le_refl _) _).drew⟩
theorem Ll(b:Nat)(page level table:Int)(hp0:0<=page)(hp1:page<4096)(hl:level=1\/level=2\/level=3)(ht0:0<=table)(ht1:table<100000)(w:World)(hl3:w.cell? ⟨b,3,none⟩=some (.int .i64 level))(ht4:w.cell? ⟨b,4,none⟩=some (.int .i64 table)):Calls prog 135 #[.pointer (some ⟨b,0,none⟩),.int .i64 page] w fun e w'=>e=.returned (.int .i64 (table*16+Ho page level))/\Below w.heap.size w w':=by
 rcases hl with rfl|rfl|rfl
 ·have hc:∀w,Calls prog 128 #[.int .i64 1] w fun e w'=>e=.returned (.int .i64 256)/\w'=w:=Bc 1
  have e1:Ho page 1=page/256%16:=by simp[Ho];omega
  rw[e1];clear e1;go_enter func135,ntmps135
  go_wp2_with fail
  go_quiet ((go_at_call 128;exact Calls.quiet_of_same (hc _)))
  go_wp2
  go_ret;exact⟨rfl,AS (Below.refl _ _) _⟩
 ·have hc:∀w,Calls prog 128 #[.int .i64 2] w fun e w'=>e=.returned (.int .i64 16)/\w'=w:=Bc 2
  have e1:Ho page 2=page/16%16:=by simp[Ho]
  rw[e1];clear e1;go_enter func135,ntmps135
  go_wp2_with fail
  go_quiet ((go_at_call 128;exact Calls.quiet_of_same (hc _)))
  go_wp2
  go_ret;exact⟨rfl,AS (Below.refl _ _) _⟩
 ·have hc:∀w,Calls prog 128 #[.int .i64 3] w fun e w'=>e=.returned (.int .i64 1)/\w'=w:=Bc 3
  have e1:Ho page 3=page%16:=by simp[Ho]
  have hwp:IntKind.i64.wrap page=page:=by rw[IntKind.wrap_i64];omega
  rw[e1];clear e1;go_enter func135,ntmps135
  go_wp2_with fail
  go_quiet ((go_at_call 128;exact Calls.quiet_of_same (hc _)))
  go_wp2
  go_ret;exact⟨rfl,AS (Below.refl _ _) _⟩
theorem I7(b o:Nat)(page ep pages out perm:Int)(hp0:0<=page)(hp1:page<100000)(he0:0<=ep)(he1:ep<100000)(ho0:0<=out)(ho1:out<100000)(w:World)(hb:b<w.heap.size)(h0:w.cell? ⟨b,o,none⟩=some (.int .i64 ep))(h1:w.cell? ⟨b,o+1,none⟩=some (.int .i64 pages))(h3:w.cell? ⟨b,o+3,none⟩=some (.int .i64 out))(h4:w.cell? ⟨b,o+4,none⟩=some (.int .i64 perm)):Calls prog 131 #[.pointer (some ⟨b,o,none⟩),.int .i64 page] w fun e w'=>e=.returned (.agg #[.int .i64 1,.int .i64 (out+page-ep),.int .i64 perm,.int .i64 pages])/\Below w.heap.size w w':=by
 have HK:Hid (∀wX,Below w.heap.size w wX->wX.cell? ⟨b,o,none⟩=some (.int .i64 ep)/\wX.cell? ⟨b,o+1,none⟩=some (.int .i64 pages)/\wX.cell? ⟨b,o+3,none⟩=some (.int .i64 out)/\wX.cell? ⟨b,o+4,none⟩=some (.int .i64 perm)):=fun wX hX=>⟨(hX.cell (by simpa using hb)).trans h0,(hX.cell (by simpa using hb)).trans h1,(hX.cell (by simpa using hb)).trans h3,(hX.cell (by simpa using hb)).trans h4⟩
 go_enter func131,ntmps131
 go_wp2_with fail
 go_region_held3 (fun wX=>wX.cell? ⟨b,o,none⟩=some (.int .i64 ep)/\wX.cell? ⟨b,o+1,none⟩=some (.int .i64 pages)/\wX.cell? ⟨b,o+3,none⟩=some (.int .i64 out)/\wX.cell? ⟨b,o+4,none⟩=some (.int .i64 perm)) ((refine HK.out _ ?_;repeat (first|exact Below.refl _ _|with_reducible refine Below.drew ?_|refine Below.alloc ?_ (by first|omega|(simp<;>omega)) _))) (fail)
 go_wp2
 exact bodyPost_ret (v:=.agg #[.int .i64 1,.int .i64 (out+page-ep),.int .i64 perm,.int .i64 pages]) (by simp[results,results131,go_sem,show IntKind.i64.wrap (out+page)=out+page by rw[IntKind.wrap_i64];omega,show IntKind.i64.wrap (out+page-ep)=out+page-ep by rw[IntKind.wrap_i64];omega]) rfl ⟨rfl,((Below.refl _ _).alloc (Nat.le_refl _) _).drew⟩
theorem Gr(gu:Nat)(g1 g2:Nat)(n1 c1 n2 c2:Nat)(A:Nat)(late:Bool)(x:Int)(w:World)(h0:late=false->w.cell? ⟨gu,0,none⟩=some (.slice (some ⟨g1,0,none⟩) n1 c1)/\A<n1/\w.cell? ⟨g1,A,none⟩=some (.int .u64 x))(h1:late=true->w.cell? ⟨gu,1,none⟩=some (.slice (some ⟨g2,0,none⟩) n2 c2)/\A<n2/\w.cell? ⟨g2,A,none⟩=some (.int .u64 x)):Calls prog 134 #[.pointer (some ⟨gu,0,none⟩),.int .i64 A,.bool late] w fun e w'=>e=.returned (.int .u64 x)/\Below w.heap.size w w':=by
 have A1:(0:Int)<=(A:Int):=by omega
 cases late
 ·obtain⟨a,b,c⟩:=h0 rfl;have A2:(A:Int)<(n1:Int):=by omega
  clear h0 h1 b;go_enter func134,ntmps134
  go_wp2
  go_ret;exact⟨rfl,Below.refl _ _⟩
 ·obtain⟨a,b,c⟩:=h1 rfl;have A2:(A:Int)<(n2:Int):=by omega
  clear h0 h1 b;go_enter func134,ntmps134
  go_wp2
  go_ret;exact⟨rfl,Below.refl _ _⟩
def BM (a n b m:Int):Bool:=decide (a<b+m)&&decide (b<a+n)
theorem D7(b o:Nat)(hp hn first pages:Int)(h0:0<=hp/\hp<100000)(h1:0<=hn/\hn<100000)(h2:0<=first/\first<100000)(h3:0<=pages/\pages<100000)(w:World)(c0:w.cell? ⟨b,o,none⟩=some (.int .i64 hp))(c1:w.cell? ⟨b,o+1,none⟩=some (.int .i64 hn)):Calls prog 147 #[.pointer (some ⟨b,o,none⟩),.int .i64 first,.int .i64 pages] w fun e w'=>e=.returned (.bool (BM hp hn first pages))/\Below w.heap.size w w':=by
 unfold BM;by_cases a:hp<first+pages
 ·have a':decide (hp<first+pages)=true:=by simpa using a
  by_cases d:first<hp+hn
  ·(have d':decide (first<hp+hn)=true:=by simpa using d);rw[a',d'];clear a d;(go_enter func147,ntmps147);(go_wp2_with fail);(go_quiet (fail));(go_wp2);go_ret;exact⟨rfl,AS (Below.refl _ _) _⟩
  ·(have d':decide (first<hp+hn)=false:=by simpa using d);rw[a',d'];clear a d;(go_enter func147,ntmps147);(go_wp2_with fail);(go_quiet (fail));(go_wp2);go_ret;exact⟨rfl,AS (Below.refl _ _) _⟩
 ·have a':decide (hp<first+pages)=false:=by simpa using a
  rw[a'];clear a;go_enter func147,ntmps147
  go_wp2_with fail
  go_quiet (fail)
  go_wp2
  go_ret;exact⟨by simp,AS (Below.refl _ _) _⟩
theorem GO(b o:Nat)(hp hn page:Int)(h0:0<=hp/\hp<100000)(h1:0<=hn/\hn<100000)(h2:0<=page/\page<100000)(w:World)(c0:w.cell? ⟨b,o,none⟩=some (.int .i64 hp))(c1:w.cell? ⟨b,o+1,none⟩=some (.int .i64 hn)):Calls prog 129 #[.pointer (some ⟨b,o,none⟩),.int .i64 page] w fun e w'=>e=.returned (.bool (BM hp hn page 1))/\Below w.heap.size w w':=by
 have h:=D7 b o hp hn page 1 h0 h1 h2 (by omega) w c0 c1;go_enter func129,ntmps129
 go_wp2_with fail
 refine h.mono ?_;rintro e w1 ⟨rfl,hb1⟩;go_wp2_with fail
 go_ret;exact⟨rfl,hb1⟩
end
end Go.Proofs.YtnmhkgmmpkjjeabGreat
