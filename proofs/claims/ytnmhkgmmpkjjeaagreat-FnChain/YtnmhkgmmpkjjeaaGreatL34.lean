import Derived.Test.YtnmhkgmmpkjjeaaGreatL04
namespace Go.Proofs.YtnmhkgmmpkjjeaaGreat
set_option linter.unusedVariables false
def Mj (s:AS):Bool:=s.all Ct&&decide (0<s.length)
def Gk (s:AS):Nat:=s.foldl (fun n c=>n*10+(c.toNat-48)) 0
def M5 (s:AS):Bool:=Mj s&&decide (s.length<=6)&&!(decide ((JX s 0).toNat=48)&&decide (1<s.length))
def AM (s:AS):Int:=if M5 s then Gk s else -1
theorem I6 {s:AS}:s.all Ct=true↔∀j,j<s.length->Ct (JX s j)=true:=by
 rw[List.all_eq_true];constructor
 ·intro h j hj;unfold JX;rw[List.getD_eq_getElem?_getD,List.getElem?_eq_getElem hj];exact h _ (List.getElem_mem hj)
 ·intro h c hc;obtain⟨j,hj,e⟩:=List.getElem_of_mem hc;have:=h j hj;unfold JX at this;rw[List.getD_eq_getElem?_getD,List.getElem?_eq_getElem hj] at this;simpa [e] using this
theorem W8 {s:AS} {j:Nat} (hj:j<s.length) (h:Ct (JX s j)=false):s.all Ct=false:=by
 cases hc:s.all Ct
 ·rfl
 ·have:=I6.1 hc j hj;rw[h] at this;cases this
theorem Tk {s:AS} {k:Nat} (h:k<s.length):s.take (k+1)=s.take k++[JX s k]:=by
 rw[List.take_add_one,List.getElem?_eq_getElem h];unfold JX;rw[List.getD_eq_getElem?_getD,List.getElem?_eq_getElem h];rfl
theorem Ii {s:AS} {k:Nat} (h:k<s.length):Gk (s.take (k+1))=Gk (s.take k)*10+((JX s k).toNat-48):=by
 rw[Tk h];unfold Gk;rw[List.foldl_append];rfl
theorem Qv {s:AS} (hd:s.all Ct=true):∀k,k<=s.length->Gk (s.take k)<10 ^ k
 | 0,_=>by simp[Gk]
 | k+1,h=>by
  rw[Ii (by omega)];have h1:=Qv hd k (by omega);have h2:=I6.1 hd k (by omega);unfold Ct at h2;simp at h2;rw[Nat.pow_succ];omega
theorem Q7 {s:AS} (hd:s.all Ct=true) (h6:s.length<=6) {k:Nat} (hk:k<=s.length):Gk (s.take k)<1000000 :=
 Nat.lt_of_lt_of_le (Qv hd k hk) (Nat.pow_le_pow_right (by omega) (by omega:k<=6))
theorem I0 (s:AS):AM s<1000000:=by
 unfold AM;split
 ·rename_i h;unfold M5 Mj at h;simp only[Bool.and_eq_true,decide_eq_true_eq] at h;have:=Q7 h.1.1.1 h.1.2 (Nat.le_refl s.length);rw[List.take_length] at this;omega
 ·omega
def Vh (s:AS):Bool:=s==[111,98,106,101,99,116]||s==[114,101,103,105,111,110]||s==[103,117,97,114,100]||s==[97,116]||s==[115,104,97,114,101,100]||s==[104,117,103,101]
def C0 (s:AS):Bool:=decide (0<s.length)&&decide (s.length<=16)&&Lm (JX s 0)&&!Vh s
def EH (s:AS):Int:=if s==[114] then 1 else if s==[119] then 2 else if s==[114,119] then 3 else if s==[120] then 4 else if s==[114,120] then 5 else if s==[119,120] then 6 else if s==[114,119,120] then 7 else 0
def Gw:Nat->AS
 | 1=>[114]
 | 2=>[119]
 | 3=>[114,119]
 | 4=>[120]
 | 5=>[114,120]
 | 6=>[119,120]
 | 7=>[114,119,120]
 | _=>[]
theorem Sn {k:Nat} {s:AS} (h1:1<=k) (h7:k<=7) (h:(Gw k==s)=true):EH s=k:=by
 have e:Gw k=s:=by simpa using h
 subst e;rcases(show k=1\/k=2\/k=3\/k=4\/k=5\/k=6\/k=7 by omega) with rfl|rfl|rfl|rfl|rfl|rfl|rfl<;>decide
theorem PC {s:AS} (h:∀j,1<=j->j<=7->(Gw j==s)=false):EH s=0:=by
 have f:∀j,1<=j->j<=7->(s==Gw j)=false:=fun j h1 h2=>by rw[BEq.comm];exact h j h1 h2
 have f1:=f 1 (by omega) (by omega);have f2:=f 2 (by omega) (by omega);have f3:=f 3 (by omega) (by omega);have f4:=f 4 (by omega) (by omega);have f5:=f 5 (by omega) (by omega);have f6:=f 6 (by omega) (by omega);have f7:=f 7 (by omega) (by omega);simp only[Gw] at f1 f2 f3 f4 f5 f6 f7;unfold EH;rw[f1,f2,f3,f4,f5,f6,f7];rfl
structure St where
 kind:Int
 name:AS
 a:Int
 b:Int
 perm:Int
 extra:Bool
def AP:St:=⟨0,[],0,0,0,false⟩
def ER (ts:List AS) (i:Nat):AS:=ts.getD i []
def TI (ts:List AS):St :=
 if !(ts.length==5||ts.length==6)||!C0 (ER ts 1)||!(ER ts 3==[97,116]) then AP
 else if ts.length==6&&!(ER ts 5==[115,104,97,114,101,100]) then AP
 else if AM (ER ts 2)<0\/AM (ER ts 4)<0 then AP
 else ⟨1,ER ts 1,AM (ER ts 2),AM (ER ts 4),0,ts.length==6⟩
def Tj (ts:List AS):St :=
 if !(ts.length==4||ts.length==5)||!C0 (ER ts 2)||(ts.length==5&&!(ER ts 4==[104,117,103,101])) then AP
 else if AM (ER ts 1)<0\/EH (ER ts 3)=0 then AP
 else ⟨2,ER ts 2,AM (ER ts 1),0,EH (ER ts 3),ts.length==5⟩
def V5 (ts:List AS):St :=
 if AM (ER ts 1)<0\/AM (ER ts 2)<0 then AP else ⟨3,[],AM (ER ts 1),AM (ER ts 2),0,false⟩
def CS (ts:List AS):St :=
 if ts.length<3 then AP
 else if ER ts 0==[111,98,106,101,99,116] then TI ts
 else if ER ts 0==[114,101,103,105,111,110] then Tj ts
 else if ER ts 0==[103,117,97,114,100]&&ts.length==3 then V5 ts
 else AP
end Go.Proofs.YtnmhkgmmpkjjeaaGreat
namespace Go.Proofs.YtnmhkgmmpkjjeaaGreat
open Go.ChangeShapes Go.WideShapes Go.ChangeAt Go.RowKit
set_option linter.unusedVariables false
set_option maxRecDepth 100000
attribute [local go_sem ↓] Go.wp_at_zero Go.wp_at_succ
attribute [local go_sem] CY Di Dm FP Du Cc
theorem Da (l:AS) (w:World) (hle:l.length<=20000):Calls Tryz.prog 164 #[.string (bs l)] w fun e w'=>e=.returned (.bool (Mj l))/\w'=w:=by
 go_enter Tryz.func164,Tryz.ntmps164
 go_wp2_with fail
 go_loopw [3] (fun iv wr=>∃(k:Nat),k<=l.length/\iv=.int .i64 k/\Hid (∀j,j<k->Ct (JX l j)=true)/\wr=w) (fun iv _=>l.length-(intOf iv).toNat)
 case atStart=>exact⟨0,Nat.zero_le _,rfl,A2 fun j hj=>absurd hj (by omega),rfl⟩
 case round =>
  obtain⟨k,hk,rfl,HO,rfl⟩:=hrel;by_cases hlt:k<l.length
  ·(have HN:Hid (Ct (JX l k)=false->Mj l=false):=A2 fun h=>by unfold Mj;rw[W8 hlt h];rfl);have HY:Hid (Ct (JX l k)=true->∀j,j<k+1->Ct (JX l j)=true):=A2 fun h j hj=>by
    by_cases e:j=k
    ·rw[e];exact h
    ·exact HO.out j (by omega)
   (obtain⟨c,hc⟩:∃c,JX l k=c:=⟨_,rfl⟩);rw[hc] at HN HY;(have L1:(0:Int)<=(k:Int):=by omega);(have L2:(k:Int)<(l.length:Int):=by omega);by_cases h1:c.toNat<48
   ·have HR:Hid _:=HN.out (by unfold Ct;simp;omega);(have e1:(c.toNat:Int)<48:=by omega);clear h1;(go_wp2_with fail);go_ret;exact⟨by rw[HR.out];rfl,rfl⟩
   ·by_cases h2:57<c.toNat
    ·have HR:Hid _:=HN.out (by unfold Ct;simp;omega);(have e1:(48:Int)<=c.toNat:=by omega);(have e2:(57:Int)<c.toNat:=by omega);clear h1 h2;(go_wp2_with fail);go_ret;exact⟨by rw[HR.out];rfl,rfl⟩
    ·have HR:Hid _:=HY.out (by unfold Ct;simp;omega);(have e1:(48:Int)<=c.toNat:=by omega);(have e2:(c.toNat:Int)<=57:=by omega);clear h1 h2;(go_wp2_with fail);go_roundw;(case rel=>exact⟨k+1,by omega,by go_num,HR,by first|rfl|trivial⟩);case measure=>first|(simp[intOf];done)|(simp[intOf];omega)
  ·have HE:Hid (Mj l=decide (0<l.length)):=A2 <| by
    unfold Mj;rw[I6.2 (fun j hj=>HO.out j (by omega))];rfl
   (go_wp2_with fail);go_ret;refine⟨?_,rfl⟩;rw[HE.out];simp
set_option maxHeartbeats 1000000 in
theorem DU (l:AS) (w:World) (hle:l.length<=20000):Calls Tryz.prog 98 #[.string (bs l)] w fun e w'=>e=.returned (.int .i64 (AM l))/\w'=w:=by
 cases hd:Mj l
 ·have HR:Hid (AM l=-1):=A2 <| by unfold AM M5;rw[hd];rfl
  go_enter Tryz.func98,Tryz.ntmps98
  go_wp2_with (go_at_call 164;refine(Da l _ hle).mono ?_;rintro e w' ⟨rfl,rfl⟩)
  go_ret;exact⟨by rw[HR.out];rfl,rfl⟩
 ·have HD:Hid (l.all Ct=true/\0<l.length):=A2 <| by unfold Mj at hd;simpa using hd
  have h0:0<l.length:=HD.out.2;have h0':(0:Int)<(l.length:Int):=by omega
  by_cases h6:l.length<=6
  ·(obtain⟨c,hc⟩:∃c,JX l 0=c:=⟨_,rfl⟩);by_cases h48:c.toNat=48/\1<l.length
   ·(have HR:Hid (AM l=-1):=A2 <| by unfold AM M5;rw[hd,hc];simp[h48]);(have e1:((c.toNat:Int)==48)=true:=by simp[h48.1]);(have e2:(1:Int)<(l.length:Int):=by omega);(have e3:(l.length:Int)<=6:=by omega);clear h48 h6;(go_enter Tryz.func98,Tryz.ntmps98);(go_wp2_with (go_at_call 164;refine(Da l _ hle).mono ?_;rintro e w' ⟨rfl,rfl⟩));go_ret;exact⟨by rw[HR.out];rfl,rfl⟩
   ·have HR:Hid (AM l=Gk l):=A2 <| by
     unfold AM;rw[if_pos (by unfold M5;rw[hd,hc];simp;refine⟨h6,by omega⟩)]
    (have HV:Hid _:=fun {k:Nat} (hk:k<=l.length)=>Q7 HD.out.1 h6 hk);(have e3:(l.length:Int)<=6:=by omega);by_cases h4:c.toNat=48
    ·(have e1:((c.toNat:Int)==48)=true:=by simp[h4]);(have e2:(l.length:Int)<=1:=by omega);clear h48 h4;(go_enter Tryz.func98,Tryz.ntmps98);(go_wp2_with (go_at_call 164;refine(Da l _ hle).mono ?_;rintro e w' ⟨rfl,rfl⟩));(go_loopw [3,4] (fun nv iv wr=>∃(k:Nat),k<=l.length/\iv=.int .i64 k/\nv=.int .i64 (Gk (l.take k))/\wr=w') (fun _ iv _=>l.length-(intOf iv).toNat));(case atStart=>exact⟨0,Nat.zero_le _,rfl,rfl,rfl⟩);case round =>
      obtain⟨k,hk,rfl,rfl,rfl⟩:=hrel;by_cases hlt:k<l.length
      ·have HSU:Hid _:=Ii hlt;have HDI:Hid _:=I6.1 HD.out.1 k hlt;have hV:=HV.out (k:=k) (by omega);(obtain⟨V,hVe⟩:∃V,Gk (l.take k)=V:=⟨_,rfl⟩);rw[hVe] at hV HSU ⊢;(obtain⟨c2,hc2⟩:∃c2,JX l k=c2:=⟨_,rfl⟩);rw[hc2] at HSU HDI;obtain⟨d,hd2,hd9⟩:∃d:Nat,c2.toNat=d+48/\d<=9:=by
        have:=HDI.out;unfold Ct at this;simp at this;exact⟨c2.toNat-48,by omega,by omega⟩
       rw[hd2,Nat.add_sub_cancel] at HSU;(have w1:IntKind.u8.wrap ((d:Int))=(d:Int):=by rw[IntKind.wrap_u8];omega);(have w2:IntKind.i64.wrap ((V:Int)*10)=(V:Int)*10:=by rw[IntKind.wrap_i64];omega);(have w3:IntKind.i64.wrap ((d:Int))=(d:Int):=by rw[IntKind.wrap_i64];omega);(have w4:IntKind.i64.wrap ((V:Int)*10+(d:Int))=(V:Int)*10+(d:Int):=by rw[IntKind.wrap_i64];omega);(have L1:(0:Int)<=(k:Int):=by omega);(have L2:(k:Int)<(l.length:Int):=by omega);clear hVe;(go_wp2_with fail);go_roundw;(case rel=>exact⟨k+1,by omega,by go_num,by rw[HSU.out];go_num,by first|rfl|trivial⟩);case measure=>first|(simp[intOf];done)|(simp[intOf];omega)
      ·(have hkl:k=l.length:=by omega);(have HZ:Hid (Gk (l.take k)=Gk l):=A2 <| by rw[hkl,List.take_length]);(go_wp2_with fail);go_ret;refine⟨?_,rfl⟩;rw[HR.out,<- HZ.out];rfl
    ·(have e1:((c.toNat:Int)==48)=false:=by simp;omega);clear h48 h4;(go_enter Tryz.func98,Tryz.ntmps98);(go_wp2_with (go_at_call 164;refine(Da l _ hle).mono ?_;rintro e w' ⟨rfl,rfl⟩));(go_loopw [3,4] (fun nv iv wr=>∃(k:Nat),k<=l.length/\iv=.int .i64 k/\nv=.int .i64 (Gk (l.take k))/\wr=w') (fun _ iv _=>l.length-(intOf iv).toNat));(case atStart=>exact⟨0,Nat.zero_le _,rfl,rfl,rfl⟩);case round =>
      obtain⟨k,hk,rfl,rfl,rfl⟩:=hrel;by_cases hlt:k<l.length
      ·have HSU:Hid _:=Ii hlt;have HDI:Hid _:=I6.1 HD.out.1 k hlt;have hV:=HV.out (k:=k) (by omega);(obtain⟨V,hVe⟩:∃V,Gk (l.take k)=V:=⟨_,rfl⟩);rw[hVe] at hV HSU ⊢;(obtain⟨c2,hc2⟩:∃c2,JX l k=c2:=⟨_,rfl⟩);rw[hc2] at HSU HDI;obtain⟨d,hd2,hd9⟩:∃d:Nat,c2.toNat=d+48/\d<=9:=by
        have:=HDI.out;unfold Ct at this;simp at this;exact⟨c2.toNat-48,by omega,by omega⟩
       rw[hd2,Nat.add_sub_cancel] at HSU;(have w1:IntKind.u8.wrap ((d:Int))=(d:Int):=by rw[IntKind.wrap_u8];omega);(have w2:IntKind.i64.wrap ((V:Int)*10)=(V:Int)*10:=by rw[IntKind.wrap_i64];omega);(have w3:IntKind.i64.wrap ((d:Int))=(d:Int):=by rw[IntKind.wrap_i64];omega);(have w4:IntKind.i64.wrap ((V:Int)*10+(d:Int))=(V:Int)*10+(d:Int):=by rw[IntKind.wrap_i64];omega);(have L1:(0:Int)<=(k:Int):=by omega);(have L2:(k:Int)<(l.length:Int):=by omega);clear hVe;(go_wp2_with fail);go_roundw;(case rel=>exact⟨k+1,by omega,by go_num,by rw[HSU.out];go_num,by first|rfl|trivial⟩);case measure=>first|(simp[intOf];done)|(simp[intOf];omega)
      ·(have hkl:k=l.length:=by omega);(have HZ:Hid (Gk (l.take k)=Gk l):=A2 <| by rw[hkl,List.take_length]);(go_wp2_with fail);go_ret;refine⟨?_,rfl⟩;rw[HR.out,<- HZ.out];rfl
  ·(have HR:Hid (AM l=-1):=A2 <| by unfold AM M5;rw[decide_eq_false h6];simp);(have e3:(6:Int)<(l.length:Int):=by omega);clear h6;(go_enter Tryz.func98,Tryz.ntmps98);(go_wp2_with (go_at_call 164;refine(Da l _ hle).mono ?_;rintro e w' ⟨rfl,rfl⟩));go_ret;exact⟨by rw[HR.out];rfl,rfl⟩
set_option maxHeartbeats 1000000 in
theorem AX (l:AS) (w:World) (hle:l.length<=20000):Calls Tryz.prog 97 #[.string (bs l)] w fun e w'=>e=.returned (.bool (C0 l))/\w'=w:=by
 by_cases h0:l.length=0
 ·have HR:Hid (C0 l=false):=A2 <| by unfold C0;simp[h0]
  have e0:((l.length:Int)==0)=true:=by simp[h0]
  clear h0;go_enter Tryz.func97,Tryz.ntmps97
  go_wp2
  go_ret;exact⟨by rw[HR.out];rfl,rfl⟩
 ·have e0:((l.length:Int)==0)=false:=by rw[beq_eq_false_iff_ne];omega
  have g0:(0:Int)<(l.length:Int):=by omega
  by_cases h1:l.length<=16
  ·(have e1:(l.length:Int)<=16:=by omega);(obtain⟨c,hc⟩:∃c,JX l 0=c:=⟨_,rfl⟩);by_cases h2:c.toNat<97
   ·(have HR:Hid (C0 l=false):=A2 <| by unfold C0 Lm;rw[hc,decide_eq_false (show ¬97<=c.toNat by omega)];simp);(have e2:(c.toNat:Int)<97:=by omega);clear h2 h1 h0;(go_enter Tryz.func97,Tryz.ntmps97);(go_wp2);go_ret;exact⟨by rw[HR.out];rfl,rfl⟩
   ·(have e2:(97:Int)<=(c.toNat:Int):=by omega);by_cases h3:122<c.toNat
    ·(have HR:Hid (C0 l=false):=A2 <| by unfold C0 Lm;rw[hc,decide_eq_false (show ¬c.toNat<=122 by omega)];simp);(have e3:(122:Int)<(c.toNat:Int):=by omega);clear h3 h2 h1 h0;(go_enter Tryz.func97,Tryz.ntmps97);(go_wp2);go_ret;exact⟨by rw[HR.out];rfl,rfl⟩
    ·(have HR:Hid (C0 l=!Vh l):=A2 <| by unfold C0 Lm;rw[hc,decide_eq_true (show 97<=c.toNat by omega),decide_eq_true (show c.toNat<=122 by omega),decide_eq_true h1,decide_eq_true (show 0<l.length by omega)];simp);(have e3:(c.toNat:Int)<=122:=by omega);clear h3 h2 h1 h0;(go_enter Tryz.func97,Tryz.ntmps97);(go_wp2);all_goals
      go_ret
      refine⟨?_,rfl⟩
      rw[HR.out]
      unfold Vh
      simp[*]
  ·(have HR:Hid (C0 l=false):=A2 <| by unfold C0;rw[decide_eq_false h1];simp);(have e1:(16:Int)<(l.length:Int):=by omega);clear h1 h0;(go_enter Tryz.func97,Tryz.ntmps97);(go_wp2);go_ret;exact⟨by rw[HR.out];rfl,rfl⟩
theorem GI (k:Nat) (h1:1<=k) (h7:k<=7) (w:World):Calls Tryz.prog 165 #[.int .i64 k] w fun e w'=>e=.returned (.string (bs (Gw k)))/\w'=w:=by
 rcases(show k=1\/k=2\/k=3\/k=4\/k=5\/k=6\/k=7 by omega) with rfl|rfl|rfl|rfl|rfl|rfl|rfl;all_goals as_aux_lemma =>
  go_enter Tryz.func165,Tryz.ntmps165
  go_wp2
  go_ret;exact⟨rfl,rfl⟩
theorem Ey (l:AS) (w:World):Calls Tryz.prog 99 #[.string (bs l)] w fun e w'=>e=.returned (.int .i64 (EH l))/\w'=w:=by
 go_enter Tryz.func99,Tryz.ntmps99
 go_wp2_with fail
 go_loopw [3] (fun iv wr=>∃(k:Nat),1<=k/\k<=8/\iv=.int .i64 k/\Hid (∀j,1<=j->j<k->(Gw j==l)=false)/\wr=w) (fun iv _=>8-(intOf iv).toNat)
 case atStart=>exact⟨1,by omega,by omega,rfl,A2 fun j hj hk=>absurd hk (by omega),rfl⟩
 case round =>
  obtain⟨k,h1,h8,rfl,HO,rfl⟩:=hrel;by_cases hlt:k<=7
  ·have HC:Hid _:=GI k h1 hlt;(have L2:(k:Int)<=7:=by omega);cases hp:Gw k==l
   ·have HN:Hid ((Gw k==l)=false):=hp;(go_wp2_with (go_at_call 165;refine(HC.out _).mono ?_;rintro e w' ⟨rfl,rfl⟩));go_roundw;case rel =>
     refine⟨k+1,by omega,by omega,by go_num,A2 fun j hj hk=>?_,by first|rfl|trivial⟩;by_cases e:j=k
     ·rw[e];exact HN.out
     ·exact HO.out j hj (by omega)
    case measure=>first|(simp[intOf];done)|(simp[intOf];omega)
   ·have HR:Hid (EH l=k):=A2 (Sn h1 hlt hp);(go_wp2_with (go_at_call 165;refine(HC.out _).mono ?_;rintro e w' ⟨rfl,rfl⟩));go_ret;exact⟨by rw[HR.out];rfl,rfl⟩
  ·have HR:Hid (EH l=0):=A2 (PC fun j hj hk=>HO.out j hj (by omega));(have L2:(7:Int)<(k:Int):=by omega);(go_wp2_with fail);go_ret;exact⟨by rw[HR.out];rfl,rfl⟩
end Go.Proofs.YtnmhkgmmpkjjeaaGreat
namespace Go.Proofs.YtnmhkgmmpkjjeaaGreat
set_option linter.unusedVariables false
def F8 (n:AS) (s:St):Bool:=s.kind==1&&s.name==n
def CF:List St->AS->St
 | [],_=>AP
 | s :: r,n=>if F8 n s then s else CF r n
def Fy (all:List St) (s:St):Int:=if s.kind==3 then s.b else (CF all s.name).a
def KX (p a q b:Int):Bool:=decide (p<q+b)&&decide (q<p+a)
def JE (perm need:Int):Bool:=decide (perm/need%2=1)
def DE (all:List St) (n:AS):List St:=all.filter fun e=>e.kind==2&&e.name==n
def Fp (s:St) (e:St):Bool:=e.kind==1&&KX s.b s.a e.b e.a
def Dz (all:List St) (a n:Int) (e:St):Bool:=!(e.kind==1)&&KX a n e.a (Fy all e)
def BP (all:List St) (s:St):Int :=
 if s.kind==0 then 4
 else if s.kind==1 then
  if (CF all s.name).kind==1 then 5
  else if s.a==0||decide (65536<s.b+s.a) then 7
  else if all.any (Fp s) then 8 else 0
 else if s.kind==2&&(CF all s.name).kind==0 then 6
 else if Fy all s==0||decide (4096<s.a+Fy all s) then 7
 else if all.any (Dz all s.a (Fy all s)) then 8
 else if s.kind==3 then 0
 else if !(CF all s.name).extra&&decide (1<(s :: DE all s.name).length) then 9
 else if (CF all s.name).extra&&((s :: DE all s.name).any (fun e=>JE e.perm 2)&&(s :: DE all s.name).any (fun e=>JE e.perm 4)) then 10
 else 0
def B7 (all:List St) (i:Nat):St:=all.getD i AP
theorem Rx {all:List St} {n:AS} {k:Nat} (hk:k<all.length) (h:∀j,j<k->F8 n (B7 all j)=false) (h2:F8 n (B7 all k)=true):CF all n=B7 all k:=by
 induction all generalizing k with
 | nil=>simp at hk
 | cons s r ih =>
  cases k with
  | zero =>
   have h2':F8 n s=true:=h2;unfold CF;rw[if_pos h2'];rfl
  | succ k =>
   have h0:F8 n s=false:=h 0 (by omega);have:=ih (k:=k) (by simpa using hk) (fun j hj=>h (j+1) (by omega)) h2;unfold CF;rw[if_neg (by rw[h0];decide),this];rfl
theorem PS {all:List St} {n:AS} (h:∀j,j<all.length->F8 n (B7 all j)=false):CF all n=AP:=by
 induction all with
 | nil=>rfl
 | cons s r ih =>
  have h0:F8 n s=false:=h 0 (by simp);unfold CF;rw[if_neg (by rw[h0];decide)];exact ih (fun j hj=>h (j+1) (by simpa using hj))
theorem MD {all:List St} {p:St->Bool} {k:Nat} (hk:k<all.length) (h:p (B7 all k)=true):all.any p=true:=by
 rw[List.any_eq_true];refine⟨B7 all k,?_,h⟩;unfold B7;rw[List.getD_eq_getElem?_getD,List.getElem?_eq_getElem hk];exact List.getElem_mem hk
theorem Jr {all:List St} {p:St->Bool} (h:∀j,j<all.length->p (B7 all j)=false):all.any p=false:=by
 rw[List.any_eq_false];intro s hs;obtain⟨j,hj,e⟩:=List.getElem_of_mem hs;have:=h j hj;unfold B7 at this;rw[List.getD_eq_getElem?_getD,List.getElem?_eq_getElem hj,e] at this;simpa using this
structure EX (s:St):Prop where
 a0:0<=s.a
 a1:s.a<1000000
 b0:0<=s.b
 b1:s.b<1000000
 p0:0<=s.perm
 p1:s.perm<=7
theorem Dy:EX AP:=⟨by decide,by decide,by decide,by decide,by decide,by decide⟩
theorem Nn (s:AS):0<=EH s/\EH s<=7:=by
 unfold EH;repeat (first|(split;exact⟨by decide,by decide⟩)|exact⟨by decide,by decide⟩|(split;· exact⟨by decide,by decide⟩))
theorem OG (ts:List AS):EX (CS ts):=by
 unfold CS;split
 ·exact Dy
 split
 ·unfold TI;split
  ·exact Dy
  split
  ·exact Dy
  split
  ·exact Dy
  rename_i h;have:=I0 (ER ts 2);have:=I0 (ER ts 4);exact⟨by show 0<=AM _;omega,by show AM _<_;omega,by show 0<=AM _;omega,by show AM _<_;omega,Int.le_refl 0,(by show (0:Int)<=7;decide)⟩
 split
 ·unfold Tj;split
  ·exact Dy
  split
  ·exact Dy
  rename_i h;have:=I0 (ER ts 1);exact⟨by show 0<=AM _;omega,by show AM _<_;omega,Int.le_refl 0,(by show (0:Int)<1000000;decide),(Nn _).1,(Nn _).2⟩
 split
 ·unfold V5;split
  ·exact Dy
  rename_i h;have:=I0 (ER ts 1);have:=I0 (ER ts 2);exact⟨by show 0<=AM _;omega,by show AM _<_;omega,by show 0<=AM _;omega,by show AM _<_;omega,Int.le_refl 0,(by show (0:Int)<=7;decide)⟩
 ·exact Dy
theorem Hq {all:List St} (h:∀s∈all,EX s) (k:Nat):EX (B7 all k):=by
 unfold B7;rw[List.getD_eq_getElem?_getD];by_cases hk:k<all.length
 ·rw[List.getElem?_eq_getElem hk];exact h _ (List.getElem_mem hk)
 ·rw[List.getElem?_eq_none (by omega)];exact Dy
theorem Hz {all:List St} (h:∀s∈all,EX s) (n:AS):EX (CF all n):=by
 induction all with
 | nil=>exact Dy
 | cons s r ih =>
  unfold CF;split
  ·exact h s (by simp)
  ·exact ih (fun t ht=>h t (by simp[ht]))
theorem JU {all:List St} (h:∀s∈all,EX s) {s:St} (hs:EX s):0<=Fy all s/\Fy all s<1000000:=by
 unfold Fy;split
 ·exact⟨hs.b0,hs.b1⟩
 ·exact⟨(Hz h s.name).a0,(Hz h s.name).a1⟩
end Go.Proofs.YtnmhkgmmpkjjeaaGreat
