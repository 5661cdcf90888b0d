import Derived.Test.YtnmhkgmmpkjjeaaGreatM00
namespace Go.Proofs.YtnmhkgmmpkjjeaaGreat
open ChangeShapes WideShapes ChangeAt RowKit Proofs.Tryz
set_option linter.all false
set_option maxRecDepth 100000
set_option maxHeartbeats 4000000
def NI (s:Az):Bool:=s.all DN&&decide (0<s.length)
def Hx (s:Az):Nat:=s.foldl (fun n c=>n*10+(c.toNat-48)) 0
def Mj (s:Az):Bool:=NI s&&decide (s.length<=6)&&!(decide ((KV s 0).toNat=48)&&decide (1<s.length))
def AV (s:Az):Int:=if Mj s then Hx s else -1
theorem Iu{s:Az}:s.all DN=true↔∀j,j<s.length->DN (KV s j)=true:=by
 rw[List.all_eq_true];constructor
 ·intro h j hj;unfold KV;rw[List.getD_eq_getElem?_getD,List.getElem?_eq_getElem hj];exact h _ (List.getElem_mem hj)
 ·intro h c hc;obtain⟨j,hj,e⟩:=List.getElem_of_mem hc;have:=h j hj;unfold KV at this;rw[List.getD_eq_getElem?_getD,List.getElem?_eq_getElem hj] at this;simpa [e] using this
theorem YT{s:Az}{j:Nat}(hj:j<s.length)(h:DN (KV s j)=false):s.all DN=false:=by
 cases hc:s.all DN
 ·rfl
 ·have:=Iu.1 hc j hj;rw[h] at this;cases this
theorem UV{s:Az}{k:Nat}(h:k<s.length):s.take (k+1)=s.take k++[KV s k]:=by
 rw[List.take_add_one,List.getElem?_eq_getElem h];unfold KV;rw[List.getD_eq_getElem?_getD,List.getElem?_eq_getElem h];rfl
theorem Jj{s:Az}{k:Nat}(h:k<s.length):Hx (s.take (k+1))=Hx (s.take k)*10+((KV s k).toNat-48):=by
 rw[UV h];unfold Hx;rw[List.foldl_append];rfl
theorem Rv{s:Az}(hd:s.all DN=true):∀k,k<=s.length->Hx (s.take k)<10 ^ k
 | 0,_=>by simp[Hx]
 | k+1,h=>by
  rw[Jj (by omega)];have h1:=Rv hd k (by omega);have h2:=Iu.1 hd k (by omega);unfold DN at h2;simp at h2;rw[Nat.pow_succ];omega
theorem Rr{s:Az}(hd:s.all DN=true)(h6:s.length<=6){k:Nat}(hk:k<=s.length):Hx (s.take k)<1000000 :=
 Nat.lt_of_lt_of_le (Rv hd k hk) (Nat.pow_le_pow_right (by omega) (by omega:k<=6))
theorem JJ(s:Az):AV s<1000000:=by
 unfold AV;split
 ·rename_i h;unfold Mj NI at h;simp only[Bool.and_eq_true,decide_eq_true_eq] at h;have:=Rr h.1.1.1 h.1.2 (Nat.le_refl s.length);rw[List.take_length] at this;omega
 ·omega
def Z1 (s:Az):Bool:=s==[111,98,106,101,99,116]||s==[114,101,103,105,111,110]||s==[103,117,97,114,100]||s==[97,116]||s==[115,104,97,114,101,100]||s==[104,117,103,101]
def CR (s:Az):Bool:=decide (0<s.length)&&decide (s.length<=16)&&Ma (KV s 0)&&!Z1 s
def E4 (s:Az):Int:=if s==[114] then 1 else if s==[119] then 2 else if s==[114,119] then 3 else if s==[120] then 4 else if s==[114,120] then 5 else if s==[119,120] then 6 else if s==[114,119,120] then 7 else 0
def J6:Nat->Az
 | 1=>[114]
 | 2=>[119]
 | 3=>[114,119]
 | 4=>[120]
 | 5=>[114,120]
 | 6=>[119,120]
 | 7=>[114,119,120]
 | _=>[]
theorem UD{k:Nat}{s:Az}(h1:1<=k)(h7:k<=7)(h:(J6 k==s)=true):E4 s=k:=by
 have e:J6 k=s:=by simpa using h
 subst e;rcases(show k=1\/k=2\/k=3\/k=4\/k=5\/k=6\/k=7 by omega) with rfl|rfl|rfl|rfl|rfl|rfl|rfl<;>decide
theorem QD{s:Az}(h:∀j,1<=j->j<=7->(J6 j==s)=false):E4 s=0:=by
 have f:∀j,1<=j->j<=7->(s==J6 j)=false:=fun j h1 h2=>by rw[BEq.comm];exact h j h1 h2
 have f1:=f 1 (by omega) (by omega);have f2:=f 2 (by omega) (by omega);have f3:=f 3 (by omega) (by omega);have f4:=f 4 (by omega) (by omega);have f5:=f 5 (by omega) (by omega);have f6:=f 6 (by omega) (by omega);have f7:=f 7 (by omega) (by omega);simp only[J6] at f1 f2 f3 f4 f5 f6 f7;unfold E4;rw[f1,f2,f3,f4,f5,f6,f7];rfl
structure St where
 kind:Int
 name:Az
 a:Int
 b:Int
 perm:Int
 extra:Bool
def Aa:St:=⟨0,[],0,0,0,false⟩
def El (ts:List Az) (i:Nat):Az:=ts.getD i []
def TG (ts:List Az):St :=
 if !(ts.length==5||ts.length==6)||!CR (El ts 1)||!(El ts 3==[97,116]) then Aa
 else if ts.length==6&&!(El ts 5==[115,104,97,114,101,100]) then Aa
 else if AV (El ts 2)<0\/AV (El ts 4)<0 then Aa
 else ⟨1,El ts 1,AV (El ts 2),AV (El ts 4),0,ts.length==6⟩
def Ta (ts:List Az):St :=
 if !(ts.length==4||ts.length==5)||!CR (El ts 2)||(ts.length==5&&!(El ts 4==[104,117,103,101])) then Aa
 else if AV (El ts 1)<0\/E4 (El ts 3)=0 then Aa
 else ⟨2,El ts 2,AV (El ts 1),0,E4 (El ts 3),ts.length==5⟩
def Uo (ts:List Az):St :=
 if AV (El ts 1)<0\/AV (El ts 2)<0 then Aa else ⟨3,[],AV (El ts 1),AV (El ts 2),0,false⟩
def CV (ts:List Az):St :=
 if ts.length<3 then Aa
 else if El ts 0==[111,98,106,101,99,116] then TG ts
 else if El ts 0==[114,101,103,105,111,110] then Ta ts
 else if El ts 0==[103,117,97,114,100]&&ts.length==3 then Uo ts
 else Aa
section
attribute [local go_sem ↓] wp_at_zero wp_at_succ
attribute [local go_sem] DU FG FM H5 FE Du
theorem Dn(l:Az)(w:World)(hle:l.length<=20000):Calls prog 164 #[.string (bs l)] w fun e w'=>e=.returned (.bool (NI l))/\w'=w:=by
 go_enter func164,ntmps164
 go_wp2_with fail
 go_loopw [3] (fun iv wr=>∃(k:Nat),k<=l.length/\iv=.int .i64 k/\Hid (∀j,j<k->DN (KV l j)=true)/\wr=w) (fun iv _=>l.length-(intOf iv).toNat)
 case atStart=>exact⟨0,Nat.zero_le _,rfl,A6 fun j hj=>absurd hj (by omega),rfl⟩
 case round =>
  obtain⟨k,hk,rfl,HO,rfl⟩:=hrel;by_cases hlt:k<l.length
  ·(have HN:Hid (DN (KV l k)=false->NI l=false):=A6 fun h=>by unfold NI;rw[YT hlt h];rfl);have HY:Hid (DN (KV l k)=true->∀j,j<k+1->DN (KV l j)=true):=A6 fun h j hj=>by
    by_cases e:j=k
    ·rw[e];exact h
    ·exact HO.out j (by omega)
   (obtain⟨c,hc⟩:∃c,KV l k=c:=⟨_,rfl⟩);rw[hc] at HN HY;(have L1:(0:Int)<=(k:Int):=by omega);(have L2:(k:Int)<(l.length:Int):=by omega);by_cases h1:c.toNat<48
   ·have HR:Hid _:=HN.out (by unfold DN;simp;omega);(have e1:(c.toNat:Int)<48:=by omega);clear h1;(go_wp2_with fail);go_ret;exact⟨by rw[HR.out];rfl,rfl⟩
   ·by_cases h2:57<c.toNat
    ·have HR:Hid _:=HN.out (by unfold DN;simp;omega);(have e1:(48:Int)<=c.toNat:=by omega);(have e2:(57:Int)<c.toNat:=by omega);clear h1 h2;(go_wp2_with fail);go_ret;exact⟨by rw[HR.out];rfl,rfl⟩
    ·have HR:Hid _:=HY.out (by unfold DN;simp;omega);(have e1:(48:Int)<=c.toNat:=by omega);(have e2:(c.toNat:Int)<=57:=by omega);clear h1 h2;(go_wp2_with fail);go_roundw;(case rel=>exact⟨k+1,by omega,by go_num,HR,by first|rfl|trivial⟩);case measure=>first|(simp[intOf];done)|(simp[intOf];omega)
  ·have HE:Hid (NI l=decide (0<l.length)):=A6 <| by
    unfold NI;rw[Iu.2 (fun j hj=>HO.out j (by omega))];rfl
   (go_wp2_with fail);go_ret;refine⟨?_,rfl⟩;rw[HE.out];simp
theorem Ds(l:Az)(w:World)(hle:l.length<=20000):Calls prog 98 #[.string (bs l)] w fun e w'=>e=.returned (.int .i64 (AV l))/\w'=w:=by
 cases hd:NI l
 ·have HR:Hid (AV l=-1):=A6 <| by unfold AV Mj;rw[hd];rfl
  go_enter func98,ntmps98
  go_wp2_with (go_at_call 164;refine(Dn l _ hle).mono ?_;rintro e w' ⟨rfl,rfl⟩)
  go_ret;exact⟨by rw[HR.out];rfl,rfl⟩
 ·have HD:Hid (l.all DN=true/\0<l.length):=A6 <| by unfold NI at hd;simpa using hd
  have h0:0<l.length:=HD.out.2;have h0':(0:Int)<(l.length:Int):=by omega
  by_cases h6:l.length<=6
  ·(obtain⟨c,hc⟩:∃c,KV l 0=c:=⟨_,rfl⟩);by_cases h48:c.toNat=48/\1<l.length
   ·(have HR:Hid (AV l=-1):=A6 <| by unfold AV Mj;rw[hd,hc];simp[h48]);(have e1:((c.toNat:Int)==48)=true:=by simp[h48.1]);(have e2:(1:Int)<(l.length:Int):=by omega);(have e3:(l.length:Int)<=6:=by omega);clear h48 h6;(go_enter func98,ntmps98);(go_wp2_with (go_at_call 164;refine(Dn l _ hle).mono ?_;rintro e w' ⟨rfl,rfl⟩));go_ret;exact⟨by rw[HR.out];rfl,rfl⟩
   ·have HR:Hid (AV l=Hx l):=A6 <| by
     unfold AV;rw[if_pos (by unfold Mj;rw[hd,hc];simp;refine⟨h6,by omega⟩)]
    (have HV:Hid _:=fun {k:Nat} (hk:k<=l.length)=>Rr HD.out.1 h6 hk);(have e3:(l.length:Int)<=6:=by omega);by_cases h4:c.toNat=48
    ·(have e1:((c.toNat:Int)==48)=true:=by simp[h4]);(have e2:(l.length:Int)<=1:=by omega);clear h48 h4;(go_enter func98,ntmps98);(go_wp2_with (go_at_call 164;refine(Dn l _ hle).mono ?_;rintro e w' ⟨rfl,rfl⟩));(go_loopw [3,4] (fun nv iv wr=>∃(k:Nat),k<=l.length/\iv=.int .i64 k/\nv=.int .i64 (Hx (l.take k))/\wr=w') (fun _ iv _=>l.length-(intOf iv).toNat));(case atStart=>exact⟨0,Nat.zero_le _,rfl,rfl,rfl⟩);case round =>
      obtain⟨k,hk,rfl,rfl,rfl⟩:=hrel;by_cases hlt:k<l.length
      ·have HSU:Hid _:=Jj hlt;have HDI:Hid _:=Iu.1 HD.out.1 k hlt;have hV:=HV.out (k:=k) (by omega);(obtain⟨V,hVe⟩:∃V,Hx (l.take k)=V:=⟨_,rfl⟩);rw[hVe] at hV HSU ⊢;(obtain⟨c2,hc2⟩:∃c2,KV l k=c2:=⟨_,rfl⟩);rw[hc2] at HSU HDI;obtain⟨d,hd2,hd9⟩:∃d:Nat,c2.toNat=d+48/\d<=9:=by
        have:=HDI.out;unfold DN at this;simp at this;exact⟨c2.toNat-48,by omega,by omega⟩
       rw[hd2,Nat.add_sub_cancel] at HSU;(have w1:IntKind.u8.wrap ((d:Int))=(d:Int):=by rw[IntKind.wrap_u8];omega);have w2:=AR ((V:Int)*10);have w3:=AR ((d:Int));have w4:=AR ((V:Int)*10+(d:Int));(have L1:(0:Int)<=(k:Int):=by omega);(have L2:(k:Int)<(l.length:Int):=by omega);clear hVe;(go_wp2_with fail);go_roundw;(case rel=>exact⟨k+1,by omega,by go_num,by rw[HSU.out];go_num,by first|rfl|trivial⟩);case measure=>first|(simp[intOf];done)|(simp[intOf];omega)
      ·(have hkl:k=l.length:=by omega);(have HZ:Hid (Hx (l.take k)=Hx l):=A6 <| by rw[hkl,List.take_length]);(go_wp2_with fail);go_ret;refine⟨?_,rfl⟩;rw[HR.out,<- HZ.out];rfl
    ·(have e1:((c.toNat:Int)==48)=false:=by simp;omega);clear h48 h4;(go_enter func98,ntmps98);(go_wp2_with (go_at_call 164;refine(Dn l _ hle).mono ?_;rintro e w' ⟨rfl,rfl⟩));(go_loopw [3,4] (fun nv iv wr=>∃(k:Nat),k<=l.length/\iv=.int .i64 k/\nv=.int .i64 (Hx (l.take k))/\wr=w') (fun _ iv _=>l.length-(intOf iv).toNat));(case atStart=>exact⟨0,Nat.zero_le _,rfl,rfl,rfl⟩);case round =>
      obtain⟨k,hk,rfl,rfl,rfl⟩:=hrel;by_cases hlt:k<l.length
      ·have HSU:Hid _:=Jj hlt;have HDI:Hid _:=Iu.1 HD.out.1 k hlt;have hV:=HV.out (k:=k) (by omega);(obtain⟨V,hVe⟩:∃V,Hx (l.take k)=V:=⟨_,rfl⟩);rw[hVe] at hV HSU ⊢;(obtain⟨c2,hc2⟩:∃c2,KV l k=c2:=⟨_,rfl⟩);rw[hc2] at HSU HDI;obtain⟨d,hd2,hd9⟩:∃d:Nat,c2.toNat=d+48/\d<=9:=by
        have:=HDI.out;unfold DN at this;simp at this;exact⟨c2.toNat-48,by omega,by omega⟩
       rw[hd2,Nat.add_sub_cancel] at HSU;(have w1:IntKind.u8.wrap ((d:Int))=(d:Int):=by rw[IntKind.wrap_u8];omega);have w2:=AR ((V:Int)*10);have w3:=AR ((d:Int));have w4:=AR ((V:Int)*10+(d:Int));(have L1:(0:Int)<=(k:Int):=by omega);(have L2:(k:Int)<(l.length:Int):=by omega);clear hVe;(go_wp2_with fail);go_roundw;(case rel=>exact⟨k+1,by omega,by go_num,by rw[HSU.out];go_num,by first|rfl|trivial⟩);case measure=>first|(simp[intOf];done)|(simp[intOf];omega)
      ·(have hkl:k=l.length:=by omega);(have HZ:Hid (Hx (l.take k)=Hx l):=A6 <| by rw[hkl,List.take_length]);(go_wp2_with fail);go_ret;refine⟨?_,rfl⟩;rw[HR.out,<- HZ.out];rfl
  ·(have HR:Hid (AV l=-1):=A6 <| by unfold AV Mj;rw[decide_eq_false h6];simp);(have e3:(6:Int)<(l.length:Int):=by omega);clear h6;(go_enter func98,ntmps98);(go_wp2_with (go_at_call 164;refine(Dn l _ hle).mono ?_;rintro e w' ⟨rfl,rfl⟩));go_ret;exact⟨by rw[HR.out];rfl,rfl⟩
theorem Am(l:Az)(w:World)(hle:l.length<=20000):Calls prog 97 #[.string (bs l)] w fun e w'=>e=.returned (.bool (CR l))/\w'=w:=by
 by_cases h0:l.length=0
 ·have HR:Hid (CR l=false):=A6 <| by unfold CR;simp[h0]
  have e0:((l.length:Int)==0)=true:=by simp[h0]
  clear h0;go_enter func97,ntmps97
  go_wp2
  go_ret;exact⟨by rw[HR.out];rfl,rfl⟩
 ·have e0:((l.length:Int)==0)=false:=by rw[beq_eq_false_iff_ne];omega
  have g0:(0:Int)<(l.length:Int):=by omega
  by_cases h1:l.length<=16
  ·(have e1:(l.length:Int)<=16:=by omega);(obtain⟨c,hc⟩:∃c,KV l 0=c:=⟨_,rfl⟩);by_cases h2:c.toNat<97
   ·(have HR:Hid (CR l=false):=A6 <| by unfold CR Ma;rw[hc,decide_eq_false (show ¬97<=c.toNat by omega)];simp);(have e2:(c.toNat:Int)<97:=by omega);clear h2 h1 h0;(go_enter func97,ntmps97);(go_wp2);go_ret;exact⟨by rw[HR.out];rfl,rfl⟩
   ·(have e2:(97:Int)<=(c.toNat:Int):=by omega);by_cases h3:122<c.toNat
    ·(have HR:Hid (CR l=false):=A6 <| by unfold CR Ma;rw[hc,decide_eq_false (show ¬c.toNat<=122 by omega)];simp);(have e3:(122:Int)<(c.toNat:Int):=by omega);clear h3 h2 h1 h0;(go_enter func97,ntmps97);(go_wp2);go_ret;exact⟨by rw[HR.out];rfl,rfl⟩
    ·(have HR:Hid (CR l=!Z1 l):=A6 <| by unfold CR Ma;rw[hc,decide_eq_true (show 97<=c.toNat by omega),decide_eq_true (show c.toNat<=122 by omega),decide_eq_true h1,decide_eq_true (show 0<l.length by omega)];simp);(have e3:(c.toNat:Int)<=122:=by omega);clear h3 h2 h1 h0;(go_enter func97,ntmps97);(go_wp2);all_goals
      go_ret
      refine⟨?_,rfl⟩
      rw[HR.out]
      unfold Z1
      simp[*]
  ·(have HR:Hid (CR l=false):=A6 <| by unfold CR;rw[decide_eq_false h1];simp);(have e1:(16:Int)<(l.length:Int):=by omega);clear h1 h0;(go_enter func97,ntmps97);(go_wp2);go_ret;exact⟨by rw[HR.out];rfl,rfl⟩
theorem Gu(k:Nat)(h1:1<=k)(h7:k<=7)(w:World):Calls prog 165 #[.int .i64 k] w fun e w'=>e=.returned (.string (bs (J6 k)))/\w'=w:=by
 rcases(show k=1\/k=2\/k=3\/k=4\/k=5\/k=6\/k=7 by omega) with rfl|rfl|rfl|rfl|rfl|rfl|rfl;all_goals as_aux_lemma =>
  go_enter func165,ntmps165
  go_wp2
  go_ret;exact⟨rfl,rfl⟩
theorem F9(l:Az)(w:World):Calls prog 99 #[.string (bs l)] w fun e w'=>e=.returned (.int .i64 (E4 l))/\w'=w:=by
 go_enter func99,ntmps99
 go_wp2_with fail
 go_loopw [3] (fun iv wr=>∃(k:Nat),1<=k/\k<=8/\iv=.int .i64 k/\Hid (∀j,1<=j->j<k->(J6 j==l)=false)/\wr=w) (fun iv _=>8-(intOf iv).toNat)
 case atStart=>exact⟨1,by omega,by omega,rfl,A6 fun j hj hk=>absurd hk (by omega),rfl⟩
 case round =>
  obtain⟨k,h1,h8,rfl,HO,rfl⟩:=hrel;by_cases hlt:k<=7
  ·have HC:Hid _:=Gu k h1 hlt;(have L2:(k:Int)<=7:=by omega);cases hp:J6 k==l
   ·have HN:=A5 hp;(go_wp2_with (go_at_call 165;refine(HC.out _).mono ?_;rintro e w' ⟨rfl,rfl⟩));go_roundw;case rel =>
     refine⟨k+1,by omega,by omega,by go_num,A6 fun j hj hk=>?_,by first|rfl|trivial⟩;by_cases e:j=k
     ·rw[e];exact HN.out
     ·exact HO.out j hj (by omega)
    case measure=>first|(simp[intOf];done)|(simp[intOf];omega)
   ·have HR:Hid (E4 l=k):=A6 (UD h1 hlt hp);(go_wp2_with (go_at_call 165;refine(HC.out _).mono ?_;rintro e w' ⟨rfl,rfl⟩));go_ret;exact⟨by rw[HR.out];rfl,rfl⟩
  ·have HR:Hid (E4 l=0):=A6 (QD fun j hj hk=>HO.out j hj (by omega));(go_wp2_with fail);go_ret;exact⟨by rw[HR.out];rfl,rfl⟩
end
def FC (n:Az) (s:St):Bool:=s.kind==1&&s.name==n
def By:List St->Az->St
 | [],_=>Aa
 | s :: r,n=>if FC n s then s else By r n
def GX (all:List St) (s:St):Int:=if s.kind==3 then s.b else (By all s.name).a
def LM (p a q b:Int):Bool:=decide (p<q+b)&&decide (q<p+a)
def KJ (perm need:Int):Bool:=decide (perm/need%2=1)
def DY (all:List St) (n:Az):List St:=all.filter fun e=>e.kind==2&&e.name==n
def G7 (s:St) (e:St):Bool:=e.kind==1&&LM s.b s.a e.b e.a
def Eh (all:List St) (a n:Int) (e:St):Bool:=!(e.kind==1)&&LM a n e.a (GX all e)
def Bu (all:List St) (s:St):Int :=
 if s.kind==0 then 4
 else if s.kind==1 then
  if (By all s.name).kind==1 then 5
  else if s.a==0||decide (65536<s.b+s.a) then 7
  else if all.any (G7 s) then 8 else 0
 else if s.kind==2&&(By all s.name).kind==0 then 6
 else if GX all s==0||decide (4096<s.a+GX all s) then 7
 else if all.any (Eh all s.a (GX all s)) then 8
 else if s.kind==3 then 0
 else if !(By all s.name).extra&&decide (1<(s :: DY all s.name).length) then 9
 else if (By all s.name).extra&&((s :: DY all s.name).any (fun e=>KJ e.perm 2)&&(s :: DY all s.name).any (fun e=>KJ e.perm 4)) then 10
 else 0
def BN (all:List St) (i:Nat):St:=all.getD i Aa
theorem TK{all:List St}{n:Az}{k:Nat}(hk:k<all.length)(h:∀j,j<k->FC n (BN all j)=false)(h2:FC n (BN all k)=true):By all n=BN all k:=by
 induction all generalizing k with
 | nil=>simp at hk
 | cons s r ih =>
  cases k with
  | zero =>
   have h2':FC n s=true:=h2;unfold By;rw[if_pos h2'];rfl
  | succ k =>
   have h0:FC n s=false:=h 0 (by omega);have:=ih (k:=k) (by simpa using hk) (fun j hj=>h (j+1) (by omega)) h2;unfold By;rw[if_neg (by rw[h0];decide),this];rfl
theorem RB{all:List St}{n:Az}(h:∀j,j<all.length->FC n (BN all j)=false):By all n=Aa:=by
 induction all with
 | nil=>rfl
 | cons s r ih =>
  have h0:FC n s=false:=h 0 (by simp);unfold By;rw[if_neg (by rw[h0];decide)];exact ih (fun j hj=>h (j+1) (by simpa using hj))
theorem Nb{all:List St}{p:St->Bool}{k:Nat}(hk:k<all.length)(h:p (BN all k)=true):all.any p=true:=by
 rw[List.any_eq_true];refine⟨BN all k,?_,h⟩;unfold BN;rw[List.getD_eq_getElem?_getD,List.getElem?_eq_getElem hk];exact List.getElem_mem hk
theorem Kg{all:List St}{p:St->Bool}(h:∀j,j<all.length->p (BN all j)=false):all.any p=false:=by
 rw[List.any_eq_false];intro s hs;obtain⟨j,hj,e⟩:=List.getElem_of_mem hs;have:=h j hj;unfold BN at this;rw[List.getD_eq_getElem?_getD,List.getElem?_eq_getElem hj,e] at this;simpa using this
structure Ev (s:St):Prop where
 a0:0<=s.a
 a1:s.a<1000000
 b0:0<=s.b
 b1:s.b<1000000
 p0:0<=s.perm
 p1:s.perm<=7
theorem Ea:Ev Aa:=⟨by decide,by decide,by decide,by decide,by decide,by decide⟩
theorem Kl(s:Az):0<=E4 s/\E4 s<=7:=by
 unfold E4;repeat (first|(split;exact⟨by decide,by decide⟩)|exact⟨by decide,by decide⟩|(split;· exact⟨by decide,by decide⟩))
theorem PJ(ts:List Az):Ev (CV ts):=by
 unfold CV;split
 ·exact Ea
 split
 ·unfold TG;split
  ·exact Ea
  split
  ·exact Ea
  split
  ·exact Ea
  rename_i h;have:=JJ (El ts 2);have:=JJ (El ts 4);exact⟨by show 0<=AV _;omega,by show AV _<_;omega,by show 0<=AV _;omega,by show AV _<_;omega,Int.le_refl 0,(by show (0:Int)<=7;decide)⟩
 split
 ·unfold Ta;split
  ·exact Ea
  split
  ·exact Ea
  rename_i h;have:=JJ (El ts 1);exact⟨by show 0<=AV _;omega,by show AV _<_;omega,Int.le_refl 0,(by show (0:Int)<1000000;decide),(Kl _).1,(Kl _).2⟩
 split
 ·unfold Uo;split
  ·exact Ea
  rename_i h;have:=JJ (El ts 1);have:=JJ (El ts 2);exact⟨by show 0<=AV _;omega,by show AV _<_;omega,by show 0<=AV _;omega,by show AV _<_;omega,Int.le_refl 0,(by show (0:Int)<=7;decide)⟩
 ·exact Ea
theorem Iq{all:List St}(h:∀s∈all,Ev s)(k:Nat):Ev (BN all k):=by
 unfold BN;rw[List.getD_eq_getElem?_getD];by_cases hk:k<all.length
 ·rw[List.getElem?_eq_getElem hk];exact h _ (List.getElem_mem hk)
 ·rw[List.getElem?_eq_none (by omega)];exact Ea
theorem J0{all:List St}(h:∀s∈all,Ev s)(n:Az):Ev (By all n):=by
 induction all with
 | nil=>exact Ea
 | cons s r ih =>
  unfold By;split
  ·exact h s (by simp)
  ·exact ih (fun t ht=>h t (by simp[ht]))
theorem KU{all:List St}(h:∀s∈all,Ev s){s:St}(hs:Ev s):0<=GX all s/\GX all s<1000000:=by
 unfold GX;split
 ·exact⟨hs.b0,hs.b1⟩
 ·exact⟨(J0 h s.name).a0,(J0 h s.name).a1⟩
end Go.Proofs.YtnmhkgmmpkjjeaaGreat
