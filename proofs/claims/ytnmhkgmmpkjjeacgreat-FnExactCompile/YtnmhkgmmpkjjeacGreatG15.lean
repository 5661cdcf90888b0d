import Derived.Test.YtnmhkgmmpkjjeacGreatG00
namespace Go.Proofs.YtnmhkgmmpkjjeacGreat
set_option linter.unusedVariables false
def digL (s:Txt):Bool:=s.all isDig && decide (0 < s.length)
def valL (s:Txt):Nat:=s.foldl (fun n c=>n * 10+(c.toNat - 48)) 0
def numOk (s:Txt):Bool:=digL s && decide (s.length<=6) && !(decide ((cAt s 0).toNat=48) && decide (1 < s.length))
def numL (s:Txt):Int:=if numOk s then valL s else -1
theorem all_cAt {s:Txt}:s.all isDig=true ↔ ∀ j,j < s.length->isDig (cAt s j)=true:=by
 rw [List.all_eq_true]
 constructor
 ·intro h j hj
  unfold cAt
  rw [List.getD_eq_getElem?_getD,List.getElem?_eq_getElem hj]
  exact h _ (List.getElem_mem hj)
 ·intro h c hc
  obtain ⟨j,hj,e⟩:=List.getElem_of_mem hc
  have:=h j hj
  unfold cAt at this
  rw [List.getD_eq_getElem?_getD,List.getElem?_eq_getElem hj] at this
  simpa [e] using this
theorem all_no {s:Txt} {j:Nat} (hj:j < s.length) (h:isDig (cAt s j)=false):s.all isDig=false:=by
 cases hc:s.all isDig
 ·rfl
 ·have:=all_cAt.1 hc j hj
  rw [h] at this; cases this
theorem take_cAt {s:Txt} {k:Nat} (h:k < s.length):s.take (k+1)=s.take k ++ [cAt s k]:=by
 rw [List.take_add_one,List.getElem?_eq_getElem h]
 unfold cAt
 rw [List.getD_eq_getElem?_getD,List.getElem?_eq_getElem h]
 rfl
theorem valL_succ {s:Txt} {k:Nat} (h:k < s.length):valL (s.take (k+1))=valL (s.take k) * 10+((cAt s k).toNat - 48):=by
 rw [take_cAt h]; unfold valL; rw [List.foldl_append]; rfl
theorem valL_lt {s:Txt} (hd:s.all isDig=true):∀ k,k<=s.length->valL (s.take k) < 10 ^ k
 | 0,_=>by simp [valL]
 | k+1,h=>by
  rw [valL_succ (by omega)]
  have h1:=valL_lt hd k (by omega)
  have h2:=all_cAt.1 hd k (by omega)
  unfold isDig at h2
  simp at h2
  rw [Nat.pow_succ]
  omega
theorem valL_le {s:Txt} (hd:s.all isDig=true) (h6:s.length<=6) {k:Nat} (hk:k<=s.length):valL (s.take k) < 1000000 :=
 Nat.lt_of_lt_of_le (valL_lt hd k hk) (Nat.pow_le_pow_right (by omega) (by omega:k<=6))
theorem numL_lt (s:Txt):numL s < 1000000:=by
 unfold numL
 split
 ·rename_i h
  unfold numOk digL at h
  simp only [Bool.and_eq_true,decide_eq_true_eq] at h
  have:=valL_le h.1.1.1 h.1.2 (Nat.le_refl s.length)
  rw [List.take_length] at this
  omega
 ·omega
def kwObject:Txt:=[111,98,106,101,99,116]
def kwRegion:Txt:=[114,101,103,105,111,110]
def kwGuard:Txt:=[103,117,97,114,100]
def kwAt:Txt:=[97,116]
def kwShared:Txt:=[115,104,97,114,101,100]
def kwHuge:Txt:=[104,117,103,101]
def isKw (s:Txt):Bool:=s == [111,98,106,101,99,116] || s == [114,101,103,105,111,110] || s == [103,117,97,114,100] || s == [97,116] || s == [115,104,97,114,101,100] || s == [104,117,103,101]
def nameL (s:Txt):Bool:=decide (0 < s.length) && decide (s.length<=16) && isLow (cAt s 0) && !isKw s
def permL (s:Txt):Int:=if s == [114] then 1 else if s == [119] then 2 else if s == [114,119] then 3 else if s == [120] then 4 else if s == [114,120] then 5 else if s == [119,120] then 6 else if s == [114,119,120] then 7 else 0
def ptxt:Nat->Txt
 | 1=>[114]
 | 2=>[119]
 | 3=>[114,119]
 | 4=>[120]
 | 5=>[114,120]
 | 6=>[119,120]
 | 7=>[114,119,120]
 | _=>[]
theorem permL_eq {k:Nat} {s:Txt} (h1:1<=k) (h7:k<=7) (h:(ptxt k == s)=true):permL s=k:=by
 have e:ptxt k=s:=by simpa using h
 subst e
 rcases (show k=1\/k=2\/k=3\/k=4\/k=5\/k=6\/k=7 by omega) with rfl | rfl | rfl | rfl | rfl | rfl | rfl <;> decide
theorem permL_none {s:Txt} (h:∀ j,1<=j->j<=7->(ptxt j == s)=false):permL s=0:=by
 have f:∀ j,1<=j->j<=7->(s == ptxt j)=false:=fun j h1 h2=>by rw [BEq.comm]; exact h j h1 h2
 have f1:=f 1 (by omega) (by omega); have f2:=f 2 (by omega) (by omega); have f3:=f 3 (by omega) (by omega); have f4:=f 4 (by omega) (by omega)
 have f5:=f 5 (by omega) (by omega); have f6:=f 6 (by omega) (by omega); have f7:=f 7 (by omega) (by omega)
 simp only [ptxt] at f1 f2 f3 f4 f5 f6 f7
 unfold permL
 rw [f1,f2,f3,f4,f5,f6,f7]
 rfl
structure St where
 kind:Int
 name:Txt
 a:Int
 b:Int
 perm:Int
 extra:Bool
def noSt:St:=⟨0,[],0,0,0,false⟩
def tAt (ts:List Txt) (i:Nat):Txt:=ts.getD i []
def objL (ts:List Txt):St :=
 if !(ts.length == 5 || ts.length == 6) || !nameL (tAt ts 1) || !(tAt ts 3 == [97,116]) then noSt
 else if ts.length == 6 && !(tAt ts 5 == [115,104,97,114,101,100]) then noSt
 else if numL (tAt ts 2) < 0\/numL (tAt ts 4) < 0 then noSt
 else ⟨1,tAt ts 1,numL (tAt ts 2),numL (tAt ts 4),0,ts.length == 6⟩
def regL (ts:List Txt):St :=
 if !(ts.length == 4 || ts.length == 5) || !nameL (tAt ts 2) || (ts.length == 5 && !(tAt ts 4 == [104,117,103,101])) then noSt
 else if numL (tAt ts 1) < 0\/permL (tAt ts 3)=0 then noSt
 else ⟨2,tAt ts 2,numL (tAt ts 1),0,permL (tAt ts 3),ts.length == 5⟩
def grdL (ts:List Txt):St :=
 if numL (tAt ts 1) < 0\/numL (tAt ts 2) < 0 then noSt else ⟨3,[],numL (tAt ts 1),numL (tAt ts 2),0,false⟩
def stmtL (ts:List Txt):St :=
 if ts.length < 3 then noSt
 else if tAt ts 0 == [111,98,106,101,99,116] then objL ts
 else if tAt ts 0 == [114,101,103,105,111,110] then regL ts
 else if tAt ts 0 == [103,117,97,114,100] && ts.length == 3 then grdL ts
 else noSt
end Go.Proofs.YtnmhkgmmpkjjeacGreat
namespace Go.Proofs.YtnmhkgmmpkjjeacGreat
open Go.ChangeShapes Go.WideShapes Go.ChangeAt Go.RowKit
set_option linter.unusedVariables false
set_option maxRecDepth 100000
attribute [local go_sem ↓] Go.wp_at_zero Go.wp_at_succ
attribute [local go_sem] bs_size bs_cAt bs_app bs_mk bs_cut bs_list
theorem l4Digits_any (l:Txt) (w:World) (hle:l.length<=20000):Calls Tryz.prog 130 #[.string (bs l)] w fun e w'=>e=.returned (.bool (digL l))/\w'=w:=by
 go_enter Tryz.func130,Tryz.ntmps130
 go_wp2_with fail
 go_loopw [3] (fun iv wr=>∃ (k:Nat),k<=l.length/\iv=.int .i64 k/\Hid (∀ j,j < k->isDig (cAt l j)=true)/\wr=w) (fun iv _=>l.length - (intOf iv).toNat)
 case atStart=>exact ⟨0,Nat.zero_le _,rfl,hidP fun j hj=>absurd hj (by omega),rfl⟩
 case round =>
  obtain ⟨k,hk,rfl,HO,rfl⟩:=hrel
  by_cases hlt:k < l.length
  ·have HN:Hid (isDig (cAt l k)=false->digL l=false):=hidP fun h=>by unfold digL; rw [all_no hlt h]; rfl
   have HY:Hid (isDig (cAt l k)=true->∀ j,j < k+1->isDig (cAt l j)=true):=hidP fun h j hj=>by
    by_cases e:j=k
    ·rw [e]; exact h
    ·exact HO.out j (by omega)
   obtain ⟨c,hc⟩:∃ c,cAt l k=c:=⟨_,rfl⟩
   rw [hc] at HN HY
   have L1:(0:Int)<=(k:Int):=by omega
   have L2:(k:Int) < (l.length:Int):=by omega
   by_cases h1:c.toNat < 48
   ·have HR:Hid _:=HN.out (by unfold isDig; simp; omega)
    have e1:(c.toNat:Int) < 48:=by omega
    clear h1
    go_wp2_with fail
    go_ret
    exact ⟨by rw [HR.out]; rfl,rfl⟩
   ·by_cases h2:57 < c.toNat
    ·have HR:Hid _:=HN.out (by unfold isDig; simp; omega)
     have e1:(48:Int)<=c.toNat:=by omega
     have e2:(57:Int) < c.toNat:=by omega
     clear h1 h2
     go_wp2_with fail
     go_ret
     exact ⟨by rw [HR.out]; rfl,rfl⟩
    ·have HR:Hid _:=HY.out (by unfold isDig; simp; omega)
     have e1:(48:Int)<=c.toNat:=by omega
     have e2:(c.toNat:Int)<=57:=by omega
     clear h1 h2
     go_wp2_with fail
     go_roundw
     case rel=>exact ⟨k+1,by omega,by go_num,HR,by first | rfl | trivial⟩
     case measure=>first | (simp [intOf]; done) | (simp [intOf]; omega)
  ·have HE:Hid (digL l=decide (0 < l.length)):=hidP <| by
    unfold digL; rw [all_cAt.2 (fun j hj=>HO.out j (by omega))]; rfl
   go_wp2_with fail
   go_ret
   refine ⟨?_,rfl⟩
   rw [HE.out]
   simp
set_option maxHeartbeats 1000000 in
theorem l4Number_any (l:Txt) (w:World) (hle:l.length<=20000):Calls Tryz.prog 112 #[.string (bs l)] w fun e w'=>e=.returned (.int .i64 (numL l))/\w'=w:=by
 cases hd:digL l
 ·have HR:Hid (numL l=-1):=hidP <| by unfold numL numOk; rw [hd]; rfl
  go_enter Tryz.func112,Tryz.ntmps112
  go_wp2_with (go_at_call 130; refine (l4Digits_any l _ hle).mono ?_; rintro e w' ⟨rfl,rfl⟩)
  go_ret
  exact ⟨by rw [HR.out]; rfl,rfl⟩
 ·have HD:Hid (l.all isDig=true/\0 < l.length):=hidP <| by unfold digL at hd; simpa using hd
  have h0:0 < l.length:=HD.out.2
  have h0':(0:Int) < (l.length:Int):=by omega
  by_cases h6:l.length<=6
  ·obtain ⟨c,hc⟩:∃ c,cAt l 0=c:=⟨_,rfl⟩
   by_cases h48:c.toNat=48/\1 < l.length
   ·have HR:Hid (numL l=-1):=hidP <| by unfold numL numOk; rw [hd,hc]; simp [h48]
    have e1:((c.toNat:Int) == 48)=true:=by simp [h48.1]
    have e2:(1:Int) < (l.length:Int):=by omega
    have e3:(l.length:Int)<=6:=by omega
    clear h48 h6
    go_enter Tryz.func112,Tryz.ntmps112
    go_wp2_with (go_at_call 130; refine (l4Digits_any l _ hle).mono ?_; rintro e w' ⟨rfl,rfl⟩)
    go_ret
    exact ⟨by rw [HR.out]; rfl,rfl⟩
   ·have HR:Hid (numL l=valL l):=hidP <| by
     unfold numL
     rw [if_pos (by unfold numOk; rw [hd,hc]; simp; refine ⟨h6,by omega⟩)]
    have HV:Hid _:=fun {k:Nat} (hk:k<=l.length)=>valL_le HD.out.1 h6 hk
    have e3:(l.length:Int)<=6:=by omega
    by_cases h4:c.toNat=48
    ·have e1:((c.toNat:Int) == 48)=true:=by simp [h4]
     have e2:(l.length:Int)<=1:=by omega
     clear h48 h4
     go_enter Tryz.func112,Tryz.ntmps112
     go_wp2_with (go_at_call 130; refine (l4Digits_any l _ hle).mono ?_; rintro e w' ⟨rfl,rfl⟩)
     go_loopw [3,4] (fun nv iv wr=>∃ (k:Nat),k<=l.length/\iv=.int .i64 k/\nv=.int .i64 (valL (l.take k))/\wr=w') (fun _ iv _=>l.length - (intOf iv).toNat)
     case atStart=>exact ⟨0,Nat.zero_le _,rfl,rfl,rfl⟩
     case round =>
      obtain ⟨k,hk,rfl,rfl,rfl⟩:=hrel
      by_cases hlt:k < l.length
      ·have HSU:Hid _:=valL_succ hlt
       have HDI:Hid _:=all_cAt.1 HD.out.1 k hlt
       have hV:=HV.out (k:=k) (by omega)
       obtain ⟨V,hVe⟩:∃ V,valL (l.take k)=V:=⟨_,rfl⟩
       rw [hVe] at hV HSU ⊢
       obtain ⟨c2,hc2⟩:∃ c2,cAt l k=c2:=⟨_,rfl⟩
       rw [hc2] at HSU HDI
       obtain ⟨d,hd2,hd9⟩:∃ d:Nat,c2.toNat=d+48/\d<=9:=by
        have:=HDI.out
        unfold isDig at this
        simp at this
        exact ⟨c2.toNat - 48,by omega,by omega⟩
       rw [hd2,Nat.add_sub_cancel] at HSU
       have w1:IntKind.u8.wrap ((d:Int))=(d:Int):=by rw [IntKind.wrap_u8]; omega
       have w2:IntKind.i64.wrap ((V:Int) * 10)=(V:Int) * 10:=by rw [IntKind.wrap_i64]; omega
       have w3:IntKind.i64.wrap ((d:Int))=(d:Int):=by rw [IntKind.wrap_i64]; omega
       have w4:IntKind.i64.wrap ((V:Int) * 10+(d:Int))=(V:Int) * 10+(d:Int):=by rw [IntKind.wrap_i64]; omega
       have L1:(0:Int)<=(k:Int):=by omega
       have L2:(k:Int) < (l.length:Int):=by omega
       clear hVe
       go_wp2_with fail
       go_roundw
       case rel=>exact ⟨k+1,by omega,by go_num,by rw [HSU.out]; go_num,by first | rfl | trivial⟩
       case measure=>first | (simp [intOf]; done) | (simp [intOf]; omega)
      ·have hkl:k=l.length:=by omega
       have HZ:Hid (valL (l.take k)=valL l):=hidP <| by rw [hkl,List.take_length]
       go_wp2_with fail
       go_ret
       refine ⟨?_,rfl⟩
       rw [HR.out,<- HZ.out]
       rfl
    ·have e1:((c.toNat:Int) == 48)=false:=by simp; omega
     clear h48 h4
     go_enter Tryz.func112,Tryz.ntmps112
     go_wp2_with (go_at_call 130; refine (l4Digits_any l _ hle).mono ?_; rintro e w' ⟨rfl,rfl⟩)
     go_loopw [3,4] (fun nv iv wr=>∃ (k:Nat),k<=l.length/\iv=.int .i64 k/\nv=.int .i64 (valL (l.take k))/\wr=w') (fun _ iv _=>l.length - (intOf iv).toNat)
     case atStart=>exact ⟨0,Nat.zero_le _,rfl,rfl,rfl⟩
     case round =>
      obtain ⟨k,hk,rfl,rfl,rfl⟩:=hrel
      by_cases hlt:k < l.length
      ·have HSU:Hid _:=valL_succ hlt
       have HDI:Hid _:=all_cAt.1 HD.out.1 k hlt
       have hV:=HV.out (k:=k) (by omega)
       obtain ⟨V,hVe⟩:∃ V,valL (l.take k)=V:=⟨_,rfl⟩
       rw [hVe] at hV HSU ⊢
       obtain ⟨c2,hc2⟩:∃ c2,cAt l k=c2:=⟨_,rfl⟩
       rw [hc2] at HSU HDI
       obtain ⟨d,hd2,hd9⟩:∃ d:Nat,c2.toNat=d+48/\d<=9:=by
        have:=HDI.out
        unfold isDig at this
        simp at this
        exact ⟨c2.toNat - 48,by omega,by omega⟩
       rw [hd2,Nat.add_sub_cancel] at HSU
       have w1:IntKind.u8.wrap ((d:Int))=(d:Int):=by rw [IntKind.wrap_u8]; omega
       have w2:IntKind.i64.wrap ((V:Int) * 10)=(V:Int) * 10:=by rw [IntKind.wrap_i64]; omega
       have w3:IntKind.i64.wrap ((d:Int))=(d:Int):=by rw [IntKind.wrap_i64]; omega
       have w4:IntKind.i64.wrap ((V:Int) * 10+(d:Int))=(V:Int) * 10+(d:Int):=by rw [IntKind.wrap_i64]; omega
       have L1:(0:Int)<=(k:Int):=by omega
       have L2:(k:Int) < (l.length:Int):=by omega
       clear hVe
       go_wp2_with fail
       go_roundw
       case rel=>exact ⟨k+1,by omega,by go_num,by rw [HSU.out]; go_num,by first | rfl | trivial⟩
       case measure=>first | (simp [intOf]; done) | (simp [intOf]; omega)
      ·have hkl:k=l.length:=by omega
       have HZ:Hid (valL (l.take k)=valL l):=hidP <| by rw [hkl,List.take_length]
       go_wp2_with fail
       go_ret
       refine ⟨?_,rfl⟩
       rw [HR.out,<- HZ.out]
       rfl
  ·have HR:Hid (numL l=-1):=hidP <| by unfold numL numOk; rw [decide_eq_false h6]; simp
   have e3:(6:Int) < (l.length:Int):=by omega
   clear h6
   go_enter Tryz.func112,Tryz.ntmps112
   go_wp2_with (go_at_call 130; refine (l4Digits_any l _ hle).mono ?_; rintro e w' ⟨rfl,rfl⟩)
   go_ret
   exact ⟨by rw [HR.out]; rfl,rfl⟩
set_option maxHeartbeats 1000000 in
theorem l4IsName_any (l:Txt) (w:World) (hle:l.length<=20000):Calls Tryz.prog 111 #[.string (bs l)] w fun e w'=>e=.returned (.bool (nameL l))/\w'=w:=by
 by_cases h0:l.length=0
 ·have HR:Hid (nameL l=false):=hidP <| by unfold nameL; simp [h0]
  have e0:((l.length:Int) == 0)=true:=by simp [h0]
  clear h0
  go_enter Tryz.func111,Tryz.ntmps111
  go_wp2
  go_ret
  exact ⟨by rw [HR.out]; rfl,rfl⟩
 ·have e0:((l.length:Int) == 0)=false:=by rw [beq_eq_false_iff_ne]; omega
  have g0:(0:Int) < (l.length:Int):=by omega
  by_cases h1:l.length<=16
  ·have e1:(l.length:Int)<=16:=by omega
   obtain ⟨c,hc⟩:∃ c,cAt l 0=c:=⟨_,rfl⟩
   by_cases h2:c.toNat < 97
   ·have HR:Hid (nameL l=false):=hidP <| by unfold nameL isLow; rw [hc,decide_eq_false (show ¬ 97<=c.toNat by omega)]; simp
    have e2:(c.toNat:Int) < 97:=by omega
    clear h2 h1 h0
    go_enter Tryz.func111,Tryz.ntmps111
    go_wp2
    go_ret
    exact ⟨by rw [HR.out]; rfl,rfl⟩
   ·have e2:(97:Int)<=(c.toNat:Int):=by omega
    by_cases h3:122 < c.toNat
    ·have HR:Hid (nameL l=false):=hidP <| by unfold nameL isLow; rw [hc,decide_eq_false (show ¬ c.toNat<=122 by omega)]; simp
     have e3:(122:Int) < (c.toNat:Int):=by omega
     clear h3 h2 h1 h0
     go_enter Tryz.func111,Tryz.ntmps111
     go_wp2
     go_ret
     exact ⟨by rw [HR.out]; rfl,rfl⟩
    ·have HR:Hid (nameL l=!isKw l):=hidP <| by unfold nameL isLow; rw [hc,decide_eq_true (show 97<=c.toNat by omega),decide_eq_true (show c.toNat<=122 by omega),decide_eq_true h1,decide_eq_true (show 0 < l.length by omega)]; simp
     have e3:(c.toNat:Int)<=122:=by omega
     clear h3 h2 h1 h0
     go_enter Tryz.func111,Tryz.ntmps111
     go_wp2
     all_goals
      go_ret
      refine ⟨?_,rfl⟩
      rw [HR.out]
      unfold isKw
      simp [*]
  ·have HR:Hid (nameL l=false):=hidP <| by unfold nameL; rw [decide_eq_false h1]; simp
   have e1:(16:Int) < (l.length:Int):=by omega
   clear h1 h0
   go_enter Tryz.func111,Tryz.ntmps111
   go_wp2
   go_ret
   exact ⟨by rw [HR.out]; rfl,rfl⟩
theorem l4PermText_any (k:Nat) (h1:1<=k) (h7:k<=7) (w:World):Calls Tryz.prog 131 #[.int .i64 k] w fun e w'=>e=.returned (.string (bs (ptxt k)))/\w'=w:=by
 rcases (show k=1\/k=2\/k=3\/k=4\/k=5\/k=6\/k=7 by omega) with rfl | rfl | rfl | rfl | rfl | rfl | rfl
 all_goals as_aux_lemma =>
  go_enter Tryz.func131,Tryz.ntmps131
  go_wp2
  go_ret
  exact ⟨rfl,rfl⟩
theorem l4Perm_any (l:Txt) (w:World):Calls Tryz.prog 113 #[.string (bs l)] w fun e w'=>e=.returned (.int .i64 (permL l))/\w'=w:=by
 go_enter Tryz.func113,Tryz.ntmps113
 go_wp2_with fail
 go_loopw [3] (fun iv wr=>∃ (k:Nat),1<=k/\k<=8/\iv=.int .i64 k/\Hid (∀ j,1<=j->j < k->(ptxt j == l)=false)/\wr=w) (fun iv _=>8 - (intOf iv).toNat)
 case atStart=>exact ⟨1,by omega,by omega,rfl,hidP fun j hj hk=>absurd hk (by omega),rfl⟩
 case round =>
  obtain ⟨k,h1,h8,rfl,HO,rfl⟩:=hrel
  by_cases hlt:k<=7
  ·have HC:Hid _:=l4PermText_any k h1 hlt
   have L2:(k:Int)<=7:=by omega
   cases hp:ptxt k == l
   ·have HN:Hid ((ptxt k == l)=false):=hp
    go_wp2_with (go_at_call 131; refine (HC.out _).mono ?_; rintro e w' ⟨rfl,rfl⟩)
    go_roundw
    case rel =>
     refine ⟨k+1,by omega,by omega,by go_num,hidP fun j hj hk=>?_,by first | rfl | trivial⟩
     by_cases e:j=k
     ·rw [e]; exact HN.out
     ·exact HO.out j hj (by omega)
    case measure=>first | (simp [intOf]; done) | (simp [intOf]; omega)
   ·have HR:Hid (permL l=k):=hidP (permL_eq h1 hlt hp)
    go_wp2_with (go_at_call 131; refine (HC.out _).mono ?_; rintro e w' ⟨rfl,rfl⟩)
    go_ret
    exact ⟨by rw [HR.out]; rfl,rfl⟩
  ·have HR:Hid (permL l=0):=hidP (permL_none fun j hj hk=>HO.out j hj (by omega))
   have L2:(7:Int) < (k:Int):=by omega
   go_wp2_with fail
   go_ret
   exact ⟨by rw [HR.out]; rfl,rfl⟩
end Go.Proofs.YtnmhkgmmpkjjeacGreat
namespace Go.Proofs.YtnmhkgmmpkjjeacGreat
set_option linter.unusedVariables false
def isObj (n:Txt) (s:St):Bool:=s.kind == 1 && s.name == n
def objOf:List St->Txt->St
 | [],_=>noSt
 | s :: r,n=>if isObj n s then s else objOf r n
def szOf (all:List St) (s:St):Int:=if s.kind == 3 then s.b else (objOf all s.name).a
def meetB (p a q b:Int):Bool:=decide (p < q+b) && decide (q < p+a)
def alw (perm need:Int):Bool:=decide (perm / need % 2=1)
def sameOf (all:List St) (n:Txt):List St:=all.filter fun e=>e.kind == 2 && e.name == n
def hitObj (s:St) (e:St):Bool:=e.kind == 1 && meetB s.b s.a e.b e.a
def hitPg (all:List St) (a n:Int) (e:St):Bool:=!(e.kind == 1) && meetB a n e.a (szOf all e)
def codeL (all:List St) (s:St):Int :=
 if s.kind == 0 then 4
 else if s.kind == 1 then
  if (objOf all s.name).kind == 1 then 5
  else if s.a == 0 || decide (65536 < s.b+s.a) then 7
  else if all.any (hitObj s) then 8 else 0
 else if s.kind == 2 && (objOf all s.name).kind == 0 then 6
 else if szOf all s == 0 || decide (4096 < s.a+szOf all s) then 7
 else if all.any (hitPg all s.a (szOf all s)) then 8
 else if s.kind == 3 then 0
 else if !(objOf all s.name).extra && decide (1 < (s :: sameOf all s.name).length) then 9
 else if (objOf all s.name).extra && ((s :: sameOf all s.name).any (fun e=>alw e.perm 2) && (s :: sameOf all s.name).any (fun e=>alw e.perm 4)) then 10
 else 0
def stAt (all:List St) (i:Nat):St:=all.getD i noSt
theorem objOf_hit {all:List St} {n:Txt} {k:Nat} (hk:k < all.length) (h:∀ j,j < k->isObj n (stAt all j)=false) (h2:isObj n (stAt all k)=true):objOf all n=stAt all k:=by
 induction all generalizing k with
 | nil=>simp at hk
 | cons s r ih =>
  cases k with
  | zero =>
   have h2':isObj n s=true:=h2
   unfold objOf
   rw [if_pos h2']
   rfl
  | succ k =>
   have h0:isObj n s=false:=h 0 (by omega)
   have:=ih (k:=k) (by simpa using hk) (fun j hj=>h (j+1) (by omega)) h2
   unfold objOf
   rw [if_neg (by rw [h0]; decide),this]
   rfl
theorem objOf_none {all:List St} {n:Txt} (h:∀ j,j < all.length->isObj n (stAt all j)=false):objOf all n=noSt:=by
 induction all with
 | nil=>rfl
 | cons s r ih =>
  have h0:isObj n s=false:=h 0 (by simp)
  unfold objOf
  rw [if_neg (by rw [h0]; decide)]
  exact ih (fun j hj=>h (j+1) (by simpa using hj))
theorem any_hit {all:List St} {p:St->Bool} {k:Nat} (hk:k < all.length) (h:p (stAt all k)=true):all.any p=true:=by
 rw [List.any_eq_true]
 refine ⟨stAt all k,?_,h⟩
 unfold stAt
 rw [List.getD_eq_getElem?_getD,List.getElem?_eq_getElem hk]
 exact List.getElem_mem hk
theorem any_none {all:List St} {p:St->Bool} (h:∀ j,j < all.length->p (stAt all j)=false):all.any p=false:=by
 rw [List.any_eq_false]
 intro s hs
 obtain ⟨j,hj,e⟩:=List.getElem_of_mem hs
 have:=h j hj
 unfold stAt at this
 rw [List.getD_eq_getElem?_getD,List.getElem?_eq_getElem hj,e] at this
 simpa using this
structure StOk (s:St):Prop where
 a0:0<=s.a
 a1:s.a < 1000000
 b0:0<=s.b
 b1:s.b < 1000000
 p0:0<=s.perm
 p1:s.perm<=7
theorem noSt_ok:StOk noSt:=⟨by decide,by decide,by decide,by decide,by decide,by decide⟩
theorem permL_ok (s:Txt):0<=permL s/\permL s<=7:=by
 unfold permL
 repeat (first | (split; exact ⟨by decide,by decide⟩) | exact ⟨by decide,by decide⟩ | (split; · exact ⟨by decide,by decide⟩))
theorem stmtL_ok (ts:List Txt):StOk (stmtL ts):=by
 unfold stmtL
 split
 ·exact noSt_ok
 split
 ·unfold objL
  split
  ·exact noSt_ok
  split
  ·exact noSt_ok
  split
  ·exact noSt_ok
  rename_i h
  have:=numL_lt (tAt ts 2)
  have:=numL_lt (tAt ts 4)
  exact ⟨by show 0<=numL _; omega,by show numL _ < _; omega,by show 0<=numL _; omega,by show numL _ < _; omega,Int.le_refl 0,(by show (0:Int)<=7; decide)⟩
 split
 ·unfold regL
  split
  ·exact noSt_ok
  split
  ·exact noSt_ok
  rename_i h
  have:=numL_lt (tAt ts 1)
  exact ⟨by show 0<=numL _; omega,by show numL _ < _; omega,Int.le_refl 0,(by show (0:Int) < 1000000; decide),(permL_ok _).1,(permL_ok _).2⟩
 split
 ·unfold grdL
  split
  ·exact noSt_ok
  rename_i h
  have:=numL_lt (tAt ts 1)
  have:=numL_lt (tAt ts 2)
  exact ⟨by show 0<=numL _; omega,by show numL _ < _; omega,by show 0<=numL _; omega,by show numL _ < _; omega,Int.le_refl 0,(by show (0:Int)<=7; decide)⟩
 ·exact noSt_ok
theorem stAt_ok {all:List St} (h:∀ s ∈ all,StOk s) (k:Nat):StOk (stAt all k):=by
 unfold stAt
 rw [List.getD_eq_getElem?_getD]
 by_cases hk:k < all.length
 ·rw [List.getElem?_eq_getElem hk]; exact h _ (List.getElem_mem hk)
 ·rw [List.getElem?_eq_none (by omega)]; exact noSt_ok
theorem objOf_ok {all:List St} (h:∀ s ∈ all,StOk s) (n:Txt):StOk (objOf all n):=by
 induction all with
 | nil=>exact noSt_ok
 | cons s r ih =>
  unfold objOf
  split
  ·exact h s (by simp)
  ·exact ih (fun t ht=>h t (by simp [ht]))
theorem szOf_ok {all:List St} (h:∀ s ∈ all,StOk s) {s:St} (hs:StOk s):0<=szOf all s/\szOf all s < 1000000:=by
 unfold szOf
 split
 ·exact ⟨hs.b0,hs.b1⟩
 ·exact ⟨(objOf_ok h s.name).a0,(objOf_ok h s.name).a1⟩
end Go.Proofs.YtnmhkgmmpkjjeacGreat
