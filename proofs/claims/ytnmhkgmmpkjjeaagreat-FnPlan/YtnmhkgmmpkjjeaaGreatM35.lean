import Derived.Test.YtnmhkgmmpkjjeaaGreatM34
namespace Go.Proofs.YtnmhkgmmpkjjeaaGreat
open ChangeShapes WideShapes ChangeAt RowKit Proofs.Tryz
set_option linter.all false
set_option maxRecDepth 100000
set_option maxHeartbeats 4000000
section
attribute [local go_sem ↓] wp_at_zero wp_at_succ
attribute [local go_sem] DU FG FM H5 FE Du
def CH (s:St):Value:=.agg #[.int .i64 s.kind,.string (bs s.name),.int .i64 s.a,.int .i64 s.b,.int .i64 s.perm,.bool s.extra]
theorem Zb(g o c n:Nat)(x0:Az)(w:World)(hg:g<w.heap.size)(c0:w.cell? ⟨g,o,none⟩=some (.string (bs x0)))(h0:(x0==[111,98,106,101,99,116])=true)(hn3:(3:Int)<=(n:Int))(hn:n<=30000)(e5:((n:Int) != 5)=true)(e6:((n:Int) != 6)=true):Calls prog 36 #[.slice (some ⟨g,o,none⟩) n c] w (AM w (CH Aa)):=by
 as_aux_lemma =>
 go_enter func36,ntmps36
 go_wp2_with (go_at_call 97;refine(Am _ _ (by assumption)).mono ?_;rintro e w' ⟨rfl,rfl⟩)
 go_wp2_with fail
 refine bodyPost_ret (v:=CH Aa) (by simp[results,results36,go_sem,CH,Aa]) rfl ⟨rfl,?_⟩;exact BH
theorem WU(g o c:Nat)(x0 x1 x2 x3 x4:Az)(w:World)(hg:g<w.heap.size)(c0:w.cell? ⟨g,o,none⟩=some (.string (bs x0)))(c1:w.cell? ⟨g,o+1,none⟩=some (.string (bs x1)))(c2:w.cell? ⟨g,o+2,none⟩=some (.string (bs x2)))(c3:w.cell? ⟨g,o+3,none⟩=some (.string (bs x3)))(c4:w.cell? ⟨g,o+4,none⟩=some (.string (bs x4)))(l1:x1.length<=20000)(h0:(x0==[111,98,106,101,99,116])=true)(hm:CR x1=false):Calls prog 36 #[.slice (some ⟨g,o,none⟩) 5 c] w (AM w (CH Aa)):=by
 as_aux_lemma =>
 go_enter func36,ntmps36
 go_wp2_with (go_at_call 97;refine(Am _ _ (by assumption)).mono ?_;rintro e w' ⟨rfl,rfl⟩)
 go_wp2_with fail
 refine bodyPost_ret (v:=CH Aa) (by simp[results,results36,go_sem,CH,Aa]) rfl ⟨rfl,?_⟩;exact BH
theorem WK(g o c:Nat)(x0 x1 x2 x3 x4:Az)(w:World)(hg:g<w.heap.size)(c0:w.cell? ⟨g,o,none⟩=some (.string (bs x0)))(c1:w.cell? ⟨g,o+1,none⟩=some (.string (bs x1)))(c2:w.cell? ⟨g,o+2,none⟩=some (.string (bs x2)))(c3:w.cell? ⟨g,o+3,none⟩=some (.string (bs x3)))(c4:w.cell? ⟨g,o+4,none⟩=some (.string (bs x4)))(l1:x1.length<=20000)(h0:(x0==[111,98,106,101,99,116])=true)(hm:CR x1=true)(h3:(x3==[97,116])=false):Calls prog 36 #[.slice (some ⟨g,o,none⟩) 5 c] w (AM w (CH Aa)):=by
 as_aux_lemma =>
 go_enter func36,ntmps36
 go_wp2_with (go_at_call 97;refine(Am _ _ (by assumption)).mono ?_;rintro e w' ⟨rfl,rfl⟩)
 go_wp2_with fail
 refine bodyPost_ret (v:=CH Aa) (by simp[results,results36,go_sem,CH,Aa]) rfl ⟨rfl,?_⟩;exact BH
theorem Vp(g o c:Nat)(x0 x1 x2 x3 x4 x5:Az)(w:World)(hg:g<w.heap.size)(c0:w.cell? ⟨g,o,none⟩=some (.string (bs x0)))(c1:w.cell? ⟨g,o+1,none⟩=some (.string (bs x1)))(c2:w.cell? ⟨g,o+2,none⟩=some (.string (bs x2)))(c3:w.cell? ⟨g,o+3,none⟩=some (.string (bs x3)))(c4:w.cell? ⟨g,o+4,none⟩=some (.string (bs x4)))(c5:w.cell? ⟨g,o+5,none⟩=some (.string (bs x5)))(l1:x1.length<=20000)(h0:(x0==[111,98,106,101,99,116])=true)(hm:CR x1=false):Calls prog 36 #[.slice (some ⟨g,o,none⟩) 6 c] w (AM w (CH Aa)):=by
 as_aux_lemma =>
 go_enter func36,ntmps36
 go_wp2_with (go_at_call 97;refine(Am _ _ (by assumption)).mono ?_;rintro e w' ⟨rfl,rfl⟩)
 go_wp2_with fail
 refine bodyPost_ret (v:=CH Aa) (by simp[results,results36,go_sem,CH,Aa]) rfl ⟨rfl,?_⟩;exact BH
theorem Xb(g o c:Nat)(x0 x1 x2 x3 x4 x5:Az)(w:World)(hg:g<w.heap.size)(c0:w.cell? ⟨g,o,none⟩=some (.string (bs x0)))(c1:w.cell? ⟨g,o+1,none⟩=some (.string (bs x1)))(c2:w.cell? ⟨g,o+2,none⟩=some (.string (bs x2)))(c3:w.cell? ⟨g,o+3,none⟩=some (.string (bs x3)))(c4:w.cell? ⟨g,o+4,none⟩=some (.string (bs x4)))(c5:w.cell? ⟨g,o+5,none⟩=some (.string (bs x5)))(l1:x1.length<=20000)(h0:(x0==[111,98,106,101,99,116])=true)(hm:CR x1=true)(h3:(x3==[97,116])=false):Calls prog 36 #[.slice (some ⟨g,o,none⟩) 6 c] w (AM w (CH Aa)):=by
 as_aux_lemma =>
 go_enter func36,ntmps36
 go_wp2_with (go_at_call 97;refine(Am _ _ (by assumption)).mono ?_;rintro e w' ⟨rfl,rfl⟩)
 go_wp2_with fail
 refine bodyPost_ret (v:=CH Aa) (by simp[results,results36,go_sem,CH,Aa]) rfl ⟨rfl,?_⟩;exact BH
theorem WF(g o c:Nat)(x0 x1 x2 x3 x4 x5:Az)(w:World)(hg:g<w.heap.size)(c0:w.cell? ⟨g,o,none⟩=some (.string (bs x0)))(c1:w.cell? ⟨g,o+1,none⟩=some (.string (bs x1)))(c2:w.cell? ⟨g,o+2,none⟩=some (.string (bs x2)))(c3:w.cell? ⟨g,o+3,none⟩=some (.string (bs x3)))(c4:w.cell? ⟨g,o+4,none⟩=some (.string (bs x4)))(c5:w.cell? ⟨g,o+5,none⟩=some (.string (bs x5)))(l1:x1.length<=20000)(h0:(x0==[111,98,106,101,99,116])=true)(hm:CR x1=true)(h3:(x3==[97,116])=true)(h5:(x5==[115,104,97,114,101,100])=false):Calls prog 36 #[.slice (some ⟨g,o,none⟩) 6 c] w (AM w (CH Aa)):=by
 as_aux_lemma =>
 go_enter func36,ntmps36
 go_wp2_with (go_at_call 97;refine(Am _ _ (by assumption)).mono ?_;rintro e w' ⟨rfl,rfl⟩)
 go_wp2_with fail
 refine bodyPost_ret (v:=CH Aa) (by simp[results,results36,go_sem,CH,Aa]) rfl ⟨rfl,?_⟩;exact BH
theorem Ze(g o c n:Nat)(x0:Az)(w:World)(hg:g<w.heap.size)(c0:w.cell? ⟨g,o,none⟩=some (.string (bs x0)))(h0:(x0==[111,98,106,101,99,116])=false)(h0r:(x0==[114,101,103,105,111,110])=true)(hn3:(3:Int)<=(n:Int))(hn:n<=30000)(e4:((n:Int) != 4)=true)(e5:((n:Int) != 5)=true):Calls prog 36 #[.slice (some ⟨g,o,none⟩) n c] w (AM w (CH Aa)):=by
 as_aux_lemma =>
 go_enter func36,ntmps36
 go_wp2_with (go_at_call 97;refine(Am _ _ (by assumption)).mono ?_;rintro e w' ⟨rfl,rfl⟩)
 go_wp2_with fail
 refine bodyPost_ret (v:=CH Aa) (by simp[results,results36,go_sem,CH,Aa]) rfl ⟨rfl,?_⟩;exact BH
theorem W7(g o c:Nat)(x0 x1 x2 x3:Az)(w:World)(hg:g<w.heap.size)(c0:w.cell? ⟨g,o,none⟩=some (.string (bs x0)))(c1:w.cell? ⟨g,o+1,none⟩=some (.string (bs x1)))(c2:w.cell? ⟨g,o+2,none⟩=some (.string (bs x2)))(c3:w.cell? ⟨g,o+3,none⟩=some (.string (bs x3)))(l2:x2.length<=20000)(h0:(x0==[111,98,106,101,99,116])=false)(h0r:(x0==[114,101,103,105,111,110])=true)(hm:CR x2=false):Calls prog 36 #[.slice (some ⟨g,o,none⟩) 4 c] w (AM w (CH Aa)):=by
 as_aux_lemma =>
 go_enter func36,ntmps36
 go_wp2_with (go_at_call 97;refine(Am _ _ (by assumption)).mono ?_;rintro e w' ⟨rfl,rfl⟩)
 go_wp2_with fail
 refine bodyPost_ret (v:=CH Aa) (by simp[results,results36,go_sem,CH,Aa]) rfl ⟨rfl,?_⟩;exact BH
theorem Vn(g o c:Nat)(x0 x1 x2 x3 x4:Az)(w:World)(hg:g<w.heap.size)(c0:w.cell? ⟨g,o,none⟩=some (.string (bs x0)))(c1:w.cell? ⟨g,o+1,none⟩=some (.string (bs x1)))(c2:w.cell? ⟨g,o+2,none⟩=some (.string (bs x2)))(c3:w.cell? ⟨g,o+3,none⟩=some (.string (bs x3)))(c4:w.cell? ⟨g,o+4,none⟩=some (.string (bs x4)))(l2:x2.length<=20000)(h0:(x0==[111,98,106,101,99,116])=false)(h0r:(x0==[114,101,103,105,111,110])=true)(hm:CR x2=false):Calls prog 36 #[.slice (some ⟨g,o,none⟩) 5 c] w (AM w (CH Aa)):=by
 as_aux_lemma =>
 go_enter func36,ntmps36
 go_wp2_with (go_at_call 97;refine(Am _ _ (by assumption)).mono ?_;rintro e w' ⟨rfl,rfl⟩)
 go_wp2_with fail
 refine bodyPost_ret (v:=CH Aa) (by simp[results,results36,go_sem,CH,Aa]) rfl ⟨rfl,?_⟩;exact BH
theorem Ww(g o c:Nat)(x0 x1 x2 x3 x4:Az)(w:World)(hg:g<w.heap.size)(c0:w.cell? ⟨g,o,none⟩=some (.string (bs x0)))(c1:w.cell? ⟨g,o+1,none⟩=some (.string (bs x1)))(c2:w.cell? ⟨g,o+2,none⟩=some (.string (bs x2)))(c3:w.cell? ⟨g,o+3,none⟩=some (.string (bs x3)))(c4:w.cell? ⟨g,o+4,none⟩=some (.string (bs x4)))(l2:x2.length<=20000)(h0:(x0==[111,98,106,101,99,116])=false)(h0r:(x0==[114,101,103,105,111,110])=true)(hm:CR x2=true)(h4:(x4==[104,117,103,101])=false):Calls prog 36 #[.slice (some ⟨g,o,none⟩) 5 c] w (AM w (CH Aa)):=by
 as_aux_lemma =>
 go_enter func36,ntmps36
 go_wp2_with (go_at_call 97;refine(Am _ _ (by assumption)).mono ?_;rintro e w' ⟨rfl,rfl⟩)
 go_wp2_with fail
 refine bodyPost_ret (v:=CH Aa) (by simp[results,results36,go_sem,CH,Aa]) rfl ⟨rfl,?_⟩;exact BH
theorem Zx(g o c n:Nat)(x0:Az)(w:World)(hg:g<w.heap.size)(c0:w.cell? ⟨g,o,none⟩=some (.string (bs x0)))(h0:(x0==[111,98,106,101,99,116])=false)(h0r:(x0==[114,101,103,105,111,110])=false)(h0g:(x0==[103,117,97,114,100])=true)(hn3:(3:Int)<=(n:Int))(hn:n<=30000)(e3:((n:Int)==3)=false):Calls prog 36 #[.slice (some ⟨g,o,none⟩) n c] w (AM w (CH Aa)):=by
 as_aux_lemma =>
 go_enter func36,ntmps36
 go_wp2_with (go_at_call 97;refine(Am _ _ (by assumption)).mono ?_;rintro e w' ⟨rfl,rfl⟩)
 go_wp2_with fail
 refine bodyPost_ret (v:=CH Aa) (by simp[results,results36,go_sem,CH,Aa]) rfl ⟨rfl,?_⟩;exact BH
theorem aL(g o c n:Nat)(x0:Az)(w:World)(hg:g<w.heap.size)(c0:w.cell? ⟨g,o,none⟩=some (.string (bs x0)))(h0:(x0==[111,98,106,101,99,116])=false)(h0r:(x0==[114,101,103,105,111,110])=false)(h0g:(x0==[103,117,97,114,100])=false)(hn3:(3:Int)<=(n:Int))(hn:n<=30000):Calls prog 36 #[.slice (some ⟨g,o,none⟩) n c] w (AM w (CH Aa)):=by
 as_aux_lemma =>
 go_enter func36,ntmps36
 go_wp2_with (go_at_call 97;refine(Am _ _ (by assumption)).mono ?_;rintro e w' ⟨rfl,rfl⟩)
 go_wp2_with fail
 refine bodyPost_ret (v:=CH Aa) (by simp[results,results36,go_sem,CH,Aa]) rfl ⟨rfl,?_⟩;exact BH
theorem Zp(A:Option Addr)(c n:Nat)(w:World)(hn:(n:Int)<3):Calls prog 36 #[.slice A n c] w (AM w (CH Aa)):=by
 go_enter func36,ntmps36
 go_wp2_with fail
 refine bodyPost_ret (v:=CH Aa) (by simp[results,results36,go_sem,CH,Aa]) rfl ⟨rfl,?_⟩;exact BH
theorem Zq(g o c:Nat)(x0 x1 x2:Az)(w:World)(hg:g<w.heap.size)(c0:w.cell? ⟨g,o,none⟩=some (.string (bs x0)))(c1:w.cell? ⟨g,o+1,none⟩=some (.string (bs x1)))(c2:w.cell? ⟨g,o+2,none⟩=some (.string (bs x2)))(l1:x1.length<=20000)(l2:x2.length<=20000)(h0:(x0==[111,98,106,101,99,116])=false)(h0r:(x0==[114,101,103,105,111,110])=false)(h0g:(x0==[103,117,97,114,100])=true):Calls prog 36 #[.slice (some ⟨g,o,none⟩) 3 c] w fun e w'=>e=.returned (CH (if AV x1<0\/AV x2<0 then Aa else ⟨3,[],AV x1,AV x2,0,false⟩))/\Bl w w':=by
 as_aux_lemma =>
 have HK:Hid (∀wX,Bl w wX->(fun wX=>wX.cell? ⟨g,o+1,none⟩=some (.string (bs x1))/\wX.cell? ⟨g,o+2,none⟩=some (.string (bs x2))) wX):=A6 fun wX hX=>⟨(hX.cell hg).trans c1,(hX.cell hg).trans c2⟩
 go_enter func36,ntmps36
 go_wp2_with (go_at_call 97;refine(Am _ _ (by assumption)).mono ?_;rintro e w' ⟨rfl,rfl⟩)
 go_region_held3 (fun wX=>wX.cell? ⟨g,o+1,none⟩=some (.string (bs x1))/\wX.cell? ⟨g,o+2,none⟩=some (.string (bs x2))) ((refine HK.out _ ?_;exact BH)) (first|(go_at_call 98;refine(Ds _ _ (by assumption)).mono ?_;rintro e w' ⟨rfl,rfl⟩)|(go_at_call 99;refine(F9 _ _).mono ?_;rintro e w' ⟨rfl,rfl⟩))
 all_goals
  by_cases ha:AV x1<0
  ·have HR:Hid ((if AV x1<0\/AV x2<0 then Aa else ⟨3,[],AV x1,AV x2,0,false⟩)=Aa):=A6 (if_pos (.inl ha))
   go_wp2_with fail
   refine bodyPost_ret (v:=CH Aa) (by simp[results,results36,go_sem,CH,Aa]) rfl ⟨by first|rw[HR.out]|rfl|(rw[if_pos HBB.out])|(rw[if_neg HBB.out]),?_⟩
   exact BH
  ·have ha':0<=AV x1:=by omega
   by_cases hb:AV x2<0
   ·have HR:Hid ((if AV x1<0\/AV x2<0 then Aa else ⟨3,[],AV x1,AV x2,0,false⟩)=Aa):=A6 (if_pos (.inr hb))
    have hb':AV x2<0:=hb
    have HBB:=A5 hb
    clear hb
    go_wp2_with fail
    refine bodyPost_ret (v:=CH Aa) (by simp[results,results36,go_sem,CH,Aa]) rfl ⟨by first|rw[HR.out]|rfl|(rw[if_pos HBB.out])|(rw[if_neg HBB.out]),?_⟩
    exact BH
   ·have HR:Hid ((if AV x1<0\/AV x2<0 then Aa else ⟨3,[],AV x1,AV x2,0,false⟩)=⟨3,[],AV x1,AV x2,0,false⟩):=A6 (if_neg (fun h=>h.elim ha hb))
    have hb':0<=AV x2:=by omega
    have HBB:=A5 hb
    clear hb
    go_wp2_with fail
    refine bodyPost_ret (v:=CH ⟨3,[],AV x1,AV x2,0,false⟩) (by simp[results,results36,go_sem,CH]) rfl ⟨by first|rw[HR.out]|rfl|(rw[if_pos HBB.out])|(rw[if_neg HBB.out]),?_⟩
    exact BH
theorem Vk(g o c:Nat)(x0 x1 x2 x3 x4:Az)(w:World)(hg:g<w.heap.size)(c0:w.cell? ⟨g,o,none⟩=some (.string (bs x0)))(c1:w.cell? ⟨g,o+1,none⟩=some (.string (bs x1)))(c2:w.cell? ⟨g,o+2,none⟩=some (.string (bs x2)))(c3:w.cell? ⟨g,o+3,none⟩=some (.string (bs x3)))(c4:w.cell? ⟨g,o+4,none⟩=some (.string (bs x4)))(l1:x1.length<=20000)(l2:x2.length<=20000)(l4:x4.length<=20000)(h0:(x0==[111,98,106,101,99,116])=true)(hm:CR x1=true)(h3:(x3==[97,116])=true):Calls prog 36 #[.slice (some ⟨g,o,none⟩) 5 c] w fun e w'=>e=.returned (CH (if AV x2<0\/AV x4<0 then Aa else ⟨1,x1,AV x2,AV x4,0,false⟩))/\Bl w w':=by
 as_aux_lemma =>
 have HK:Hid (∀wX,Bl w wX->(fun wX=>wX.cell? ⟨g,o+1,none⟩=some (.string (bs x1))/\wX.cell? ⟨g,o+2,none⟩=some (.string (bs x2))/\wX.cell? ⟨g,o+4,none⟩=some (.string (bs x4))) wX):=A6 fun wX hX=>⟨(hX.cell hg).trans c1,(hX.cell hg).trans c2,(hX.cell hg).trans c4⟩
 go_enter func36,ntmps36
 go_wp2_with (go_at_call 97;refine(Am _ _ (by assumption)).mono ?_;rintro e w' ⟨rfl,rfl⟩)
 go_region_held3 (fun wX=>wX.cell? ⟨g,o+1,none⟩=some (.string (bs x1))/\wX.cell? ⟨g,o+2,none⟩=some (.string (bs x2))/\wX.cell? ⟨g,o+4,none⟩=some (.string (bs x4))) ((refine HK.out _ ?_;exact BH)) (first|(go_at_call 98;refine(Ds _ _ (by assumption)).mono ?_;rintro e w' ⟨rfl,rfl⟩)|(go_at_call 99;refine(F9 _ _).mono ?_;rintro e w' ⟨rfl,rfl⟩))
 all_goals
  by_cases ha:AV x2<0
  ·have HR:Hid ((if AV x2<0\/AV x4<0 then Aa else ⟨1,x1,AV x2,AV x4,0,false⟩)=Aa):=A6 (if_pos (.inl ha))
   go_wp2_with fail
   refine bodyPost_ret (v:=CH Aa) (by simp[results,results36,go_sem,CH,Aa]) rfl ⟨by first|rw[HR.out]|rfl|(rw[if_pos HBB.out])|(rw[if_neg HBB.out]),?_⟩
   exact BH
  ·have ha':0<=AV x2:=by omega
   by_cases hb:AV x4<0
   ·have HR:Hid ((if AV x2<0\/AV x4<0 then Aa else ⟨1,x1,AV x2,AV x4,0,false⟩)=Aa):=A6 (if_pos (.inr hb))
    have hb':AV x4<0:=hb
    have HBB:=A5 hb
    clear hb
    go_wp2_with fail
    refine bodyPost_ret (v:=CH Aa) (by simp[results,results36,go_sem,CH,Aa]) rfl ⟨by first|rw[HR.out]|rfl|(rw[if_pos HBB.out])|(rw[if_neg HBB.out]),?_⟩
    exact BH
   ·have HR:Hid ((if AV x2<0\/AV x4<0 then Aa else ⟨1,x1,AV x2,AV x4,0,false⟩)=⟨1,x1,AV x2,AV x4,0,false⟩):=A6 (if_neg (fun h=>h.elim ha hb))
    have hb':0<=AV x4:=by omega
    have HBB:=A5 hb
    clear hb
    go_wp2_with fail
    refine bodyPost_ret (v:=CH ⟨1,x1,AV x2,AV x4,0,false⟩) (by simp[results,results36,go_sem,CH]) rfl ⟨by first|rw[HR.out]|rfl|(rw[if_pos HBB.out])|(rw[if_neg HBB.out]),?_⟩
    exact BH
theorem WB(g o c:Nat)(x0 x1 x2 x3 x4 x5:Az)(w:World)(hg:g<w.heap.size)(c0:w.cell? ⟨g,o,none⟩=some (.string (bs x0)))(c1:w.cell? ⟨g,o+1,none⟩=some (.string (bs x1)))(c2:w.cell? ⟨g,o+2,none⟩=some (.string (bs x2)))(c3:w.cell? ⟨g,o+3,none⟩=some (.string (bs x3)))(c4:w.cell? ⟨g,o+4,none⟩=some (.string (bs x4)))(c5:w.cell? ⟨g,o+5,none⟩=some (.string (bs x5)))(l1:x1.length<=20000)(l2:x2.length<=20000)(l4:x4.length<=20000)(h0:(x0==[111,98,106,101,99,116])=true)(hm:CR x1=true)(h3:(x3==[97,116])=true)(h5:(x5==[115,104,97,114,101,100])=true):Calls prog 36 #[.slice (some ⟨g,o,none⟩) 6 c] w fun e w'=>e=.returned (CH (if AV x2<0\/AV x4<0 then Aa else ⟨1,x1,AV x2,AV x4,0,true⟩))/\Bl w w':=by
 as_aux_lemma =>
 have HK:Hid (∀wX,Bl w wX->(fun wX=>wX.cell? ⟨g,o+1,none⟩=some (.string (bs x1))/\wX.cell? ⟨g,o+2,none⟩=some (.string (bs x2))/\wX.cell? ⟨g,o+4,none⟩=some (.string (bs x4))) wX):=A6 fun wX hX=>⟨(hX.cell hg).trans c1,(hX.cell hg).trans c2,(hX.cell hg).trans c4⟩
 go_enter func36,ntmps36
 go_wp2_with (go_at_call 97;refine(Am _ _ (by assumption)).mono ?_;rintro e w' ⟨rfl,rfl⟩)
 go_region_held3 (fun wX=>wX.cell? ⟨g,o+1,none⟩=some (.string (bs x1))/\wX.cell? ⟨g,o+2,none⟩=some (.string (bs x2))/\wX.cell? ⟨g,o+4,none⟩=some (.string (bs x4))) ((refine HK.out _ ?_;exact BH)) (first|(go_at_call 98;refine(Ds _ _ (by assumption)).mono ?_;rintro e w' ⟨rfl,rfl⟩)|(go_at_call 99;refine(F9 _ _).mono ?_;rintro e w' ⟨rfl,rfl⟩))
 all_goals
  by_cases ha:AV x2<0
  ·have HR:Hid ((if AV x2<0\/AV x4<0 then Aa else ⟨1,x1,AV x2,AV x4,0,true⟩)=Aa):=A6 (if_pos (.inl ha))
   go_wp2_with fail
   refine bodyPost_ret (v:=CH Aa) (by simp[results,results36,go_sem,CH,Aa]) rfl ⟨by first|rw[HR.out]|rfl|(rw[if_pos HBB.out])|(rw[if_neg HBB.out]),?_⟩
   exact BH
  ·have ha':0<=AV x2:=by omega
   by_cases hb:AV x4<0
   ·have HR:Hid ((if AV x2<0\/AV x4<0 then Aa else ⟨1,x1,AV x2,AV x4,0,true⟩)=Aa):=A6 (if_pos (.inr hb))
    have hb':AV x4<0:=hb
    have HBB:=A5 hb
    clear hb
    go_wp2_with fail
    refine bodyPost_ret (v:=CH Aa) (by simp[results,results36,go_sem,CH,Aa]) rfl ⟨by first|rw[HR.out]|rfl|(rw[if_pos HBB.out])|(rw[if_neg HBB.out]),?_⟩
    exact BH
   ·have HR:Hid ((if AV x2<0\/AV x4<0 then Aa else ⟨1,x1,AV x2,AV x4,0,true⟩)=⟨1,x1,AV x2,AV x4,0,true⟩):=A6 (if_neg (fun h=>h.elim ha hb))
    have hb':0<=AV x4:=by omega
    have HBB:=A5 hb
    clear hb
    go_wp2_with fail
    refine bodyPost_ret (v:=CH ⟨1,x1,AV x2,AV x4,0,true⟩) (by simp[results,results36,go_sem,CH]) rfl ⟨by first|rw[HR.out]|rfl|(rw[if_pos HBB.out])|(rw[if_neg HBB.out]),?_⟩
    exact BH
theorem Wa(g o c:Nat)(x0 x1 x2 x3:Az)(w:World)(hg:g<w.heap.size)(c0:w.cell? ⟨g,o,none⟩=some (.string (bs x0)))(c1:w.cell? ⟨g,o+1,none⟩=some (.string (bs x1)))(c2:w.cell? ⟨g,o+2,none⟩=some (.string (bs x2)))(c3:w.cell? ⟨g,o+3,none⟩=some (.string (bs x3)))(l1:x1.length<=20000)(l2:x2.length<=20000)(h0:(x0==[111,98,106,101,99,116])=false)(h0r:(x0==[114,101,103,105,111,110])=true)(hm:CR x2=true):Calls prog 36 #[.slice (some ⟨g,o,none⟩) 4 c] w fun e w'=>e=.returned (CH (if AV x1<0\/E4 x3=0 then Aa else ⟨2,x2,AV x1,0,E4 x3,false⟩))/\Bl w w':=by
 as_aux_lemma =>
 have hpm:=F9 x3;generalize E4 x3=PM at *;have HK:Hid (∀wX,Bl w wX->(fun wX=>wX.cell? ⟨g,o+1,none⟩=some (.string (bs x1))/\wX.cell? ⟨g,o+2,none⟩=some (.string (bs x2))/\wX.cell? ⟨g,o+3,none⟩=some (.string (bs x3))) wX):=A6 fun wX hX=>⟨(hX.cell hg).trans c1,(hX.cell hg).trans c2,(hX.cell hg).trans c3⟩
 go_enter func36,ntmps36
 go_wp2_with (go_at_call 97;refine(Am _ _ (by assumption)).mono ?_;rintro e w' ⟨rfl,rfl⟩)
 go_region_held3 (fun wX=>wX.cell? ⟨g,o+1,none⟩=some (.string (bs x1))/\wX.cell? ⟨g,o+2,none⟩=some (.string (bs x2))/\wX.cell? ⟨g,o+3,none⟩=some (.string (bs x3))) ((refine HK.out _ ?_;exact BH)) (first|(go_at_call 98;refine(Ds _ _ (by assumption)).mono ?_;rintro e w' ⟨rfl,rfl⟩)|(go_at_call 99;refine(hpm _).mono ?_;rintro e w' ⟨rfl,rfl⟩))
 all_goals
  by_cases ha:AV x1<0
  ·have HR:Hid ((if AV x1<0\/PM=0 then Aa else ⟨2,x2,AV x1,0,PM,false⟩)=Aa):=A6 (if_pos (.inl ha))
   go_wp2_with fail
   refine bodyPost_ret (v:=CH Aa) (by simp[results,results36,go_sem,CH,Aa]) rfl ⟨by first|rw[HR.out]|rfl|(rw[if_neg hb]),?_⟩
   exact BH
  ·have ha':0<=AV x1:=by omega
   by_cases hb:PM=0
   ·have HR:Hid ((if AV x1<0\/PM=0 then Aa else ⟨2,x2,AV x1,0,PM,false⟩)=Aa):=A6 (if_pos (.inr hb))
    subst hb
    go_wp2_with fail
    refine bodyPost_ret (v:=CH Aa) (by simp[results,results36,go_sem,CH,Aa]) rfl ⟨by first|rw[HR.out]|rfl|(rw[if_neg hb]),?_⟩
    exact BH
   ·have HR:Hid ((if AV x1<0\/PM=0 then Aa else ⟨2,x2,AV x1,0,PM,false⟩)=⟨2,x2,AV x1,0,PM,false⟩):=A6 (if_neg (fun h=>h.elim ha hb))
    have hb':(PM==0)=false:=by simp[hb]
    go_wp2_with fail
    refine bodyPost_ret (v:=CH ⟨2,x2,AV x1,0,PM,false⟩) (by simp[results,results36,go_sem,CH]) rfl ⟨by first|rw[HR.out]|rfl|(rw[if_neg hb]),?_⟩
    exact BH
theorem Vo(g o c:Nat)(x0 x1 x2 x3 x4:Az)(w:World)(hg:g<w.heap.size)(c0:w.cell? ⟨g,o,none⟩=some (.string (bs x0)))(c1:w.cell? ⟨g,o+1,none⟩=some (.string (bs x1)))(c2:w.cell? ⟨g,o+2,none⟩=some (.string (bs x2)))(c3:w.cell? ⟨g,o+3,none⟩=some (.string (bs x3)))(c4:w.cell? ⟨g,o+4,none⟩=some (.string (bs x4)))(l1:x1.length<=20000)(l2:x2.length<=20000)(h0:(x0==[111,98,106,101,99,116])=false)(h0r:(x0==[114,101,103,105,111,110])=true)(hm:CR x2=true)(h4:(x4==[104,117,103,101])=true):Calls prog 36 #[.slice (some ⟨g,o,none⟩) 5 c] w fun e w'=>e=.returned (CH (if AV x1<0\/E4 x3=0 then Aa else ⟨2,x2,AV x1,0,E4 x3,true⟩))/\Bl w w':=by
 as_aux_lemma =>
 have hpm:=F9 x3;generalize E4 x3=PM at *;have HK:Hid (∀wX,Bl w wX->(fun wX=>wX.cell? ⟨g,o+1,none⟩=some (.string (bs x1))/\wX.cell? ⟨g,o+2,none⟩=some (.string (bs x2))/\wX.cell? ⟨g,o+3,none⟩=some (.string (bs x3))) wX):=A6 fun wX hX=>⟨(hX.cell hg).trans c1,(hX.cell hg).trans c2,(hX.cell hg).trans c3⟩
 go_enter func36,ntmps36
 go_wp2_with (go_at_call 97;refine(Am _ _ (by assumption)).mono ?_;rintro e w' ⟨rfl,rfl⟩)
 go_region_held3 (fun wX=>wX.cell? ⟨g,o+1,none⟩=some (.string (bs x1))/\wX.cell? ⟨g,o+2,none⟩=some (.string (bs x2))/\wX.cell? ⟨g,o+3,none⟩=some (.string (bs x3))) ((refine HK.out _ ?_;exact BH)) (first|(go_at_call 98;refine(Ds _ _ (by assumption)).mono ?_;rintro e w' ⟨rfl,rfl⟩)|(go_at_call 99;refine(hpm _).mono ?_;rintro e w' ⟨rfl,rfl⟩))
 all_goals
  by_cases ha:AV x1<0
  ·have HR:Hid ((if AV x1<0\/PM=0 then Aa else ⟨2,x2,AV x1,0,PM,true⟩)=Aa):=A6 (if_pos (.inl ha))
   go_wp2_with fail
   refine bodyPost_ret (v:=CH Aa) (by simp[results,results36,go_sem,CH,Aa]) rfl ⟨by first|rw[HR.out]|rfl|(rw[if_neg hb]),?_⟩
   exact BH
  ·have ha':0<=AV x1:=by omega
   by_cases hb:PM=0
   ·have HR:Hid ((if AV x1<0\/PM=0 then Aa else ⟨2,x2,AV x1,0,PM,true⟩)=Aa):=A6 (if_pos (.inr hb))
    subst hb
    go_wp2_with fail
    refine bodyPost_ret (v:=CH Aa) (by simp[results,results36,go_sem,CH,Aa]) rfl ⟨by first|rw[HR.out]|rfl|(rw[if_neg hb]),?_⟩
    exact BH
   ·have HR:Hid ((if AV x1<0\/PM=0 then Aa else ⟨2,x2,AV x1,0,PM,true⟩)=⟨2,x2,AV x1,0,PM,true⟩):=A6 (if_neg (fun h=>h.elim ha hb))
    have hb':(PM==0)=false:=by simp[hb]
    go_wp2_with fail
    refine bodyPost_ret (v:=CH ⟨2,x2,AV x1,0,PM,true⟩) (by simp[results,results36,go_sem,CH]) rfl ⟨by first|rw[HR.out]|rfl|(rw[if_neg hb]),?_⟩
    exact BH
end
theorem Lr(A:Option Addr)(c:Nat)(ts:List Az)(w:World)(hn:ts.length<=30000)(hl:∀i,i<ts.length->(El ts i).length<=20000)(hA:0<ts.length->∃g o,A=some ⟨g,o,none⟩/\g<w.heap.size/\∀i,i<ts.length->w.cell? ⟨g,o+i,none⟩=some (.string (bs (El ts i)))):Calls prog 36 #[.slice A ts.length c] w (AM w (CH (CV ts))):=by
 by_cases h3:ts.length<3
 ·have key:CV ts=Aa:=by unfold CV;rw[if_pos h3]
  rw[key];exact Zp A c ts.length w (by omega)
 obtain⟨g,o,rfl,hg,hc⟩:=hA (by omega);have N3:(3:Int)<=(ts.length:Int):=by omega
 cases h0:El ts 0==[111,98,106,101,99,116]
 ·cases h0r:El ts 0==[114,101,103,105,111,110]
  ·cases h0g:El ts 0==[103,117,97,114,100]
   ·(have key:CV ts=Aa:=by unfold CV;rw[if_neg h3,h0,h0r,h0g];rfl);rw[key];exact aL g o c ts.length _ w hg (hc 0 (by omega)) h0 h0r h0g N3 hn
   ·by_cases e3:ts.length=3
    ·(have key:CV ts=Uo ts:=by unfold CV;rw[if_neg h3,h0,h0r,h0g,e3];rfl);rw[key,e3];exact Zq g o c _ _ _ w hg (hc 0 (by omega)) (hc 1 (by omega)) (hc 2 (by omega)) (hl 1 (by omega)) (hl 2 (by omega)) h0 h0r h0g
    ·(have key:CV ts=Aa:=by unfold CV;rw[if_neg h3,h0,h0r,h0g,show (ts.length==3)=false by simpa using e3];rfl);rw[key];exact Zx g o c ts.length _ w hg (hc 0 (by omega)) h0 h0r h0g N3 hn (by rw[beq_eq_false_iff_ne];omega)
  ·(have key:CV ts=Ta ts:=by unfold CV;rw[if_neg h3,h0,h0r];rfl);rw[key];unfold Ta;by_cases e4:ts.length=4
   ·rw[e4];cases hm:CR (El ts 2)
    ·exact W7 g o c _ _ _ _ w hg (hc 0 (by omega)) (hc 1 (by omega)) (hc 2 (by omega)) (hc 3 (by omega)) (hl 2 (by omega)) h0 h0r hm
    ·exact Wa g o c _ _ _ _ w hg (hc 0 (by omega)) (hc 1 (by omega)) (hc 2 (by omega)) (hc 3 (by omega)) (hl 1 (by omega)) (hl 2 (by omega)) h0 h0r hm
   ·by_cases e5:ts.length=5
    ·rw[e5];cases hm:CR (El ts 2)
     ·exact Vn g o c _ _ _ _ _ w hg (hc 0 (by omega)) (hc 1 (by omega)) (hc 2 (by omega)) (hc 3 (by omega)) (hc 4 (by omega)) (hl 2 (by omega)) h0 h0r hm
     ·cases h4:El ts 4==[104,117,103,101]
      ·exact Ww g o c _ _ _ _ _ w hg (hc 0 (by omega)) (hc 1 (by omega)) (hc 2 (by omega)) (hc 3 (by omega)) (hc 4 (by omega)) (hl 2 (by omega)) h0 h0r hm h4
      ·exact Vo g o c _ _ _ _ _ w hg (hc 0 (by omega)) (hc 1 (by omega)) (hc 2 (by omega)) (hc 3 (by omega)) (hc 4 (by omega)) (hl 1 (by omega)) (hl 2 (by omega)) h0 h0r hm h4
    ·rw[show (ts.length==4)=false by simpa using e4,show (ts.length==5)=false by simpa using e5];exact Ze g o c ts.length _ w hg (hc 0 (by omega)) h0 h0r N3 hn (by rw[bne_iff_ne];omega) (by rw[bne_iff_ne];omega)
 ·have key:CV ts=TG ts:=by unfold CV;rw[if_neg h3,h0];rfl
  rw[key];unfold TG;by_cases e5:ts.length=5
  ·rw[e5];cases hm:CR (El ts 1)
   ·exact WU g o c _ _ _ _ _ w hg (hc 0 (by omega)) (hc 1 (by omega)) (hc 2 (by omega)) (hc 3 (by omega)) (hc 4 (by omega)) (hl 1 (by omega)) h0 hm
   ·cases h4:El ts 3==[97,116]
    ·exact WK g o c _ _ _ _ _ w hg (hc 0 (by omega)) (hc 1 (by omega)) (hc 2 (by omega)) (hc 3 (by omega)) (hc 4 (by omega)) (hl 1 (by omega)) h0 hm h4
    ·exact Vk g o c _ _ _ _ _ w hg (hc 0 (by omega)) (hc 1 (by omega)) (hc 2 (by omega)) (hc 3 (by omega)) (hc 4 (by omega)) (hl 1 (by omega)) (hl 2 (by omega)) (hl 4 (by omega)) h0 hm h4
  ·by_cases e6:ts.length=6
   ·rw[e6];cases hm:CR (El ts 1)
    ·exact Vp g o c _ _ _ _ _ _ w hg (hc 0 (by omega)) (hc 1 (by omega)) (hc 2 (by omega)) (hc 3 (by omega)) (hc 4 (by omega)) (hc 5 (by omega)) (hl 1 (by omega)) h0 hm
    ·cases h4:El ts 3==[97,116]
     ·exact Xb g o c _ _ _ _ _ _ w hg (hc 0 (by omega)) (hc 1 (by omega)) (hc 2 (by omega)) (hc 3 (by omega)) (hc 4 (by omega)) (hc 5 (by omega)) (hl 1 (by omega)) h0 hm h4
     ·cases h5:El ts 5==[115,104,97,114,101,100]
      ·exact WF g o c _ _ _ _ _ _ w hg (hc 0 (by omega)) (hc 1 (by omega)) (hc 2 (by omega)) (hc 3 (by omega)) (hc 4 (by omega)) (hc 5 (by omega)) (hl 1 (by omega)) h0 hm h4 h5
      ·exact WB g o c _ _ _ _ _ _ w hg (hc 0 (by omega)) (hc 1 (by omega)) (hc 2 (by omega)) (hc 3 (by omega)) (hc 4 (by omega)) (hc 5 (by omega)) (hl 1 (by omega)) (hl 2 (by omega)) (hl 4 (by omega)) h0 hm h4 h5
   ·rw[show (ts.length==5)=false by simpa using e5,show (ts.length==6)=false by simpa using e6];exact Zb g o c ts.length _ w hg (hc 0 (by omega)) h0 N3 hn (by rw[bne_iff_ne];omega) (by rw[bne_iff_ne];omega)
end Go.Proofs.YtnmhkgmmpkjjeaaGreat
