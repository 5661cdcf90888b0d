import Derived.Test.YtnmhkgmmpkjjeaaGreatK07
namespace Go.Proofs.YtnmhkgmmpkjjeaaGreat
open Go.ChangeShapes Go.WideShapes Go.ChangeAt Go.RowKit
set_option linter.unusedVariables false
set_option maxRecDepth 100000
attribute [local go_sem ↓] Go.wp_at_zero Go.wp_at_succ
attribute [local go_sem] Cj Dv Dz FW Dw D0
def Bu (s:St):Value:=.agg #[.int .i64 s.kind,.string (bs s.name),.int .i64 s.a,.int .i64 s.b,.int .i64 s.perm,.bool s.extra]
set_option maxHeartbeats 4000000 in
theorem Yg (g o c n:Nat) (x0:Ap) (w:World) (hg:g<w.heap.size) (c0:w.cell? ⟨g,o,none⟩=some (.string (bs x0)))  (h0:(x0==[111,98,106,101,99,116])=true) (hn3:(3:Int)<=(n:Int)) (hn:n<=30000) (e5:((n:Int) != 5)=true) (e6:((n:Int) != 6)=true) : Calls Tryz.prog 36 #[.slice (some ⟨g,o,none⟩) n c] w fun e w'=>e=.returned (Bu AR)/\Below w.heap.size w w':=by
 as_aux_lemma =>
 go_enter Tryz.func36,Tryz.ntmps36
 go_wp2_with (go_at_call 97;refine(Ac _ _ (by assumption)).mono ?_;rintro e w' ⟨rfl,rfl⟩)
 go_wp2_with fail
 refine bodyPost_ret (v:=Bu AR) (by simp[results,Tryz.results36,go_sem,Bu,AR]) rfl ⟨rfl,?_⟩;repeat (first|exact Below.refl _ _|with_reducible refine Below.drew ?_|with_reducible refine Below.setCell ?_ (by first|omega|(simp<;>omega)) _|with_reducible refine Below.alloc ?_ (by first|omega|(simp<;>omega)) _)
set_option maxHeartbeats 4000000 in
theorem WU (g o c:Nat) (x0 x1 x2 x3 x4:Ap) (w:World) (hg:g<w.heap.size) (c0:w.cell? ⟨g,o,none⟩=some (.string (bs x0))) (c1:w.cell? ⟨g,o+1,none⟩=some (.string (bs x1))) (c2:w.cell? ⟨g,o+2,none⟩=some (.string (bs x2))) (c3:w.cell? ⟨g,o+3,none⟩=some (.string (bs x3))) (c4:w.cell? ⟨g,o+4,none⟩=some (.string (bs x4))) (l1:x1.length<=20000) (h0:(x0==[111,98,106,101,99,116])=true) (hm:CL x1=false) : Calls Tryz.prog 36 #[.slice (some ⟨g,o,none⟩) 5 c] w fun e w'=>e=.returned (Bu AR)/\Below w.heap.size w w':=by
 as_aux_lemma =>
 go_enter Tryz.func36,Tryz.ntmps36
 go_wp2_with (go_at_call 97;refine(Ac _ _ (by assumption)).mono ?_;rintro e w' ⟨rfl,rfl⟩)
 go_wp2_with fail
 refine bodyPost_ret (v:=Bu AR) (by simp[results,Tryz.results36,go_sem,Bu,AR]) rfl ⟨rfl,?_⟩;repeat (first|exact Below.refl _ _|with_reducible refine Below.drew ?_|with_reducible refine Below.setCell ?_ (by first|omega|(simp<;>omega)) _|with_reducible refine Below.alloc ?_ (by first|omega|(simp<;>omega)) _)
set_option maxHeartbeats 4000000 in
theorem Vq (g o c:Nat) (x0 x1 x2 x3 x4:Ap) (w:World) (hg:g<w.heap.size) (c0:w.cell? ⟨g,o,none⟩=some (.string (bs x0))) (c1:w.cell? ⟨g,o+1,none⟩=some (.string (bs x1))) (c2:w.cell? ⟨g,o+2,none⟩=some (.string (bs x2))) (c3:w.cell? ⟨g,o+3,none⟩=some (.string (bs x3))) (c4:w.cell? ⟨g,o+4,none⟩=some (.string (bs x4))) (l1:x1.length<=20000) (h0:(x0==[111,98,106,101,99,116])=true) (hm:CL x1=true) (h3:(x3==[97,116])=false) : Calls Tryz.prog 36 #[.slice (some ⟨g,o,none⟩) 5 c] w fun e w'=>e=.returned (Bu AR)/\Below w.heap.size w w':=by
 as_aux_lemma =>
 go_enter Tryz.func36,Tryz.ntmps36
 go_wp2_with (go_at_call 97;refine(Ac _ _ (by assumption)).mono ?_;rintro e w' ⟨rfl,rfl⟩)
 go_wp2_with fail
 refine bodyPost_ret (v:=Bu AR) (by simp[results,Tryz.results36,go_sem,Bu,AR]) rfl ⟨rfl,?_⟩;repeat (first|exact Below.refl _ _|with_reducible refine Below.drew ?_|with_reducible refine Below.setCell ?_ (by first|omega|(simp<;>omega)) _|with_reducible refine Below.alloc ?_ (by first|omega|(simp<;>omega)) _)
set_option maxHeartbeats 4000000 in
theorem WN (g o c:Nat) (x0 x1 x2 x3 x4 x5:Ap) (w:World) (hg:g<w.heap.size) (c0:w.cell? ⟨g,o,none⟩=some (.string (bs x0))) (c1:w.cell? ⟨g,o+1,none⟩=some (.string (bs x1))) (c2:w.cell? ⟨g,o+2,none⟩=some (.string (bs x2))) (c3:w.cell? ⟨g,o+3,none⟩=some (.string (bs x3))) (c4:w.cell? ⟨g,o+4,none⟩=some (.string (bs x4))) (c5:w.cell? ⟨g,o+5,none⟩=some (.string (bs x5))) (l1:x1.length<=20000) (h0:(x0==[111,98,106,101,99,116])=true) (hm:CL x1=false) : Calls Tryz.prog 36 #[.slice (some ⟨g,o,none⟩) 6 c] w fun e w'=>e=.returned (Bu AR)/\Below w.heap.size w w':=by
 as_aux_lemma =>
 go_enter Tryz.func36,Tryz.ntmps36
 go_wp2_with (go_at_call 97;refine(Ac _ _ (by assumption)).mono ?_;rintro e w' ⟨rfl,rfl⟩)
 go_wp2_with fail
 refine bodyPost_ret (v:=Bu AR) (by simp[results,Tryz.results36,go_sem,Bu,AR]) rfl ⟨rfl,?_⟩;repeat (first|exact Below.refl _ _|with_reducible refine Below.drew ?_|with_reducible refine Below.setCell ?_ (by first|omega|(simp<;>omega)) _|with_reducible refine Below.alloc ?_ (by first|omega|(simp<;>omega)) _)
set_option maxHeartbeats 4000000 in
theorem Vn (g o c:Nat) (x0 x1 x2 x3 x4 x5:Ap) (w:World) (hg:g<w.heap.size) (c0:w.cell? ⟨g,o,none⟩=some (.string (bs x0))) (c1:w.cell? ⟨g,o+1,none⟩=some (.string (bs x1))) (c2:w.cell? ⟨g,o+2,none⟩=some (.string (bs x2))) (c3:w.cell? ⟨g,o+3,none⟩=some (.string (bs x3))) (c4:w.cell? ⟨g,o+4,none⟩=some (.string (bs x4))) (c5:w.cell? ⟨g,o+5,none⟩=some (.string (bs x5))) (l1:x1.length<=20000) (h0:(x0==[111,98,106,101,99,116])=true) (hm:CL x1=true) (h3:(x3==[97,116])=false) : Calls Tryz.prog 36 #[.slice (some ⟨g,o,none⟩) 6 c] w fun e w'=>e=.returned (Bu AR)/\Below w.heap.size w w':=by
 as_aux_lemma =>
 go_enter Tryz.func36,Tryz.ntmps36
 go_wp2_with (go_at_call 97;refine(Ac _ _ (by assumption)).mono ?_;rintro e w' ⟨rfl,rfl⟩)
 go_wp2_with fail
 refine bodyPost_ret (v:=Bu AR) (by simp[results,Tryz.results36,go_sem,Bu,AR]) rfl ⟨rfl,?_⟩;repeat (first|exact Below.refl _ _|with_reducible refine Below.drew ?_|with_reducible refine Below.setCell ?_ (by first|omega|(simp<;>omega)) _|with_reducible refine Below.alloc ?_ (by first|omega|(simp<;>omega)) _)
set_option maxHeartbeats 4000000 in
theorem Vt (g o c:Nat) (x0 x1 x2 x3 x4 x5:Ap) (w:World) (hg:g<w.heap.size) (c0:w.cell? ⟨g,o,none⟩=some (.string (bs x0))) (c1:w.cell? ⟨g,o+1,none⟩=some (.string (bs x1))) (c2:w.cell? ⟨g,o+2,none⟩=some (.string (bs x2))) (c3:w.cell? ⟨g,o+3,none⟩=some (.string (bs x3))) (c4:w.cell? ⟨g,o+4,none⟩=some (.string (bs x4))) (c5:w.cell? ⟨g,o+5,none⟩=some (.string (bs x5))) (l1:x1.length<=20000) (h0:(x0==[111,98,106,101,99,116])=true) (hm:CL x1=true) (h3:(x3==[97,116])=true) (h5:(x5==[115,104,97,114,101,100])=false) : Calls Tryz.prog 36 #[.slice (some ⟨g,o,none⟩) 6 c] w fun e w'=>e=.returned (Bu AR)/\Below w.heap.size w w':=by
 as_aux_lemma =>
 go_enter Tryz.func36,Tryz.ntmps36
 go_wp2_with (go_at_call 97;refine(Ac _ _ (by assumption)).mono ?_;rintro e w' ⟨rfl,rfl⟩)
 go_wp2_with fail
 refine bodyPost_ret (v:=Bu AR) (by simp[results,Tryz.results36,go_sem,Bu,AR]) rfl ⟨rfl,?_⟩;repeat (first|exact Below.refl _ _|with_reducible refine Below.drew ?_|with_reducible refine Below.setCell ?_ (by first|omega|(simp<;>omega)) _|with_reducible refine Below.alloc ?_ (by first|omega|(simp<;>omega)) _)
set_option maxHeartbeats 4000000 in
theorem YY (g o c n:Nat) (x0:Ap) (w:World) (hg:g<w.heap.size) (c0:w.cell? ⟨g,o,none⟩=some (.string (bs x0)))  (h0:(x0==[111,98,106,101,99,116])=false) (h0r:(x0==[114,101,103,105,111,110])=true) (hn3:(3:Int)<=(n:Int)) (hn:n<=30000) (e4:((n:Int) != 4)=true) (e5:((n:Int) != 5)=true) : Calls Tryz.prog 36 #[.slice (some ⟨g,o,none⟩) n c] w fun e w'=>e=.returned (Bu AR)/\Below w.heap.size w w':=by
 as_aux_lemma =>
 go_enter Tryz.func36,Tryz.ntmps36
 go_wp2_with (go_at_call 97;refine(Ac _ _ (by assumption)).mono ?_;rintro e w' ⟨rfl,rfl⟩)
 go_wp2_with fail
 refine bodyPost_ret (v:=Bu AR) (by simp[results,Tryz.results36,go_sem,Bu,AR]) rfl ⟨rfl,?_⟩;repeat (first|exact Below.refl _ _|with_reducible refine Below.drew ?_|with_reducible refine Below.setCell ?_ (by first|omega|(simp<;>omega)) _|with_reducible refine Below.alloc ?_ (by first|omega|(simp<;>omega)) _)
set_option maxHeartbeats 4000000 in
theorem WO (g o c:Nat) (x0 x1 x2 x3:Ap) (w:World) (hg:g<w.heap.size) (c0:w.cell? ⟨g,o,none⟩=some (.string (bs x0))) (c1:w.cell? ⟨g,o+1,none⟩=some (.string (bs x1))) (c2:w.cell? ⟨g,o+2,none⟩=some (.string (bs x2))) (c3:w.cell? ⟨g,o+3,none⟩=some (.string (bs x3))) (l2:x2.length<=20000) (h0:(x0==[111,98,106,101,99,116])=false) (h0r:(x0==[114,101,103,105,111,110])=true) (hm:CL x2=false) : Calls Tryz.prog 36 #[.slice (some ⟨g,o,none⟩) 4 c] w fun e w'=>e=.returned (Bu AR)/\Below w.heap.size w w':=by
 as_aux_lemma =>
 go_enter Tryz.func36,Tryz.ntmps36
 go_wp2_with (go_at_call 97;refine(Ac _ _ (by assumption)).mono ?_;rintro e w' ⟨rfl,rfl⟩)
 go_wp2_with fail
 refine bodyPost_ret (v:=Bu AR) (by simp[results,Tryz.results36,go_sem,Bu,AR]) rfl ⟨rfl,?_⟩;repeat (first|exact Below.refl _ _|with_reducible refine Below.drew ?_|with_reducible refine Below.setCell ?_ (by first|omega|(simp<;>omega)) _|with_reducible refine Below.alloc ?_ (by first|omega|(simp<;>omega)) _)
set_option maxHeartbeats 4000000 in
theorem Vy (g o c:Nat) (x0 x1 x2 x3 x4:Ap) (w:World) (hg:g<w.heap.size) (c0:w.cell? ⟨g,o,none⟩=some (.string (bs x0))) (c1:w.cell? ⟨g,o+1,none⟩=some (.string (bs x1))) (c2:w.cell? ⟨g,o+2,none⟩=some (.string (bs x2))) (c3:w.cell? ⟨g,o+3,none⟩=some (.string (bs x3))) (c4:w.cell? ⟨g,o+4,none⟩=some (.string (bs x4))) (l2:x2.length<=20000) (h0:(x0==[111,98,106,101,99,116])=false) (h0r:(x0==[114,101,103,105,111,110])=true) (hm:CL x2=false) : Calls Tryz.prog 36 #[.slice (some ⟨g,o,none⟩) 5 c] w fun e w'=>e=.returned (Bu AR)/\Below w.heap.size w w':=by
 as_aux_lemma =>
 go_enter Tryz.func36,Tryz.ntmps36
 go_wp2_with (go_at_call 97;refine(Ac _ _ (by assumption)).mono ?_;rintro e w' ⟨rfl,rfl⟩)
 go_wp2_with fail
 refine bodyPost_ret (v:=Bu AR) (by simp[results,Tryz.results36,go_sem,Bu,AR]) rfl ⟨rfl,?_⟩;repeat (first|exact Below.refl _ _|with_reducible refine Below.drew ?_|with_reducible refine Below.setCell ?_ (by first|omega|(simp<;>omega)) _|with_reducible refine Below.alloc ?_ (by first|omega|(simp<;>omega)) _)
set_option maxHeartbeats 4000000 in
theorem VU (g o c:Nat) (x0 x1 x2 x3 x4:Ap) (w:World) (hg:g<w.heap.size) (c0:w.cell? ⟨g,o,none⟩=some (.string (bs x0))) (c1:w.cell? ⟨g,o+1,none⟩=some (.string (bs x1))) (c2:w.cell? ⟨g,o+2,none⟩=some (.string (bs x2))) (c3:w.cell? ⟨g,o+3,none⟩=some (.string (bs x3))) (c4:w.cell? ⟨g,o+4,none⟩=some (.string (bs x4))) (l2:x2.length<=20000) (h0:(x0==[111,98,106,101,99,116])=false) (h0r:(x0==[114,101,103,105,111,110])=true) (hm:CL x2=true) (h4:(x4==[104,117,103,101])=false) : Calls Tryz.prog 36 #[.slice (some ⟨g,o,none⟩) 5 c] w fun e w'=>e=.returned (Bu AR)/\Below w.heap.size w w':=by
 as_aux_lemma =>
 go_enter Tryz.func36,Tryz.ntmps36
 go_wp2_with (go_at_call 97;refine(Ac _ _ (by assumption)).mono ?_;rintro e w' ⟨rfl,rfl⟩)
 go_wp2_with fail
 refine bodyPost_ret (v:=Bu AR) (by simp[results,Tryz.results36,go_sem,Bu,AR]) rfl ⟨rfl,?_⟩;repeat (first|exact Below.refl _ _|with_reducible refine Below.drew ?_|with_reducible refine Below.setCell ?_ (by first|omega|(simp<;>omega)) _|with_reducible refine Below.alloc ?_ (by first|omega|(simp<;>omega)) _)
set_option maxHeartbeats 4000000 in
theorem YT (g o c n:Nat) (x0:Ap) (w:World) (hg:g<w.heap.size) (c0:w.cell? ⟨g,o,none⟩=some (.string (bs x0)))  (h0:(x0==[111,98,106,101,99,116])=false) (h0r:(x0==[114,101,103,105,111,110])=false) (h0g:(x0==[103,117,97,114,100])=true) (hn3:(3:Int)<=(n:Int)) (hn:n<=30000) (e3:((n:Int)==3)=false) : Calls Tryz.prog 36 #[.slice (some ⟨g,o,none⟩) n c] w fun e w'=>e=.returned (Bu AR)/\Below w.heap.size w w':=by
 as_aux_lemma =>
 go_enter Tryz.func36,Tryz.ntmps36
 go_wp2_with (go_at_call 97;refine(Ac _ _ (by assumption)).mono ?_;rintro e w' ⟨rfl,rfl⟩)
 go_wp2_with fail
 refine bodyPost_ret (v:=Bu AR) (by simp[results,Tryz.results36,go_sem,Bu,AR]) rfl ⟨rfl,?_⟩;repeat (first|exact Below.refl _ _|with_reducible refine Below.drew ?_|with_reducible refine Below.setCell ?_ (by first|omega|(simp<;>omega)) _|with_reducible refine Below.alloc ?_ (by first|omega|(simp<;>omega)) _)
set_option maxHeartbeats 4000000 in
theorem Yu (g o c n:Nat) (x0:Ap) (w:World) (hg:g<w.heap.size) (c0:w.cell? ⟨g,o,none⟩=some (.string (bs x0)))  (h0:(x0==[111,98,106,101,99,116])=false) (h0r:(x0==[114,101,103,105,111,110])=false) (h0g:(x0==[103,117,97,114,100])=false) (hn3:(3:Int)<=(n:Int)) (hn:n<=30000) : Calls Tryz.prog 36 #[.slice (some ⟨g,o,none⟩) n c] w fun e w'=>e=.returned (Bu AR)/\Below w.heap.size w w':=by
 as_aux_lemma =>
 go_enter Tryz.func36,Tryz.ntmps36
 go_wp2_with (go_at_call 97;refine(Ac _ _ (by assumption)).mono ?_;rintro e w' ⟨rfl,rfl⟩)
 go_wp2_with fail
 refine bodyPost_ret (v:=Bu AR) (by simp[results,Tryz.results36,go_sem,Bu,AR]) rfl ⟨rfl,?_⟩;repeat (first|exact Below.refl _ _|with_reducible refine Below.drew ?_|with_reducible refine Below.setCell ?_ (by first|omega|(simp<;>omega)) _|with_reducible refine Below.alloc ?_ (by first|omega|(simp<;>omega)) _)
theorem Yb (A:Option Addr) (c n:Nat) (w:World) (hn:(n:Int)<3) : Calls Tryz.prog 36 #[.slice A n c] w fun e w'=>e=.returned (Bu AR)/\Below w.heap.size w w':=by
 go_enter Tryz.func36,Tryz.ntmps36
 go_wp2_with fail
 refine bodyPost_ret (v:=Bu AR) (by simp[results,Tryz.results36,go_sem,Bu,AR]) rfl ⟨rfl,?_⟩;repeat (first|exact Below.refl _ _|with_reducible refine Below.drew ?_|with_reducible refine Below.setCell ?_ (by first|omega|(simp<;>omega)) _|with_reducible refine Below.alloc ?_ (by first|omega|(simp<;>omega)) _)
set_option maxHeartbeats 4000000 in
theorem YO (g o c:Nat) (x0 x1 x2:Ap) (w:World) (hg:g<w.heap.size) (c0:w.cell? ⟨g,o,none⟩=some (.string (bs x0))) (c1:w.cell? ⟨g,o+1,none⟩=some (.string (bs x1))) (c2:w.cell? ⟨g,o+2,none⟩=some (.string (bs x2))) (l1:x1.length<=20000) (l2:x2.length<=20000) (h0:(x0==[111,98,106,101,99,116])=false) (h0r:(x0==[114,101,103,105,111,110])=false) (h0g:(x0==[103,117,97,114,100])=true) : Calls Tryz.prog 36 #[.slice (some ⟨g,o,none⟩) 3 c] w fun e w'=>e=.returned (Bu (if AO x1<0\/AO x2<0 then AR else ⟨3,[],AO x1,AO x2,0,false⟩))/\Below w.heap.size w w':=by
 as_aux_lemma =>
 have HK:Hid (∀wX,Below w.heap.size w wX->(fun wX=>wX.cell? ⟨g,o+1,none⟩=some (.string (bs x1))/\wX.cell? ⟨g,o+2,none⟩=some (.string (bs x2))) wX):=A0 fun wX hX=>⟨(hX.cell hg).trans c1,(hX.cell hg).trans c2⟩
 go_enter Tryz.func36,Tryz.ntmps36
 go_wp2_with (go_at_call 97;refine(Ac _ _ (by assumption)).mono ?_;rintro e w' ⟨rfl,rfl⟩)
 go_region_held3 (fun wX=>wX.cell? ⟨g,o+1,none⟩=some (.string (bs x1))/\wX.cell? ⟨g,o+2,none⟩=some (.string (bs x2))) ((refine HK.out _ ?_;repeat (first|exact Below.refl _ _|with_reducible refine Below.drew ?_|with_reducible refine Below.setCell ?_ (by first|omega|(simp<;>omega)) _|with_reducible refine Below.alloc ?_ (by first|omega|(simp<;>omega)) _))) (first|(go_at_call 98;refine(Dc _ _ (by assumption)).mono ?_;rintro e w' ⟨rfl,rfl⟩)|(go_at_call 99;refine(Er _ _).mono ?_;rintro e w' ⟨rfl,rfl⟩))
 all_goals
  by_cases ha:AO x1<0
  ·have HR:Hid ((if AO x1<0\/AO x2<0 then AR else ⟨3,[],AO x1,AO x2,0,false⟩)=AR):=A0 (if_pos (.inl ha))
   go_wp2_with fail
   refine bodyPost_ret (v:=Bu AR) (by simp[results,Tryz.results36,go_sem,Bu,AR]) rfl ⟨by first|rw[HR.out]|rfl|(rw[if_pos HBB.out])|(rw[if_neg HBB.out]),?_⟩
   repeat (first|exact Below.refl _ _|with_reducible refine Below.drew ?_|with_reducible refine Below.setCell ?_ (by first|omega|(simp<;>omega)) _|with_reducible refine Below.alloc ?_ (by first|omega|(simp<;>omega)) _)
  ·have ha':0<=AO x1:=by omega
   by_cases hb:AO x2<0
   ·have HR:Hid ((if AO x1<0\/AO x2<0 then AR else ⟨3,[],AO x1,AO x2,0,false⟩)=AR):=A0 (if_pos (.inr hb))
    have hb':AO x2<0:=hb
    have HBB:Hid _:=hb
    clear hb
    go_wp2_with fail
    refine bodyPost_ret (v:=Bu AR) (by simp[results,Tryz.results36,go_sem,Bu,AR]) rfl ⟨by first|rw[HR.out]|rfl|(rw[if_pos HBB.out])|(rw[if_neg HBB.out]),?_⟩
    repeat (first|exact Below.refl _ _|with_reducible refine Below.drew ?_|with_reducible refine Below.setCell ?_ (by first|omega|(simp<;>omega)) _|with_reducible refine Below.alloc ?_ (by first|omega|(simp<;>omega)) _)
   ·have HR:Hid ((if AO x1<0\/AO x2<0 then AR else ⟨3,[],AO x1,AO x2,0,false⟩)=⟨3,[],AO x1,AO x2,0,false⟩):=A0 (if_neg (fun h=>h.elim ha hb))
    have hb':0<=AO x2:=by omega
    have HBB:Hid _:=hb
    clear hb
    go_wp2_with fail
    refine bodyPost_ret (v:=Bu ⟨3,[],AO x1,AO x2,0,false⟩) (by simp[results,Tryz.results36,go_sem,Bu]) rfl ⟨by first|rw[HR.out]|rfl|(rw[if_pos HBB.out])|(rw[if_neg HBB.out]),?_⟩
    repeat (first|exact Below.refl _ _|with_reducible refine Below.drew ?_|with_reducible refine Below.setCell ?_ (by first|omega|(simp<;>omega)) _|with_reducible refine Below.alloc ?_ (by first|omega|(simp<;>omega)) _)
set_option maxHeartbeats 4000000 in
theorem WT (g o c:Nat) (x0 x1 x2 x3 x4:Ap) (w:World) (hg:g<w.heap.size) (c0:w.cell? ⟨g,o,none⟩=some (.string (bs x0))) (c1:w.cell? ⟨g,o+1,none⟩=some (.string (bs x1))) (c2:w.cell? ⟨g,o+2,none⟩=some (.string (bs x2))) (c3:w.cell? ⟨g,o+3,none⟩=some (.string (bs x3))) (c4:w.cell? ⟨g,o+4,none⟩=some (.string (bs x4))) (l1:x1.length<=20000) (l2:x2.length<=20000) (l4:x4.length<=20000) (h0:(x0==[111,98,106,101,99,116])=true) (hm:CL x1=true) (h3:(x3==[97,116])=true) : Calls Tryz.prog 36 #[.slice (some ⟨g,o,none⟩) 5 c] w fun e w'=>e=.returned (Bu (if AO x2<0\/AO x4<0 then AR else ⟨1,x1,AO x2,AO x4,0,false⟩))/\Below w.heap.size w w':=by
 as_aux_lemma =>
 have HK:Hid (∀wX,Below w.heap.size w wX->(fun wX=>wX.cell? ⟨g,o+1,none⟩=some (.string (bs x1))/\wX.cell? ⟨g,o+2,none⟩=some (.string (bs x2))/\wX.cell? ⟨g,o+4,none⟩=some (.string (bs x4))) wX):=A0 fun wX hX=>⟨(hX.cell hg).trans c1,(hX.cell hg).trans c2,(hX.cell hg).trans c4⟩
 go_enter Tryz.func36,Tryz.ntmps36
 go_wp2_with (go_at_call 97;refine(Ac _ _ (by assumption)).mono ?_;rintro e w' ⟨rfl,rfl⟩)
 go_region_held3 (fun wX=>wX.cell? ⟨g,o+1,none⟩=some (.string (bs x1))/\wX.cell? ⟨g,o+2,none⟩=some (.string (bs x2))/\wX.cell? ⟨g,o+4,none⟩=some (.string (bs x4))) ((refine HK.out _ ?_;repeat (first|exact Below.refl _ _|with_reducible refine Below.drew ?_|with_reducible refine Below.setCell ?_ (by first|omega|(simp<;>omega)) _|with_reducible refine Below.alloc ?_ (by first|omega|(simp<;>omega)) _))) (first|(go_at_call 98;refine(Dc _ _ (by assumption)).mono ?_;rintro e w' ⟨rfl,rfl⟩)|(go_at_call 99;refine(Er _ _).mono ?_;rintro e w' ⟨rfl,rfl⟩))
 all_goals
  by_cases ha:AO x2<0
  ·have HR:Hid ((if AO x2<0\/AO x4<0 then AR else ⟨1,x1,AO x2,AO x4,0,false⟩)=AR):=A0 (if_pos (.inl ha))
   go_wp2_with fail
   refine bodyPost_ret (v:=Bu AR) (by simp[results,Tryz.results36,go_sem,Bu,AR]) rfl ⟨by first|rw[HR.out]|rfl|(rw[if_pos HBB.out])|(rw[if_neg HBB.out]),?_⟩
   repeat (first|exact Below.refl _ _|with_reducible refine Below.drew ?_|with_reducible refine Below.setCell ?_ (by first|omega|(simp<;>omega)) _|with_reducible refine Below.alloc ?_ (by first|omega|(simp<;>omega)) _)
  ·have ha':0<=AO x2:=by omega
   by_cases hb:AO x4<0
   ·have HR:Hid ((if AO x2<0\/AO x4<0 then AR else ⟨1,x1,AO x2,AO x4,0,false⟩)=AR):=A0 (if_pos (.inr hb))
    have hb':AO x4<0:=hb
    have HBB:Hid _:=hb
    clear hb
    go_wp2_with fail
    refine bodyPost_ret (v:=Bu AR) (by simp[results,Tryz.results36,go_sem,Bu,AR]) rfl ⟨by first|rw[HR.out]|rfl|(rw[if_pos HBB.out])|(rw[if_neg HBB.out]),?_⟩
    repeat (first|exact Below.refl _ _|with_reducible refine Below.drew ?_|with_reducible refine Below.setCell ?_ (by first|omega|(simp<;>omega)) _|with_reducible refine Below.alloc ?_ (by first|omega|(simp<;>omega)) _)
   ·have HR:Hid ((if AO x2<0\/AO x4<0 then AR else ⟨1,x1,AO x2,AO x4,0,false⟩)=⟨1,x1,AO x2,AO x4,0,false⟩):=A0 (if_neg (fun h=>h.elim ha hb))
    have hb':0<=AO x4:=by omega
    have HBB:Hid _:=hb
    clear hb
    go_wp2_with fail
    refine bodyPost_ret (v:=Bu ⟨1,x1,AO x2,AO x4,0,false⟩) (by simp[results,Tryz.results36,go_sem,Bu]) rfl ⟨by first|rw[HR.out]|rfl|(rw[if_pos HBB.out])|(rw[if_neg HBB.out]),?_⟩
    repeat (first|exact Below.refl _ _|with_reducible refine Below.drew ?_|with_reducible refine Below.setCell ?_ (by first|omega|(simp<;>omega)) _|with_reducible refine Below.alloc ?_ (by first|omega|(simp<;>omega)) _)
set_option maxHeartbeats 4000000 in
theorem Vh (g o c:Nat) (x0 x1 x2 x3 x4 x5:Ap) (w:World) (hg:g<w.heap.size) (c0:w.cell? ⟨g,o,none⟩=some (.string (bs x0))) (c1:w.cell? ⟨g,o+1,none⟩=some (.string (bs x1))) (c2:w.cell? ⟨g,o+2,none⟩=some (.string (bs x2))) (c3:w.cell? ⟨g,o+3,none⟩=some (.string (bs x3))) (c4:w.cell? ⟨g,o+4,none⟩=some (.string (bs x4))) (c5:w.cell? ⟨g,o+5,none⟩=some (.string (bs x5))) (l1:x1.length<=20000) (l2:x2.length<=20000) (l4:x4.length<=20000) (h0:(x0==[111,98,106,101,99,116])=true) (hm:CL x1=true) (h3:(x3==[97,116])=true) (h5:(x5==[115,104,97,114,101,100])=true) : Calls Tryz.prog 36 #[.slice (some ⟨g,o,none⟩) 6 c] w fun e w'=>e=.returned (Bu (if AO x2<0\/AO x4<0 then AR else ⟨1,x1,AO x2,AO x4,0,true⟩))/\Below w.heap.size w w':=by
 as_aux_lemma =>
 have HK:Hid (∀wX,Below w.heap.size w wX->(fun wX=>wX.cell? ⟨g,o+1,none⟩=some (.string (bs x1))/\wX.cell? ⟨g,o+2,none⟩=some (.string (bs x2))/\wX.cell? ⟨g,o+4,none⟩=some (.string (bs x4))) wX):=A0 fun wX hX=>⟨(hX.cell hg).trans c1,(hX.cell hg).trans c2,(hX.cell hg).trans c4⟩
 go_enter Tryz.func36,Tryz.ntmps36
 go_wp2_with (go_at_call 97;refine(Ac _ _ (by assumption)).mono ?_;rintro e w' ⟨rfl,rfl⟩)
 go_region_held3 (fun wX=>wX.cell? ⟨g,o+1,none⟩=some (.string (bs x1))/\wX.cell? ⟨g,o+2,none⟩=some (.string (bs x2))/\wX.cell? ⟨g,o+4,none⟩=some (.string (bs x4))) ((refine HK.out _ ?_;repeat (first|exact Below.refl _ _|with_reducible refine Below.drew ?_|with_reducible refine Below.setCell ?_ (by first|omega|(simp<;>omega)) _|with_reducible refine Below.alloc ?_ (by first|omega|(simp<;>omega)) _))) (first|(go_at_call 98;refine(Dc _ _ (by assumption)).mono ?_;rintro e w' ⟨rfl,rfl⟩)|(go_at_call 99;refine(Er _ _).mono ?_;rintro e w' ⟨rfl,rfl⟩))
 all_goals
  by_cases ha:AO x2<0
  ·have HR:Hid ((if AO x2<0\/AO x4<0 then AR else ⟨1,x1,AO x2,AO x4,0,true⟩)=AR):=A0 (if_pos (.inl ha))
   go_wp2_with fail
   refine bodyPost_ret (v:=Bu AR) (by simp[results,Tryz.results36,go_sem,Bu,AR]) rfl ⟨by first|rw[HR.out]|rfl|(rw[if_pos HBB.out])|(rw[if_neg HBB.out]),?_⟩
   repeat (first|exact Below.refl _ _|with_reducible refine Below.drew ?_|with_reducible refine Below.setCell ?_ (by first|omega|(simp<;>omega)) _|with_reducible refine Below.alloc ?_ (by first|omega|(simp<;>omega)) _)
  ·have ha':0<=AO x2:=by omega
   by_cases hb:AO x4<0
   ·have HR:Hid ((if AO x2<0\/AO x4<0 then AR else ⟨1,x1,AO x2,AO x4,0,true⟩)=AR):=A0 (if_pos (.inr hb))
    have hb':AO x4<0:=hb
    have HBB:Hid _:=hb
    clear hb
    go_wp2_with fail
    refine bodyPost_ret (v:=Bu AR) (by simp[results,Tryz.results36,go_sem,Bu,AR]) rfl ⟨by first|rw[HR.out]|rfl|(rw[if_pos HBB.out])|(rw[if_neg HBB.out]),?_⟩
    repeat (first|exact Below.refl _ _|with_reducible refine Below.drew ?_|with_reducible refine Below.setCell ?_ (by first|omega|(simp<;>omega)) _|with_reducible refine Below.alloc ?_ (by first|omega|(simp<;>omega)) _)
   ·have HR:Hid ((if AO x2<0\/AO x4<0 then AR else ⟨1,x1,AO x2,AO x4,0,true⟩)=⟨1,x1,AO x2,AO x4,0,true⟩):=A0 (if_neg (fun h=>h.elim ha hb))
    have hb':0<=AO x4:=by omega
    have HBB:Hid _:=hb
    clear hb
    go_wp2_with fail
    refine bodyPost_ret (v:=Bu ⟨1,x1,AO x2,AO x4,0,true⟩) (by simp[results,Tryz.results36,go_sem,Bu]) rfl ⟨by first|rw[HR.out]|rfl|(rw[if_pos HBB.out])|(rw[if_neg HBB.out]),?_⟩
    repeat (first|exact Below.refl _ _|with_reducible refine Below.drew ?_|with_reducible refine Below.setCell ?_ (by first|omega|(simp<;>omega)) _|with_reducible refine Below.alloc ?_ (by first|omega|(simp<;>omega)) _)
set_option maxHeartbeats 4000000 in
theorem Ve (g o c:Nat) (x0 x1 x2 x3:Ap) (w:World) (hg:g<w.heap.size) (c0:w.cell? ⟨g,o,none⟩=some (.string (bs x0))) (c1:w.cell? ⟨g,o+1,none⟩=some (.string (bs x1))) (c2:w.cell? ⟨g,o+2,none⟩=some (.string (bs x2))) (c3:w.cell? ⟨g,o+3,none⟩=some (.string (bs x3))) (l1:x1.length<=20000) (l2:x2.length<=20000) (h0:(x0==[111,98,106,101,99,116])=false) (h0r:(x0==[114,101,103,105,111,110])=true) (hm:CL x2=true) : Calls Tryz.prog 36 #[.slice (some ⟨g,o,none⟩) 4 c] w fun e w'=>e=.returned (Bu (if AO x1<0\/Dn x3=0 then AR else ⟨2,x2,AO x1,0,Dn x3,false⟩))/\Below w.heap.size w w':=by
 as_aux_lemma =>
 have hpm:=Er x3;generalize Dn x3=PM at *;have HK:Hid (∀wX,Below w.heap.size w wX->(fun wX=>wX.cell? ⟨g,o+1,none⟩=some (.string (bs x1))/\wX.cell? ⟨g,o+2,none⟩=some (.string (bs x2))/\wX.cell? ⟨g,o+3,none⟩=some (.string (bs x3))) wX):=A0 fun wX hX=>⟨(hX.cell hg).trans c1,(hX.cell hg).trans c2,(hX.cell hg).trans c3⟩
 go_enter Tryz.func36,Tryz.ntmps36
 go_wp2_with (go_at_call 97;refine(Ac _ _ (by assumption)).mono ?_;rintro e w' ⟨rfl,rfl⟩)
 go_region_held3 (fun wX=>wX.cell? ⟨g,o+1,none⟩=some (.string (bs x1))/\wX.cell? ⟨g,o+2,none⟩=some (.string (bs x2))/\wX.cell? ⟨g,o+3,none⟩=some (.string (bs x3))) ((refine HK.out _ ?_;repeat (first|exact Below.refl _ _|with_reducible refine Below.drew ?_|with_reducible refine Below.setCell ?_ (by first|omega|(simp<;>omega)) _|with_reducible refine Below.alloc ?_ (by first|omega|(simp<;>omega)) _))) (first|(go_at_call 98;refine(Dc _ _ (by assumption)).mono ?_;rintro e w' ⟨rfl,rfl⟩)|(go_at_call 99;refine(hpm _).mono ?_;rintro e w' ⟨rfl,rfl⟩))
 all_goals
  by_cases ha:AO x1<0
  ·have HR:Hid ((if AO x1<0\/PM=0 then AR else ⟨2,x2,AO x1,0,PM,false⟩)=AR):=A0 (if_pos (.inl ha))
   go_wp2_with fail
   refine bodyPost_ret (v:=Bu AR) (by simp[results,Tryz.results36,go_sem,Bu,AR]) rfl ⟨by first|rw[HR.out]|rfl|(rw[if_neg hb]),?_⟩
   repeat (first|exact Below.refl _ _|with_reducible refine Below.drew ?_|with_reducible refine Below.setCell ?_ (by first|omega|(simp<;>omega)) _|with_reducible refine Below.alloc ?_ (by first|omega|(simp<;>omega)) _)
  ·have ha':0<=AO x1:=by omega
   by_cases hb:PM=0
   ·have HR:Hid ((if AO x1<0\/PM=0 then AR else ⟨2,x2,AO x1,0,PM,false⟩)=AR):=A0 (if_pos (.inr hb))
    subst hb
    go_wp2_with fail
    refine bodyPost_ret (v:=Bu AR) (by simp[results,Tryz.results36,go_sem,Bu,AR]) rfl ⟨by first|rw[HR.out]|rfl|(rw[if_neg hb]),?_⟩
    repeat (first|exact Below.refl _ _|with_reducible refine Below.drew ?_|with_reducible refine Below.setCell ?_ (by first|omega|(simp<;>omega)) _|with_reducible refine Below.alloc ?_ (by first|omega|(simp<;>omega)) _)
   ·have HR:Hid ((if AO x1<0\/PM=0 then AR else ⟨2,x2,AO x1,0,PM,false⟩)=⟨2,x2,AO x1,0,PM,false⟩):=A0 (if_neg (fun h=>h.elim ha hb))
    have hb':(PM==0)=false:=by simp[hb]
    go_wp2_with fail
    refine bodyPost_ret (v:=Bu ⟨2,x2,AO x1,0,PM,false⟩) (by simp[results,Tryz.results36,go_sem,Bu]) rfl ⟨by first|rw[HR.out]|rfl|(rw[if_neg hb]),?_⟩
    repeat (first|exact Below.refl _ _|with_reducible refine Below.drew ?_|with_reducible refine Below.setCell ?_ (by first|omega|(simp<;>omega)) _|with_reducible refine Below.alloc ?_ (by first|omega|(simp<;>omega)) _)
set_option maxHeartbeats 4000000 in
theorem W6 (g o c:Nat) (x0 x1 x2 x3 x4:Ap) (w:World) (hg:g<w.heap.size) (c0:w.cell? ⟨g,o,none⟩=some (.string (bs x0))) (c1:w.cell? ⟨g,o+1,none⟩=some (.string (bs x1))) (c2:w.cell? ⟨g,o+2,none⟩=some (.string (bs x2))) (c3:w.cell? ⟨g,o+3,none⟩=some (.string (bs x3))) (c4:w.cell? ⟨g,o+4,none⟩=some (.string (bs x4))) (l1:x1.length<=20000) (l2:x2.length<=20000) (h0:(x0==[111,98,106,101,99,116])=false) (h0r:(x0==[114,101,103,105,111,110])=true) (hm:CL x2=true) (h4:(x4==[104,117,103,101])=true) : Calls Tryz.prog 36 #[.slice (some ⟨g,o,none⟩) 5 c] w fun e w'=>e=.returned (Bu (if AO x1<0\/Dn x3=0 then AR else ⟨2,x2,AO x1,0,Dn x3,true⟩))/\Below w.heap.size w w':=by
 as_aux_lemma =>
 have hpm:=Er x3;generalize Dn x3=PM at *;have HK:Hid (∀wX,Below w.heap.size w wX->(fun wX=>wX.cell? ⟨g,o+1,none⟩=some (.string (bs x1))/\wX.cell? ⟨g,o+2,none⟩=some (.string (bs x2))/\wX.cell? ⟨g,o+3,none⟩=some (.string (bs x3))) wX):=A0 fun wX hX=>⟨(hX.cell hg).trans c1,(hX.cell hg).trans c2,(hX.cell hg).trans c3⟩
 go_enter Tryz.func36,Tryz.ntmps36
 go_wp2_with (go_at_call 97;refine(Ac _ _ (by assumption)).mono ?_;rintro e w' ⟨rfl,rfl⟩)
 go_region_held3 (fun wX=>wX.cell? ⟨g,o+1,none⟩=some (.string (bs x1))/\wX.cell? ⟨g,o+2,none⟩=some (.string (bs x2))/\wX.cell? ⟨g,o+3,none⟩=some (.string (bs x3))) ((refine HK.out _ ?_;repeat (first|exact Below.refl _ _|with_reducible refine Below.drew ?_|with_reducible refine Below.setCell ?_ (by first|omega|(simp<;>omega)) _|with_reducible refine Below.alloc ?_ (by first|omega|(simp<;>omega)) _))) (first|(go_at_call 98;refine(Dc _ _ (by assumption)).mono ?_;rintro e w' ⟨rfl,rfl⟩)|(go_at_call 99;refine(hpm _).mono ?_;rintro e w' ⟨rfl,rfl⟩))
 all_goals
  by_cases ha:AO x1<0
  ·have HR:Hid ((if AO x1<0\/PM=0 then AR else ⟨2,x2,AO x1,0,PM,true⟩)=AR):=A0 (if_pos (.inl ha))
   go_wp2_with fail
   refine bodyPost_ret (v:=Bu AR) (by simp[results,Tryz.results36,go_sem,Bu,AR]) rfl ⟨by first|rw[HR.out]|rfl|(rw[if_neg hb]),?_⟩
   repeat (first|exact Below.refl _ _|with_reducible refine Below.drew ?_|with_reducible refine Below.setCell ?_ (by first|omega|(simp<;>omega)) _|with_reducible refine Below.alloc ?_ (by first|omega|(simp<;>omega)) _)
  ·have ha':0<=AO x1:=by omega
   by_cases hb:PM=0
   ·have HR:Hid ((if AO x1<0\/PM=0 then AR else ⟨2,x2,AO x1,0,PM,true⟩)=AR):=A0 (if_pos (.inr hb))
    subst hb
    go_wp2_with fail
    refine bodyPost_ret (v:=Bu AR) (by simp[results,Tryz.results36,go_sem,Bu,AR]) rfl ⟨by first|rw[HR.out]|rfl|(rw[if_neg hb]),?_⟩
    repeat (first|exact Below.refl _ _|with_reducible refine Below.drew ?_|with_reducible refine Below.setCell ?_ (by first|omega|(simp<;>omega)) _|with_reducible refine Below.alloc ?_ (by first|omega|(simp<;>omega)) _)
   ·have HR:Hid ((if AO x1<0\/PM=0 then AR else ⟨2,x2,AO x1,0,PM,true⟩)=⟨2,x2,AO x1,0,PM,true⟩):=A0 (if_neg (fun h=>h.elim ha hb))
    have hb':(PM==0)=false:=by simp[hb]
    go_wp2_with fail
    refine bodyPost_ret (v:=Bu ⟨2,x2,AO x1,0,PM,true⟩) (by simp[results,Tryz.results36,go_sem,Bu]) rfl ⟨by first|rw[HR.out]|rfl|(rw[if_neg hb]),?_⟩
    repeat (first|exact Below.refl _ _|with_reducible refine Below.drew ?_|with_reducible refine Below.setCell ?_ (by first|omega|(simp<;>omega)) _|with_reducible refine Below.alloc ?_ (by first|omega|(simp<;>omega)) _)
end Go.Proofs.YtnmhkgmmpkjjeaaGreat
namespace Go.Proofs.YtnmhkgmmpkjjeaaGreat
open Go.ChangeShapes Go.WideShapes Go.ChangeAt Go.RowKit
set_option linter.unusedVariables false
set_option maxRecDepth 100000
theorem LD (A:Option Addr) (c:Nat) (ts:List Ap) (w:World) (hn:ts.length<=30000) (hl:∀i,i<ts.length->(EF ts i).length<=20000) (hA:0<ts.length->∃g o,A=some ⟨g,o,none⟩/\g<w.heap.size/\∀i,i<ts.length->w.cell? ⟨g,o+i,none⟩=some (.string (bs (EF ts i)))) : Calls Tryz.prog 36 #[.slice A ts.length c] w fun e w'=>e=.returned (Bu (CR ts))/\Below w.heap.size w w':=by
 by_cases h3:ts.length<3
 ·have key:CR ts=AR:=by unfold CR;rw[if_pos h3]
  rw[key];exact Yb A c ts.length w (by omega)
 obtain⟨g,o,rfl,hg,hc⟩:=hA (by omega);have N3:(3:Int)<=(ts.length:Int):=by omega
 cases h0:EF ts 0==[111,98,106,101,99,116]
 ·cases h0r:EF ts 0==[114,101,103,105,111,110]
  ·cases h0g:EF ts 0==[103,117,97,114,100]
   ·(have key:CR ts=AR:=by unfold CR;rw[if_neg h3,h0,h0r,h0g];rfl);rw[key];exact Yu g o c ts.length _ w hg (hc 0 (by omega)) h0 h0r h0g N3 hn
   ·by_cases e3:ts.length=3
    ·(have key:CR ts=TZ ts:=by unfold CR;rw[if_neg h3,h0,h0r,h0g,e3];rfl);rw[key,e3];exact YO g o c _ _ _ w hg (hc 0 (by omega)) (hc 1 (by omega)) (hc 2 (by omega)) (hl 1 (by omega)) (hl 2 (by omega)) h0 h0r h0g
    ·(have key:CR ts=AR:=by unfold CR;rw[if_neg h3,h0,h0r,h0g,show (ts.length==3)=false by simpa using e3];rfl);rw[key];exact YT g o c ts.length _ w hg (hc 0 (by omega)) h0 h0r h0g N3 hn (by rw[beq_eq_false_iff_ne];omega)
  ·(have key:CR ts=Sx ts:=by unfold CR;rw[if_neg h3,h0,h0r];rfl);rw[key];unfold Sx;by_cases e4:ts.length=4
   ·rw[e4];cases hm:CL (EF ts 2)
    ·exact WO g o c _ _ _ _ w hg (hc 0 (by omega)) (hc 1 (by omega)) (hc 2 (by omega)) (hc 3 (by omega)) (hl 2 (by omega)) h0 h0r hm
    ·exact Ve g o c _ _ _ _ w hg (hc 0 (by omega)) (hc 1 (by omega)) (hc 2 (by omega)) (hc 3 (by omega)) (hl 1 (by omega)) (hl 2 (by omega)) h0 h0r hm
   ·by_cases e5:ts.length=5
    ·rw[e5];cases hm:CL (EF ts 2)
     ·exact Vy g o c _ _ _ _ _ w hg (hc 0 (by omega)) (hc 1 (by omega)) (hc 2 (by omega)) (hc 3 (by omega)) (hc 4 (by omega)) (hl 2 (by omega)) h0 h0r hm
     ·cases h4:EF ts 4==[104,117,103,101]
      ·exact VU g o c _ _ _ _ _ w hg (hc 0 (by omega)) (hc 1 (by omega)) (hc 2 (by omega)) (hc 3 (by omega)) (hc 4 (by omega)) (hl 2 (by omega)) h0 h0r hm h4
      ·exact W6 g o c _ _ _ _ _ w hg (hc 0 (by omega)) (hc 1 (by omega)) (hc 2 (by omega)) (hc 3 (by omega)) (hc 4 (by omega)) (hl 1 (by omega)) (hl 2 (by omega)) h0 h0r hm h4
    ·rw[show (ts.length==4)=false by simpa using e4,show (ts.length==5)=false by simpa using e5];exact YY g o c ts.length _ w hg (hc 0 (by omega)) h0 h0r N3 hn (by rw[bne_iff_ne];omega) (by rw[bne_iff_ne];omega)
 ·have key:CR ts=Ss ts:=by unfold CR;rw[if_neg h3,h0];rfl
  rw[key];unfold Ss;by_cases e5:ts.length=5
  ·rw[e5];cases hm:CL (EF ts 1)
   ·exact WU g o c _ _ _ _ _ w hg (hc 0 (by omega)) (hc 1 (by omega)) (hc 2 (by omega)) (hc 3 (by omega)) (hc 4 (by omega)) (hl 1 (by omega)) h0 hm
   ·cases h4:EF ts 3==[97,116]
    ·exact Vq g o c _ _ _ _ _ w hg (hc 0 (by omega)) (hc 1 (by omega)) (hc 2 (by omega)) (hc 3 (by omega)) (hc 4 (by omega)) (hl 1 (by omega)) h0 hm h4
    ·exact WT g o c _ _ _ _ _ w hg (hc 0 (by omega)) (hc 1 (by omega)) (hc 2 (by omega)) (hc 3 (by omega)) (hc 4 (by omega)) (hl 1 (by omega)) (hl 2 (by omega)) (hl 4 (by omega)) h0 hm h4
  ·by_cases e6:ts.length=6
   ·rw[e6];cases hm:CL (EF ts 1)
    ·exact WN g o c _ _ _ _ _ _ w hg (hc 0 (by omega)) (hc 1 (by omega)) (hc 2 (by omega)) (hc 3 (by omega)) (hc 4 (by omega)) (hc 5 (by omega)) (hl 1 (by omega)) h0 hm
    ·cases h4:EF ts 3==[97,116]
     ·exact Vn g o c _ _ _ _ _ _ w hg (hc 0 (by omega)) (hc 1 (by omega)) (hc 2 (by omega)) (hc 3 (by omega)) (hc 4 (by omega)) (hc 5 (by omega)) (hl 1 (by omega)) h0 hm h4
     ·cases h5:EF ts 5==[115,104,97,114,101,100]
      ·exact Vt g o c _ _ _ _ _ _ w hg (hc 0 (by omega)) (hc 1 (by omega)) (hc 2 (by omega)) (hc 3 (by omega)) (hc 4 (by omega)) (hc 5 (by omega)) (hl 1 (by omega)) h0 hm h4 h5
      ·exact Vh g o c _ _ _ _ _ _ w hg (hc 0 (by omega)) (hc 1 (by omega)) (hc 2 (by omega)) (hc 3 (by omega)) (hc 4 (by omega)) (hc 5 (by omega)) (hl 1 (by omega)) (hl 2 (by omega)) (hl 4 (by omega)) h0 hm h4 h5
   ·rw[show (ts.length==5)=false by simpa using e5,show (ts.length==6)=false by simpa using e6];exact Yg g o c ts.length _ w hg (hc 0 (by omega)) h0 N3 hn (by rw[bne_iff_ne];omega) (by rw[bne_iff_ne];omega)
end Go.Proofs.YtnmhkgmmpkjjeaaGreat
