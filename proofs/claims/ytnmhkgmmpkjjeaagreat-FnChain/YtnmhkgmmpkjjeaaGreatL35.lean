import Derived.Test.YtnmhkgmmpkjjeaaGreatL34
namespace Go.Proofs.YtnmhkgmmpkjjeaaGreat
open Go.ChangeShapes Go.WideShapes Go.ChangeAt Go.RowKit
set_option linter.unusedVariables false
set_option maxRecDepth 100000
attribute [local go_sem ↓] Go.wp_at_zero Go.wp_at_succ
attribute [local go_sem] CY Di Dm FP Du Cc
def Bn (s:St):Value:=.agg #[.int .i64 s.kind,.string (bs s.name),.int .i64 s.a,.int .i64 s.b,.int .i64 s.perm,.bool s.extra]
set_option maxHeartbeats 4000000 in
theorem Wa (g o c n:Nat) (x0:AS) (w:World) (hg:g<w.heap.size) (c0:w.cell? ⟨g,o,none⟩=some (.string (bs x0)))  (h0:(x0==[111,98,106,101,99,116])=true) (hn3:(3:Int)<=(n:Int)) (hn:n<=30000) (e5:((n:Int) != 5)=true) (e6:((n:Int) != 6)=true) : Calls Tryz.prog 36 #[.slice (some ⟨g,o,none⟩) n c] w fun e w'=>e=.returned (Bn AP)/\Below w.heap.size w w':=by
 as_aux_lemma =>
 go_enter Tryz.func36,Tryz.ntmps36
 go_wp2_with (go_at_call 97;refine(AX _ _ (by assumption)).mono ?_;rintro e w' ⟨rfl,rfl⟩)
 go_wp2_with fail
 refine bodyPost_ret (v:=Bn AP) (by simp[results,Tryz.results36,go_sem,Bn,AP]) rfl ⟨rfl,?_⟩;repeat (first|exact Below.refl _ _|with_reducible refine Below.drew ?_|with_reducible refine Below.setCell ?_ (by first|omega|(simp<;>omega)) _|with_reducible refine Below.alloc ?_ (by first|omega|(simp<;>omega)) _)
set_option maxHeartbeats 4000000 in
theorem UW (g o c:Nat) (x0 x1 x2 x3 x4:AS) (w:World) (hg:g<w.heap.size) (c0:w.cell? ⟨g,o,none⟩=some (.string (bs x0))) (c1:w.cell? ⟨g,o+1,none⟩=some (.string (bs x1))) (c2:w.cell? ⟨g,o+2,none⟩=some (.string (bs x2))) (c3:w.cell? ⟨g,o+3,none⟩=some (.string (bs x3))) (c4:w.cell? ⟨g,o+4,none⟩=some (.string (bs x4))) (l1:x1.length<=20000) (h0:(x0==[111,98,106,101,99,116])=true) (hm:C0 x1=false) : Calls Tryz.prog 36 #[.slice (some ⟨g,o,none⟩) 5 c] w fun e w'=>e=.returned (Bn AP)/\Below w.heap.size w w':=by
 as_aux_lemma =>
 go_enter Tryz.func36,Tryz.ntmps36
 go_wp2_with (go_at_call 97;refine(AX _ _ (by assumption)).mono ?_;rintro e w' ⟨rfl,rfl⟩)
 go_wp2_with fail
 refine bodyPost_ret (v:=Bn AP) (by simp[results,Tryz.results36,go_sem,Bn,AP]) rfl ⟨rfl,?_⟩;repeat (first|exact Below.refl _ _|with_reducible refine Below.drew ?_|with_reducible refine Below.setCell ?_ (by first|omega|(simp<;>omega)) _|with_reducible refine Below.alloc ?_ (by first|omega|(simp<;>omega)) _)
set_option maxHeartbeats 4000000 in
theorem U1 (g o c:Nat) (x0 x1 x2 x3 x4:AS) (w:World) (hg:g<w.heap.size) (c0:w.cell? ⟨g,o,none⟩=some (.string (bs x0))) (c1:w.cell? ⟨g,o+1,none⟩=some (.string (bs x1))) (c2:w.cell? ⟨g,o+2,none⟩=some (.string (bs x2))) (c3:w.cell? ⟨g,o+3,none⟩=some (.string (bs x3))) (c4:w.cell? ⟨g,o+4,none⟩=some (.string (bs x4))) (l1:x1.length<=20000) (h0:(x0==[111,98,106,101,99,116])=true) (hm:C0 x1=true) (h3:(x3==[97,116])=false) : Calls Tryz.prog 36 #[.slice (some ⟨g,o,none⟩) 5 c] w fun e w'=>e=.returned (Bn AP)/\Below w.heap.size w w':=by
 as_aux_lemma =>
 go_enter Tryz.func36,Tryz.ntmps36
 go_wp2_with (go_at_call 97;refine(AX _ _ (by assumption)).mono ?_;rintro e w' ⟨rfl,rfl⟩)
 go_wp2_with fail
 refine bodyPost_ret (v:=Bn AP) (by simp[results,Tryz.results36,go_sem,Bn,AP]) rfl ⟨rfl,?_⟩;repeat (first|exact Below.refl _ _|with_reducible refine Below.drew ?_|with_reducible refine Below.setCell ?_ (by first|omega|(simp<;>omega)) _|with_reducible refine Below.alloc ?_ (by first|omega|(simp<;>omega)) _)
set_option maxHeartbeats 4000000 in
theorem Us (g o c:Nat) (x0 x1 x2 x3 x4 x5:AS) (w:World) (hg:g<w.heap.size) (c0:w.cell? ⟨g,o,none⟩=some (.string (bs x0))) (c1:w.cell? ⟨g,o+1,none⟩=some (.string (bs x1))) (c2:w.cell? ⟨g,o+2,none⟩=some (.string (bs x2))) (c3:w.cell? ⟨g,o+3,none⟩=some (.string (bs x3))) (c4:w.cell? ⟨g,o+4,none⟩=some (.string (bs x4))) (c5:w.cell? ⟨g,o+5,none⟩=some (.string (bs x5))) (l1:x1.length<=20000) (h0:(x0==[111,98,106,101,99,116])=true) (hm:C0 x1=false) : Calls Tryz.prog 36 #[.slice (some ⟨g,o,none⟩) 6 c] w fun e w'=>e=.returned (Bn AP)/\Below w.heap.size w w':=by
 as_aux_lemma =>
 go_enter Tryz.func36,Tryz.ntmps36
 go_wp2_with (go_at_call 97;refine(AX _ _ (by assumption)).mono ?_;rintro e w' ⟨rfl,rfl⟩)
 go_wp2_with fail
 refine bodyPost_ret (v:=Bn AP) (by simp[results,Tryz.results36,go_sem,Bn,AP]) rfl ⟨rfl,?_⟩;repeat (first|exact Below.refl _ _|with_reducible refine Below.drew ?_|with_reducible refine Below.setCell ?_ (by first|omega|(simp<;>omega)) _|with_reducible refine Below.alloc ?_ (by first|omega|(simp<;>omega)) _)
set_option maxHeartbeats 4000000 in
theorem UG (g o c:Nat) (x0 x1 x2 x3 x4 x5:AS) (w:World) (hg:g<w.heap.size) (c0:w.cell? ⟨g,o,none⟩=some (.string (bs x0))) (c1:w.cell? ⟨g,o+1,none⟩=some (.string (bs x1))) (c2:w.cell? ⟨g,o+2,none⟩=some (.string (bs x2))) (c3:w.cell? ⟨g,o+3,none⟩=some (.string (bs x3))) (c4:w.cell? ⟨g,o+4,none⟩=some (.string (bs x4))) (c5:w.cell? ⟨g,o+5,none⟩=some (.string (bs x5))) (l1:x1.length<=20000) (h0:(x0==[111,98,106,101,99,116])=true) (hm:C0 x1=true) (h3:(x3==[97,116])=false) : Calls Tryz.prog 36 #[.slice (some ⟨g,o,none⟩) 6 c] w fun e w'=>e=.returned (Bn AP)/\Below w.heap.size w w':=by
 as_aux_lemma =>
 go_enter Tryz.func36,Tryz.ntmps36
 go_wp2_with (go_at_call 97;refine(AX _ _ (by assumption)).mono ?_;rintro e w' ⟨rfl,rfl⟩)
 go_wp2_with fail
 refine bodyPost_ret (v:=Bn AP) (by simp[results,Tryz.results36,go_sem,Bn,AP]) rfl ⟨rfl,?_⟩;repeat (first|exact Below.refl _ _|with_reducible refine Below.drew ?_|with_reducible refine Below.setCell ?_ (by first|omega|(simp<;>omega)) _|with_reducible refine Below.alloc ?_ (by first|omega|(simp<;>omega)) _)
set_option maxHeartbeats 4000000 in
theorem UL (g o c:Nat) (x0 x1 x2 x3 x4 x5:AS) (w:World) (hg:g<w.heap.size) (c0:w.cell? ⟨g,o,none⟩=some (.string (bs x0))) (c1:w.cell? ⟨g,o+1,none⟩=some (.string (bs x1))) (c2:w.cell? ⟨g,o+2,none⟩=some (.string (bs x2))) (c3:w.cell? ⟨g,o+3,none⟩=some (.string (bs x3))) (c4:w.cell? ⟨g,o+4,none⟩=some (.string (bs x4))) (c5:w.cell? ⟨g,o+5,none⟩=some (.string (bs x5))) (l1:x1.length<=20000) (h0:(x0==[111,98,106,101,99,116])=true) (hm:C0 x1=true) (h3:(x3==[97,116])=true) (h5:(x5==[115,104,97,114,101,100])=false) : Calls Tryz.prog 36 #[.slice (some ⟨g,o,none⟩) 6 c] w fun e w'=>e=.returned (Bn AP)/\Below w.heap.size w w':=by
 as_aux_lemma =>
 go_enter Tryz.func36,Tryz.ntmps36
 go_wp2_with (go_at_call 97;refine(AX _ _ (by assumption)).mono ?_;rintro e w' ⟨rfl,rfl⟩)
 go_wp2_with fail
 refine bodyPost_ret (v:=Bn AP) (by simp[results,Tryz.results36,go_sem,Bn,AP]) rfl ⟨rfl,?_⟩;repeat (first|exact Below.refl _ _|with_reducible refine Below.drew ?_|with_reducible refine Below.setCell ?_ (by first|omega|(simp<;>omega)) _|with_reducible refine Below.alloc ?_ (by first|omega|(simp<;>omega)) _)
set_option maxHeartbeats 4000000 in
theorem Wr (g o c n:Nat) (x0:AS) (w:World) (hg:g<w.heap.size) (c0:w.cell? ⟨g,o,none⟩=some (.string (bs x0)))  (h0:(x0==[111,98,106,101,99,116])=false) (h0r:(x0==[114,101,103,105,111,110])=true) (hn3:(3:Int)<=(n:Int)) (hn:n<=30000) (e4:((n:Int) != 4)=true) (e5:((n:Int) != 5)=true) : Calls Tryz.prog 36 #[.slice (some ⟨g,o,none⟩) n c] w fun e w'=>e=.returned (Bn AP)/\Below w.heap.size w w':=by
 as_aux_lemma =>
 go_enter Tryz.func36,Tryz.ntmps36
 go_wp2_with (go_at_call 97;refine(AX _ _ (by assumption)).mono ?_;rintro e w' ⟨rfl,rfl⟩)
 go_wp2_with fail
 refine bodyPost_ret (v:=Bn AP) (by simp[results,Tryz.results36,go_sem,Bn,AP]) rfl ⟨rfl,?_⟩;repeat (first|exact Below.refl _ _|with_reducible refine Below.drew ?_|with_reducible refine Below.setCell ?_ (by first|omega|(simp<;>omega)) _|with_reducible refine Below.alloc ?_ (by first|omega|(simp<;>omega)) _)
set_option maxHeartbeats 4000000 in
theorem Tz (g o c:Nat) (x0 x1 x2 x3:AS) (w:World) (hg:g<w.heap.size) (c0:w.cell? ⟨g,o,none⟩=some (.string (bs x0))) (c1:w.cell? ⟨g,o+1,none⟩=some (.string (bs x1))) (c2:w.cell? ⟨g,o+2,none⟩=some (.string (bs x2))) (c3:w.cell? ⟨g,o+3,none⟩=some (.string (bs x3))) (l2:x2.length<=20000) (h0:(x0==[111,98,106,101,99,116])=false) (h0r:(x0==[114,101,103,105,111,110])=true) (hm:C0 x2=false) : Calls Tryz.prog 36 #[.slice (some ⟨g,o,none⟩) 4 c] w fun e w'=>e=.returned (Bn AP)/\Below w.heap.size w w':=by
 as_aux_lemma =>
 go_enter Tryz.func36,Tryz.ntmps36
 go_wp2_with (go_at_call 97;refine(AX _ _ (by assumption)).mono ?_;rintro e w' ⟨rfl,rfl⟩)
 go_wp2_with fail
 refine bodyPost_ret (v:=Bn AP) (by simp[results,Tryz.results36,go_sem,Bn,AP]) rfl ⟨rfl,?_⟩;repeat (first|exact Below.refl _ _|with_reducible refine Below.drew ?_|with_reducible refine Below.setCell ?_ (by first|omega|(simp<;>omega)) _|with_reducible refine Below.alloc ?_ (by first|omega|(simp<;>omega)) _)
set_option maxHeartbeats 4000000 in
theorem Ud (g o c:Nat) (x0 x1 x2 x3 x4:AS) (w:World) (hg:g<w.heap.size) (c0:w.cell? ⟨g,o,none⟩=some (.string (bs x0))) (c1:w.cell? ⟨g,o+1,none⟩=some (.string (bs x1))) (c2:w.cell? ⟨g,o+2,none⟩=some (.string (bs x2))) (c3:w.cell? ⟨g,o+3,none⟩=some (.string (bs x3))) (c4:w.cell? ⟨g,o+4,none⟩=some (.string (bs x4))) (l2:x2.length<=20000) (h0:(x0==[111,98,106,101,99,116])=false) (h0r:(x0==[114,101,103,105,111,110])=true) (hm:C0 x2=false) : Calls Tryz.prog 36 #[.slice (some ⟨g,o,none⟩) 5 c] w fun e w'=>e=.returned (Bn AP)/\Below w.heap.size w w':=by
 as_aux_lemma =>
 go_enter Tryz.func36,Tryz.ntmps36
 go_wp2_with (go_at_call 97;refine(AX _ _ (by assumption)).mono ?_;rintro e w' ⟨rfl,rfl⟩)
 go_wp2_with fail
 refine bodyPost_ret (v:=Bn AP) (by simp[results,Tryz.results36,go_sem,Bn,AP]) rfl ⟨rfl,?_⟩;repeat (first|exact Below.refl _ _|with_reducible refine Below.drew ?_|with_reducible refine Below.setCell ?_ (by first|omega|(simp<;>omega)) _|with_reducible refine Below.alloc ?_ (by first|omega|(simp<;>omega)) _)
set_option maxHeartbeats 4000000 in
theorem Uo (g o c:Nat) (x0 x1 x2 x3 x4:AS) (w:World) (hg:g<w.heap.size) (c0:w.cell? ⟨g,o,none⟩=some (.string (bs x0))) (c1:w.cell? ⟨g,o+1,none⟩=some (.string (bs x1))) (c2:w.cell? ⟨g,o+2,none⟩=some (.string (bs x2))) (c3:w.cell? ⟨g,o+3,none⟩=some (.string (bs x3))) (c4:w.cell? ⟨g,o+4,none⟩=some (.string (bs x4))) (l2:x2.length<=20000) (h0:(x0==[111,98,106,101,99,116])=false) (h0r:(x0==[114,101,103,105,111,110])=true) (hm:C0 x2=true) (h4:(x4==[104,117,103,101])=false) : Calls Tryz.prog 36 #[.slice (some ⟨g,o,none⟩) 5 c] w fun e w'=>e=.returned (Bn AP)/\Below w.heap.size w w':=by
 as_aux_lemma =>
 go_enter Tryz.func36,Tryz.ntmps36
 go_wp2_with (go_at_call 97;refine(AX _ _ (by assumption)).mono ?_;rintro e w' ⟨rfl,rfl⟩)
 go_wp2_with fail
 refine bodyPost_ret (v:=Bn AP) (by simp[results,Tryz.results36,go_sem,Bn,AP]) rfl ⟨rfl,?_⟩;repeat (first|exact Below.refl _ _|with_reducible refine Below.drew ?_|with_reducible refine Below.setCell ?_ (by first|omega|(simp<;>omega)) _|with_reducible refine Below.alloc ?_ (by first|omega|(simp<;>omega)) _)
set_option maxHeartbeats 4000000 in
theorem WZ (g o c n:Nat) (x0:AS) (w:World) (hg:g<w.heap.size) (c0:w.cell? ⟨g,o,none⟩=some (.string (bs x0)))  (h0:(x0==[111,98,106,101,99,116])=false) (h0r:(x0==[114,101,103,105,111,110])=false) (h0g:(x0==[103,117,97,114,100])=true) (hn3:(3:Int)<=(n:Int)) (hn:n<=30000) (e3:((n:Int)==3)=false) : Calls Tryz.prog 36 #[.slice (some ⟨g,o,none⟩) n c] w fun e w'=>e=.returned (Bn AP)/\Below w.heap.size w w':=by
 as_aux_lemma =>
 go_enter Tryz.func36,Tryz.ntmps36
 go_wp2_with (go_at_call 97;refine(AX _ _ (by assumption)).mono ?_;rintro e w' ⟨rfl,rfl⟩)
 go_wp2_with fail
 refine bodyPost_ret (v:=Bn AP) (by simp[results,Tryz.results36,go_sem,Bn,AP]) rfl ⟨rfl,?_⟩;repeat (first|exact Below.refl _ _|with_reducible refine Below.drew ?_|with_reducible refine Below.setCell ?_ (by first|omega|(simp<;>omega)) _|with_reducible refine Below.alloc ?_ (by first|omega|(simp<;>omega)) _)
set_option maxHeartbeats 4000000 in
theorem XF (g o c n:Nat) (x0:AS) (w:World) (hg:g<w.heap.size) (c0:w.cell? ⟨g,o,none⟩=some (.string (bs x0)))  (h0:(x0==[111,98,106,101,99,116])=false) (h0r:(x0==[114,101,103,105,111,110])=false) (h0g:(x0==[103,117,97,114,100])=false) (hn3:(3:Int)<=(n:Int)) (hn:n<=30000) : Calls Tryz.prog 36 #[.slice (some ⟨g,o,none⟩) n c] w fun e w'=>e=.returned (Bn AP)/\Below w.heap.size w w':=by
 as_aux_lemma =>
 go_enter Tryz.func36,Tryz.ntmps36
 go_wp2_with (go_at_call 97;refine(AX _ _ (by assumption)).mono ?_;rintro e w' ⟨rfl,rfl⟩)
 go_wp2_with fail
 refine bodyPost_ret (v:=Bn AP) (by simp[results,Tryz.results36,go_sem,Bn,AP]) rfl ⟨rfl,?_⟩;repeat (first|exact Below.refl _ _|with_reducible refine Below.drew ?_|with_reducible refine Below.setCell ?_ (by first|omega|(simp<;>omega)) _|with_reducible refine Below.alloc ?_ (by first|omega|(simp<;>omega)) _)
theorem WV (A:Option Addr) (c n:Nat) (w:World) (hn:(n:Int)<3) : Calls Tryz.prog 36 #[.slice A n c] w fun e w'=>e=.returned (Bn AP)/\Below w.heap.size w w':=by
 go_enter Tryz.func36,Tryz.ntmps36
 go_wp2_with fail
 refine bodyPost_ret (v:=Bn AP) (by simp[results,Tryz.results36,go_sem,Bn,AP]) rfl ⟨rfl,?_⟩;repeat (first|exact Below.refl _ _|with_reducible refine Below.drew ?_|with_reducible refine Below.setCell ?_ (by first|omega|(simp<;>omega)) _|with_reducible refine Below.alloc ?_ (by first|omega|(simp<;>omega)) _)
set_option maxHeartbeats 4000000 in
theorem Wn (g o c:Nat) (x0 x1 x2:AS) (w:World) (hg:g<w.heap.size) (c0:w.cell? ⟨g,o,none⟩=some (.string (bs x0))) (c1:w.cell? ⟨g,o+1,none⟩=some (.string (bs x1))) (c2:w.cell? ⟨g,o+2,none⟩=some (.string (bs x2))) (l1:x1.length<=20000) (l2:x2.length<=20000) (h0:(x0==[111,98,106,101,99,116])=false) (h0r:(x0==[114,101,103,105,111,110])=false) (h0g:(x0==[103,117,97,114,100])=true) : Calls Tryz.prog 36 #[.slice (some ⟨g,o,none⟩) 3 c] w fun e w'=>e=.returned (Bn (if AM x1<0\/AM x2<0 then AP else ⟨3,[],AM x1,AM x2,0,false⟩))/\Below w.heap.size w w':=by
 as_aux_lemma =>
 have HK:Hid (∀wX,Below w.heap.size w wX->(fun wX=>wX.cell? ⟨g,o+1,none⟩=some (.string (bs x1))/\wX.cell? ⟨g,o+2,none⟩=some (.string (bs x2))) wX):=A2 fun wX hX=>⟨(hX.cell hg).trans c1,(hX.cell hg).trans c2⟩
 go_enter Tryz.func36,Tryz.ntmps36
 go_wp2_with (go_at_call 97;refine(AX _ _ (by assumption)).mono ?_;rintro e w' ⟨rfl,rfl⟩)
 go_region_held3 (fun wX=>wX.cell? ⟨g,o+1,none⟩=some (.string (bs x1))/\wX.cell? ⟨g,o+2,none⟩=some (.string (bs x2))) ((refine HK.out _ ?_;repeat (first|exact Below.refl _ _|with_reducible refine Below.drew ?_|with_reducible refine Below.setCell ?_ (by first|omega|(simp<;>omega)) _|with_reducible refine Below.alloc ?_ (by first|omega|(simp<;>omega)) _))) (first|(go_at_call 98;refine(DU _ _ (by assumption)).mono ?_;rintro e w' ⟨rfl,rfl⟩)|(go_at_call 99;refine(Ey _ _).mono ?_;rintro e w' ⟨rfl,rfl⟩))
 all_goals
  by_cases ha:AM x1<0
  ·have HR:Hid ((if AM x1<0\/AM x2<0 then AP else ⟨3,[],AM x1,AM x2,0,false⟩)=AP):=A2 (if_pos (.inl ha))
   go_wp2_with fail
   refine bodyPost_ret (v:=Bn AP) (by simp[results,Tryz.results36,go_sem,Bn,AP]) rfl ⟨by first|rw[HR.out]|rfl|(rw[if_pos HBB.out])|(rw[if_neg HBB.out]),?_⟩
   repeat (first|exact Below.refl _ _|with_reducible refine Below.drew ?_|with_reducible refine Below.setCell ?_ (by first|omega|(simp<;>omega)) _|with_reducible refine Below.alloc ?_ (by first|omega|(simp<;>omega)) _)
  ·have ha':0<=AM x1:=by omega
   by_cases hb:AM x2<0
   ·have HR:Hid ((if AM x1<0\/AM x2<0 then AP else ⟨3,[],AM x1,AM x2,0,false⟩)=AP):=A2 (if_pos (.inr hb))
    have hb':AM x2<0:=hb
    have HBB:Hid _:=hb
    clear hb
    go_wp2_with fail
    refine bodyPost_ret (v:=Bn AP) (by simp[results,Tryz.results36,go_sem,Bn,AP]) rfl ⟨by first|rw[HR.out]|rfl|(rw[if_pos HBB.out])|(rw[if_neg HBB.out]),?_⟩
    repeat (first|exact Below.refl _ _|with_reducible refine Below.drew ?_|with_reducible refine Below.setCell ?_ (by first|omega|(simp<;>omega)) _|with_reducible refine Below.alloc ?_ (by first|omega|(simp<;>omega)) _)
   ·have HR:Hid ((if AM x1<0\/AM x2<0 then AP else ⟨3,[],AM x1,AM x2,0,false⟩)=⟨3,[],AM x1,AM x2,0,false⟩):=A2 (if_neg (fun h=>h.elim ha hb))
    have hb':0<=AM x2:=by omega
    have HBB:Hid _:=hb
    clear hb
    go_wp2_with fail
    refine bodyPost_ret (v:=Bn ⟨3,[],AM x1,AM x2,0,false⟩) (by simp[results,Tryz.results36,go_sem,Bn]) rfl ⟨by first|rw[HR.out]|rfl|(rw[if_pos HBB.out])|(rw[if_neg HBB.out]),?_⟩
    repeat (first|exact Below.refl _ _|with_reducible refine Below.drew ?_|with_reducible refine Below.setCell ?_ (by first|omega|(simp<;>omega)) _|with_reducible refine Below.alloc ?_ (by first|omega|(simp<;>omega)) _)
set_option maxHeartbeats 4000000 in
theorem UM (g o c:Nat) (x0 x1 x2 x3 x4:AS) (w:World) (hg:g<w.heap.size) (c0:w.cell? ⟨g,o,none⟩=some (.string (bs x0))) (c1:w.cell? ⟨g,o+1,none⟩=some (.string (bs x1))) (c2:w.cell? ⟨g,o+2,none⟩=some (.string (bs x2))) (c3:w.cell? ⟨g,o+3,none⟩=some (.string (bs x3))) (c4:w.cell? ⟨g,o+4,none⟩=some (.string (bs x4))) (l1:x1.length<=20000) (l2:x2.length<=20000) (l4:x4.length<=20000) (h0:(x0==[111,98,106,101,99,116])=true) (hm:C0 x1=true) (h3:(x3==[97,116])=true) : Calls Tryz.prog 36 #[.slice (some ⟨g,o,none⟩) 5 c] w fun e w'=>e=.returned (Bn (if AM x2<0\/AM x4<0 then AP else ⟨1,x1,AM x2,AM x4,0,false⟩))/\Below w.heap.size w w':=by
 as_aux_lemma =>
 have HK:Hid (∀wX,Below w.heap.size w wX->(fun wX=>wX.cell? ⟨g,o+1,none⟩=some (.string (bs x1))/\wX.cell? ⟨g,o+2,none⟩=some (.string (bs x2))/\wX.cell? ⟨g,o+4,none⟩=some (.string (bs x4))) wX):=A2 fun wX hX=>⟨(hX.cell hg).trans c1,(hX.cell hg).trans c2,(hX.cell hg).trans c4⟩
 go_enter Tryz.func36,Tryz.ntmps36
 go_wp2_with (go_at_call 97;refine(AX _ _ (by assumption)).mono ?_;rintro e w' ⟨rfl,rfl⟩)
 go_region_held3 (fun wX=>wX.cell? ⟨g,o+1,none⟩=some (.string (bs x1))/\wX.cell? ⟨g,o+2,none⟩=some (.string (bs x2))/\wX.cell? ⟨g,o+4,none⟩=some (.string (bs x4))) ((refine HK.out _ ?_;repeat (first|exact Below.refl _ _|with_reducible refine Below.drew ?_|with_reducible refine Below.setCell ?_ (by first|omega|(simp<;>omega)) _|with_reducible refine Below.alloc ?_ (by first|omega|(simp<;>omega)) _))) (first|(go_at_call 98;refine(DU _ _ (by assumption)).mono ?_;rintro e w' ⟨rfl,rfl⟩)|(go_at_call 99;refine(Ey _ _).mono ?_;rintro e w' ⟨rfl,rfl⟩))
 all_goals
  by_cases ha:AM x2<0
  ·have HR:Hid ((if AM x2<0\/AM x4<0 then AP else ⟨1,x1,AM x2,AM x4,0,false⟩)=AP):=A2 (if_pos (.inl ha))
   go_wp2_with fail
   refine bodyPost_ret (v:=Bn AP) (by simp[results,Tryz.results36,go_sem,Bn,AP]) rfl ⟨by first|rw[HR.out]|rfl|(rw[if_pos HBB.out])|(rw[if_neg HBB.out]),?_⟩
   repeat (first|exact Below.refl _ _|with_reducible refine Below.drew ?_|with_reducible refine Below.setCell ?_ (by first|omega|(simp<;>omega)) _|with_reducible refine Below.alloc ?_ (by first|omega|(simp<;>omega)) _)
  ·have ha':0<=AM x2:=by omega
   by_cases hb:AM x4<0
   ·have HR:Hid ((if AM x2<0\/AM x4<0 then AP else ⟨1,x1,AM x2,AM x4,0,false⟩)=AP):=A2 (if_pos (.inr hb))
    have hb':AM x4<0:=hb
    have HBB:Hid _:=hb
    clear hb
    go_wp2_with fail
    refine bodyPost_ret (v:=Bn AP) (by simp[results,Tryz.results36,go_sem,Bn,AP]) rfl ⟨by first|rw[HR.out]|rfl|(rw[if_pos HBB.out])|(rw[if_neg HBB.out]),?_⟩
    repeat (first|exact Below.refl _ _|with_reducible refine Below.drew ?_|with_reducible refine Below.setCell ?_ (by first|omega|(simp<;>omega)) _|with_reducible refine Below.alloc ?_ (by first|omega|(simp<;>omega)) _)
   ·have HR:Hid ((if AM x2<0\/AM x4<0 then AP else ⟨1,x1,AM x2,AM x4,0,false⟩)=⟨1,x1,AM x2,AM x4,0,false⟩):=A2 (if_neg (fun h=>h.elim ha hb))
    have hb':0<=AM x4:=by omega
    have HBB:Hid _:=hb
    clear hb
    go_wp2_with fail
    refine bodyPost_ret (v:=Bn ⟨1,x1,AM x2,AM x4,0,false⟩) (by simp[results,Tryz.results36,go_sem,Bn]) rfl ⟨by first|rw[HR.out]|rfl|(rw[if_pos HBB.out])|(rw[if_neg HBB.out]),?_⟩
    repeat (first|exact Below.refl _ _|with_reducible refine Below.drew ?_|with_reducible refine Below.setCell ?_ (by first|omega|(simp<;>omega)) _|with_reducible refine Below.alloc ?_ (by first|omega|(simp<;>omega)) _)
set_option maxHeartbeats 4000000 in
theorem UN (g o c:Nat) (x0 x1 x2 x3 x4 x5:AS) (w:World) (hg:g<w.heap.size) (c0:w.cell? ⟨g,o,none⟩=some (.string (bs x0))) (c1:w.cell? ⟨g,o+1,none⟩=some (.string (bs x1))) (c2:w.cell? ⟨g,o+2,none⟩=some (.string (bs x2))) (c3:w.cell? ⟨g,o+3,none⟩=some (.string (bs x3))) (c4:w.cell? ⟨g,o+4,none⟩=some (.string (bs x4))) (c5:w.cell? ⟨g,o+5,none⟩=some (.string (bs x5))) (l1:x1.length<=20000) (l2:x2.length<=20000) (l4:x4.length<=20000) (h0:(x0==[111,98,106,101,99,116])=true) (hm:C0 x1=true) (h3:(x3==[97,116])=true) (h5:(x5==[115,104,97,114,101,100])=true) : Calls Tryz.prog 36 #[.slice (some ⟨g,o,none⟩) 6 c] w fun e w'=>e=.returned (Bn (if AM x2<0\/AM x4<0 then AP else ⟨1,x1,AM x2,AM x4,0,true⟩))/\Below w.heap.size w w':=by
 as_aux_lemma =>
 have HK:Hid (∀wX,Below w.heap.size w wX->(fun wX=>wX.cell? ⟨g,o+1,none⟩=some (.string (bs x1))/\wX.cell? ⟨g,o+2,none⟩=some (.string (bs x2))/\wX.cell? ⟨g,o+4,none⟩=some (.string (bs x4))) wX):=A2 fun wX hX=>⟨(hX.cell hg).trans c1,(hX.cell hg).trans c2,(hX.cell hg).trans c4⟩
 go_enter Tryz.func36,Tryz.ntmps36
 go_wp2_with (go_at_call 97;refine(AX _ _ (by assumption)).mono ?_;rintro e w' ⟨rfl,rfl⟩)
 go_region_held3 (fun wX=>wX.cell? ⟨g,o+1,none⟩=some (.string (bs x1))/\wX.cell? ⟨g,o+2,none⟩=some (.string (bs x2))/\wX.cell? ⟨g,o+4,none⟩=some (.string (bs x4))) ((refine HK.out _ ?_;repeat (first|exact Below.refl _ _|with_reducible refine Below.drew ?_|with_reducible refine Below.setCell ?_ (by first|omega|(simp<;>omega)) _|with_reducible refine Below.alloc ?_ (by first|omega|(simp<;>omega)) _))) (first|(go_at_call 98;refine(DU _ _ (by assumption)).mono ?_;rintro e w' ⟨rfl,rfl⟩)|(go_at_call 99;refine(Ey _ _).mono ?_;rintro e w' ⟨rfl,rfl⟩))
 all_goals
  by_cases ha:AM x2<0
  ·have HR:Hid ((if AM x2<0\/AM x4<0 then AP else ⟨1,x1,AM x2,AM x4,0,true⟩)=AP):=A2 (if_pos (.inl ha))
   go_wp2_with fail
   refine bodyPost_ret (v:=Bn AP) (by simp[results,Tryz.results36,go_sem,Bn,AP]) rfl ⟨by first|rw[HR.out]|rfl|(rw[if_pos HBB.out])|(rw[if_neg HBB.out]),?_⟩
   repeat (first|exact Below.refl _ _|with_reducible refine Below.drew ?_|with_reducible refine Below.setCell ?_ (by first|omega|(simp<;>omega)) _|with_reducible refine Below.alloc ?_ (by first|omega|(simp<;>omega)) _)
  ·have ha':0<=AM x2:=by omega
   by_cases hb:AM x4<0
   ·have HR:Hid ((if AM x2<0\/AM x4<0 then AP else ⟨1,x1,AM x2,AM x4,0,true⟩)=AP):=A2 (if_pos (.inr hb))
    have hb':AM x4<0:=hb
    have HBB:Hid _:=hb
    clear hb
    go_wp2_with fail
    refine bodyPost_ret (v:=Bn AP) (by simp[results,Tryz.results36,go_sem,Bn,AP]) rfl ⟨by first|rw[HR.out]|rfl|(rw[if_pos HBB.out])|(rw[if_neg HBB.out]),?_⟩
    repeat (first|exact Below.refl _ _|with_reducible refine Below.drew ?_|with_reducible refine Below.setCell ?_ (by first|omega|(simp<;>omega)) _|with_reducible refine Below.alloc ?_ (by first|omega|(simp<;>omega)) _)
   ·have HR:Hid ((if AM x2<0\/AM x4<0 then AP else ⟨1,x1,AM x2,AM x4,0,true⟩)=⟨1,x1,AM x2,AM x4,0,true⟩):=A2 (if_neg (fun h=>h.elim ha hb))
    have hb':0<=AM x4:=by omega
    have HBB:Hid _:=hb
    clear hb
    go_wp2_with fail
    refine bodyPost_ret (v:=Bn ⟨1,x1,AM x2,AM x4,0,true⟩) (by simp[results,Tryz.results36,go_sem,Bn]) rfl ⟨by first|rw[HR.out]|rfl|(rw[if_pos HBB.out])|(rw[if_neg HBB.out]),?_⟩
    repeat (first|exact Below.refl _ _|with_reducible refine Below.drew ?_|with_reducible refine Below.setCell ?_ (by first|omega|(simp<;>omega)) _|with_reducible refine Below.alloc ?_ (by first|omega|(simp<;>omega)) _)
set_option maxHeartbeats 4000000 in
theorem UO (g o c:Nat) (x0 x1 x2 x3:AS) (w:World) (hg:g<w.heap.size) (c0:w.cell? ⟨g,o,none⟩=some (.string (bs x0))) (c1:w.cell? ⟨g,o+1,none⟩=some (.string (bs x1))) (c2:w.cell? ⟨g,o+2,none⟩=some (.string (bs x2))) (c3:w.cell? ⟨g,o+3,none⟩=some (.string (bs x3))) (l1:x1.length<=20000) (l2:x2.length<=20000) (h0:(x0==[111,98,106,101,99,116])=false) (h0r:(x0==[114,101,103,105,111,110])=true) (hm:C0 x2=true) : Calls Tryz.prog 36 #[.slice (some ⟨g,o,none⟩) 4 c] w fun e w'=>e=.returned (Bn (if AM x1<0\/EH x3=0 then AP else ⟨2,x2,AM x1,0,EH x3,false⟩))/\Below w.heap.size w w':=by
 as_aux_lemma =>
 have hpm:=Ey x3;generalize EH x3=PM at *;have HK:Hid (∀wX,Below w.heap.size w wX->(fun wX=>wX.cell? ⟨g,o+1,none⟩=some (.string (bs x1))/\wX.cell? ⟨g,o+2,none⟩=some (.string (bs x2))/\wX.cell? ⟨g,o+3,none⟩=some (.string (bs x3))) wX):=A2 fun wX hX=>⟨(hX.cell hg).trans c1,(hX.cell hg).trans c2,(hX.cell hg).trans c3⟩
 go_enter Tryz.func36,Tryz.ntmps36
 go_wp2_with (go_at_call 97;refine(AX _ _ (by assumption)).mono ?_;rintro e w' ⟨rfl,rfl⟩)
 go_region_held3 (fun wX=>wX.cell? ⟨g,o+1,none⟩=some (.string (bs x1))/\wX.cell? ⟨g,o+2,none⟩=some (.string (bs x2))/\wX.cell? ⟨g,o+3,none⟩=some (.string (bs x3))) ((refine HK.out _ ?_;repeat (first|exact Below.refl _ _|with_reducible refine Below.drew ?_|with_reducible refine Below.setCell ?_ (by first|omega|(simp<;>omega)) _|with_reducible refine Below.alloc ?_ (by first|omega|(simp<;>omega)) _))) (first|(go_at_call 98;refine(DU _ _ (by assumption)).mono ?_;rintro e w' ⟨rfl,rfl⟩)|(go_at_call 99;refine(hpm _).mono ?_;rintro e w' ⟨rfl,rfl⟩))
 all_goals
  by_cases ha:AM x1<0
  ·have HR:Hid ((if AM x1<0\/PM=0 then AP else ⟨2,x2,AM x1,0,PM,false⟩)=AP):=A2 (if_pos (.inl ha))
   go_wp2_with fail
   refine bodyPost_ret (v:=Bn AP) (by simp[results,Tryz.results36,go_sem,Bn,AP]) rfl ⟨by first|rw[HR.out]|rfl|(rw[if_neg hb]),?_⟩
   repeat (first|exact Below.refl _ _|with_reducible refine Below.drew ?_|with_reducible refine Below.setCell ?_ (by first|omega|(simp<;>omega)) _|with_reducible refine Below.alloc ?_ (by first|omega|(simp<;>omega)) _)
  ·have ha':0<=AM x1:=by omega
   by_cases hb:PM=0
   ·have HR:Hid ((if AM x1<0\/PM=0 then AP else ⟨2,x2,AM x1,0,PM,false⟩)=AP):=A2 (if_pos (.inr hb))
    subst hb
    go_wp2_with fail
    refine bodyPost_ret (v:=Bn AP) (by simp[results,Tryz.results36,go_sem,Bn,AP]) rfl ⟨by first|rw[HR.out]|rfl|(rw[if_neg hb]),?_⟩
    repeat (first|exact Below.refl _ _|with_reducible refine Below.drew ?_|with_reducible refine Below.setCell ?_ (by first|omega|(simp<;>omega)) _|with_reducible refine Below.alloc ?_ (by first|omega|(simp<;>omega)) _)
   ·have HR:Hid ((if AM x1<0\/PM=0 then AP else ⟨2,x2,AM x1,0,PM,false⟩)=⟨2,x2,AM x1,0,PM,false⟩):=A2 (if_neg (fun h=>h.elim ha hb))
    have hb':(PM==0)=false:=by simp[hb]
    go_wp2_with fail
    refine bodyPost_ret (v:=Bn ⟨2,x2,AM x1,0,PM,false⟩) (by simp[results,Tryz.results36,go_sem,Bn]) rfl ⟨by first|rw[HR.out]|rfl|(rw[if_neg hb]),?_⟩
    repeat (first|exact Below.refl _ _|with_reducible refine Below.drew ?_|with_reducible refine Below.setCell ?_ (by first|omega|(simp<;>omega)) _|with_reducible refine Below.alloc ?_ (by first|omega|(simp<;>omega)) _)
set_option maxHeartbeats 4000000 in
theorem V9 (g o c:Nat) (x0 x1 x2 x3 x4:AS) (w:World) (hg:g<w.heap.size) (c0:w.cell? ⟨g,o,none⟩=some (.string (bs x0))) (c1:w.cell? ⟨g,o+1,none⟩=some (.string (bs x1))) (c2:w.cell? ⟨g,o+2,none⟩=some (.string (bs x2))) (c3:w.cell? ⟨g,o+3,none⟩=some (.string (bs x3))) (c4:w.cell? ⟨g,o+4,none⟩=some (.string (bs x4))) (l1:x1.length<=20000) (l2:x2.length<=20000) (h0:(x0==[111,98,106,101,99,116])=false) (h0r:(x0==[114,101,103,105,111,110])=true) (hm:C0 x2=true) (h4:(x4==[104,117,103,101])=true) : Calls Tryz.prog 36 #[.slice (some ⟨g,o,none⟩) 5 c] w fun e w'=>e=.returned (Bn (if AM x1<0\/EH x3=0 then AP else ⟨2,x2,AM x1,0,EH x3,true⟩))/\Below w.heap.size w w':=by
 as_aux_lemma =>
 have hpm:=Ey x3;generalize EH x3=PM at *;have HK:Hid (∀wX,Below w.heap.size w wX->(fun wX=>wX.cell? ⟨g,o+1,none⟩=some (.string (bs x1))/\wX.cell? ⟨g,o+2,none⟩=some (.string (bs x2))/\wX.cell? ⟨g,o+3,none⟩=some (.string (bs x3))) wX):=A2 fun wX hX=>⟨(hX.cell hg).trans c1,(hX.cell hg).trans c2,(hX.cell hg).trans c3⟩
 go_enter Tryz.func36,Tryz.ntmps36
 go_wp2_with (go_at_call 97;refine(AX _ _ (by assumption)).mono ?_;rintro e w' ⟨rfl,rfl⟩)
 go_region_held3 (fun wX=>wX.cell? ⟨g,o+1,none⟩=some (.string (bs x1))/\wX.cell? ⟨g,o+2,none⟩=some (.string (bs x2))/\wX.cell? ⟨g,o+3,none⟩=some (.string (bs x3))) ((refine HK.out _ ?_;repeat (first|exact Below.refl _ _|with_reducible refine Below.drew ?_|with_reducible refine Below.setCell ?_ (by first|omega|(simp<;>omega)) _|with_reducible refine Below.alloc ?_ (by first|omega|(simp<;>omega)) _))) (first|(go_at_call 98;refine(DU _ _ (by assumption)).mono ?_;rintro e w' ⟨rfl,rfl⟩)|(go_at_call 99;refine(hpm _).mono ?_;rintro e w' ⟨rfl,rfl⟩))
 all_goals
  by_cases ha:AM x1<0
  ·have HR:Hid ((if AM x1<0\/PM=0 then AP else ⟨2,x2,AM x1,0,PM,true⟩)=AP):=A2 (if_pos (.inl ha))
   go_wp2_with fail
   refine bodyPost_ret (v:=Bn AP) (by simp[results,Tryz.results36,go_sem,Bn,AP]) rfl ⟨by first|rw[HR.out]|rfl|(rw[if_neg hb]),?_⟩
   repeat (first|exact Below.refl _ _|with_reducible refine Below.drew ?_|with_reducible refine Below.setCell ?_ (by first|omega|(simp<;>omega)) _|with_reducible refine Below.alloc ?_ (by first|omega|(simp<;>omega)) _)
  ·have ha':0<=AM x1:=by omega
   by_cases hb:PM=0
   ·have HR:Hid ((if AM x1<0\/PM=0 then AP else ⟨2,x2,AM x1,0,PM,true⟩)=AP):=A2 (if_pos (.inr hb))
    subst hb
    go_wp2_with fail
    refine bodyPost_ret (v:=Bn AP) (by simp[results,Tryz.results36,go_sem,Bn,AP]) rfl ⟨by first|rw[HR.out]|rfl|(rw[if_neg hb]),?_⟩
    repeat (first|exact Below.refl _ _|with_reducible refine Below.drew ?_|with_reducible refine Below.setCell ?_ (by first|omega|(simp<;>omega)) _|with_reducible refine Below.alloc ?_ (by first|omega|(simp<;>omega)) _)
   ·have HR:Hid ((if AM x1<0\/PM=0 then AP else ⟨2,x2,AM x1,0,PM,true⟩)=⟨2,x2,AM x1,0,PM,true⟩):=A2 (if_neg (fun h=>h.elim ha hb))
    have hb':(PM==0)=false:=by simp[hb]
    go_wp2_with fail
    refine bodyPost_ret (v:=Bn ⟨2,x2,AM x1,0,PM,true⟩) (by simp[results,Tryz.results36,go_sem,Bn]) rfl ⟨by first|rw[HR.out]|rfl|(rw[if_neg hb]),?_⟩
    repeat (first|exact Below.refl _ _|with_reducible refine Below.drew ?_|with_reducible refine Below.setCell ?_ (by first|omega|(simp<;>omega)) _|with_reducible refine Below.alloc ?_ (by first|omega|(simp<;>omega)) _)
end Go.Proofs.YtnmhkgmmpkjjeaaGreat
namespace Go.Proofs.YtnmhkgmmpkjjeaaGreat
open Go.ChangeShapes Go.WideShapes Go.ChangeAt Go.RowKit
set_option linter.unusedVariables false
set_option maxRecDepth 100000
theorem Jn (A:Option Addr) (c:Nat) (ts:List AS) (w:World) (hn:ts.length<=30000) (hl:∀i,i<ts.length->(ER ts i).length<=20000) (hA:0<ts.length->∃g o,A=some ⟨g,o,none⟩/\g<w.heap.size/\∀i,i<ts.length->w.cell? ⟨g,o+i,none⟩=some (.string (bs (ER ts i)))) : Calls Tryz.prog 36 #[.slice A ts.length c] w fun e w'=>e=.returned (Bn (CS ts))/\Below w.heap.size w w':=by
 by_cases h3:ts.length<3
 ·have key:CS ts=AP:=by unfold CS;rw[if_pos h3]
  rw[key];exact WV A c ts.length w (by omega)
 obtain⟨g,o,rfl,hg,hc⟩:=hA (by omega);have N3:(3:Int)<=(ts.length:Int):=by omega
 cases h0:ER ts 0==[111,98,106,101,99,116]
 ·cases h0r:ER ts 0==[114,101,103,105,111,110]
  ·cases h0g:ER ts 0==[103,117,97,114,100]
   ·(have key:CS ts=AP:=by unfold CS;rw[if_neg h3,h0,h0r,h0g];rfl);rw[key];exact XF g o c ts.length _ w hg (hc 0 (by omega)) h0 h0r h0g N3 hn
   ·by_cases e3:ts.length=3
    ·(have key:CS ts=V5 ts:=by unfold CS;rw[if_neg h3,h0,h0r,h0g,e3];rfl);rw[key,e3];exact Wn g o c _ _ _ w hg (hc 0 (by omega)) (hc 1 (by omega)) (hc 2 (by omega)) (hl 1 (by omega)) (hl 2 (by omega)) h0 h0r h0g
    ·(have key:CS ts=AP:=by unfold CS;rw[if_neg h3,h0,h0r,h0g,show (ts.length==3)=false by simpa using e3];rfl);rw[key];exact WZ g o c ts.length _ w hg (hc 0 (by omega)) h0 h0r h0g N3 hn (by rw[beq_eq_false_iff_ne];omega)
  ·(have key:CS ts=Tj ts:=by unfold CS;rw[if_neg h3,h0,h0r];rfl);rw[key];unfold Tj;by_cases e4:ts.length=4
   ·rw[e4];cases hm:C0 (ER ts 2)
    ·exact Tz g o c _ _ _ _ w hg (hc 0 (by omega)) (hc 1 (by omega)) (hc 2 (by omega)) (hc 3 (by omega)) (hl 2 (by omega)) h0 h0r hm
    ·exact UO g o c _ _ _ _ w hg (hc 0 (by omega)) (hc 1 (by omega)) (hc 2 (by omega)) (hc 3 (by omega)) (hl 1 (by omega)) (hl 2 (by omega)) h0 h0r hm
   ·by_cases e5:ts.length=5
    ·rw[e5];cases hm:C0 (ER ts 2)
     ·exact Ud g o c _ _ _ _ _ w hg (hc 0 (by omega)) (hc 1 (by omega)) (hc 2 (by omega)) (hc 3 (by omega)) (hc 4 (by omega)) (hl 2 (by omega)) h0 h0r hm
     ·cases h4:ER ts 4==[104,117,103,101]
      ·exact Uo g o c _ _ _ _ _ w hg (hc 0 (by omega)) (hc 1 (by omega)) (hc 2 (by omega)) (hc 3 (by omega)) (hc 4 (by omega)) (hl 2 (by omega)) h0 h0r hm h4
      ·exact V9 g o c _ _ _ _ _ w hg (hc 0 (by omega)) (hc 1 (by omega)) (hc 2 (by omega)) (hc 3 (by omega)) (hc 4 (by omega)) (hl 1 (by omega)) (hl 2 (by omega)) h0 h0r hm h4
    ·rw[show (ts.length==4)=false by simpa using e4,show (ts.length==5)=false by simpa using e5];exact Wr g o c ts.length _ w hg (hc 0 (by omega)) h0 h0r N3 hn (by rw[bne_iff_ne];omega) (by rw[bne_iff_ne];omega)
 ·have key:CS ts=TI ts:=by unfold CS;rw[if_neg h3,h0];rfl
  rw[key];unfold TI;by_cases e5:ts.length=5
  ·rw[e5];cases hm:C0 (ER ts 1)
   ·exact UW g o c _ _ _ _ _ w hg (hc 0 (by omega)) (hc 1 (by omega)) (hc 2 (by omega)) (hc 3 (by omega)) (hc 4 (by omega)) (hl 1 (by omega)) h0 hm
   ·cases h4:ER ts 3==[97,116]
    ·exact U1 g o c _ _ _ _ _ w hg (hc 0 (by omega)) (hc 1 (by omega)) (hc 2 (by omega)) (hc 3 (by omega)) (hc 4 (by omega)) (hl 1 (by omega)) h0 hm h4
    ·exact UM g o c _ _ _ _ _ w hg (hc 0 (by omega)) (hc 1 (by omega)) (hc 2 (by omega)) (hc 3 (by omega)) (hc 4 (by omega)) (hl 1 (by omega)) (hl 2 (by omega)) (hl 4 (by omega)) h0 hm h4
  ·by_cases e6:ts.length=6
   ·rw[e6];cases hm:C0 (ER ts 1)
    ·exact Us g o c _ _ _ _ _ _ w hg (hc 0 (by omega)) (hc 1 (by omega)) (hc 2 (by omega)) (hc 3 (by omega)) (hc 4 (by omega)) (hc 5 (by omega)) (hl 1 (by omega)) h0 hm
    ·cases h4:ER ts 3==[97,116]
     ·exact UG g o c _ _ _ _ _ _ w hg (hc 0 (by omega)) (hc 1 (by omega)) (hc 2 (by omega)) (hc 3 (by omega)) (hc 4 (by omega)) (hc 5 (by omega)) (hl 1 (by omega)) h0 hm h4
     ·cases h5:ER ts 5==[115,104,97,114,101,100]
      ·exact UL g o c _ _ _ _ _ _ w hg (hc 0 (by omega)) (hc 1 (by omega)) (hc 2 (by omega)) (hc 3 (by omega)) (hc 4 (by omega)) (hc 5 (by omega)) (hl 1 (by omega)) h0 hm h4 h5
      ·exact UN g o c _ _ _ _ _ _ w hg (hc 0 (by omega)) (hc 1 (by omega)) (hc 2 (by omega)) (hc 3 (by omega)) (hc 4 (by omega)) (hc 5 (by omega)) (hl 1 (by omega)) (hl 2 (by omega)) (hl 4 (by omega)) h0 hm h4 h5
   ·rw[show (ts.length==5)=false by simpa using e5,show (ts.length==6)=false by simpa using e6];exact Wa g o c ts.length _ w hg (hc 0 (by omega)) h0 N3 hn (by rw[bne_iff_ne];omega) (by rw[bne_iff_ne];omega)
end Go.Proofs.YtnmhkgmmpkjjeaaGreat
