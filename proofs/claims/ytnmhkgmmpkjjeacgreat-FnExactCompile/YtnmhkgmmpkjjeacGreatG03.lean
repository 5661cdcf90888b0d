import Derived.Test.YtnmhkgmmpkjjeacGreatRows
import Derived.WalkKit
import Derived.ProofKit
import Derived.OpenShut
import Derived.Below
import Derived.Deep.OwnRows
import Derived.Deep.QuietTactic
import Derived.BigQuiet
import Derived.Test.YtnmhkgmmpkjjeacGreatG02
import Derived.Deep.AppendLies
import Derived.Deep.RegionHeld3
import Derived.Deep.DrawnRows
namespace Go.Proofs.YtnmhkgmmpkjjeacGreat
open Go.ChangeShapes Go.WideShapes Go.ChangeAt Go.RowKit
set_option linter.unusedVariables false
theorem info_u64:(Tryz.prog.info? 70).map (fun i=>(i.zero,i.size,i.bytes))=some (some (.int .u64 0),1,8):=by kernel_rfl
def IRow (w:World) (g:Nat) (zs:List Int):Prop:=w.rowIs g 70 zs.length (fun i=>.int .u64 (zs.getD i 0))
theorem IRow.cell {w:World} {g:Nat} {zs:List Int} (h:IRow w g zs) {i:Nat} (hi:i < zs.length):w.cell? ⟨g,i,none⟩=some (.int .u64 (zs.getD i 0)):=World.rowIs.cell h hi
theorem IRow.below {w w':World} {g B:Nat} {zs:List Int} (h:IRow w g zs) (hb:Below B w w') (hg:g < B):IRow w' g zs:=World.rowIs.of_block h (hb.block g hg)
theorem IRow.lt {w:World} {g:Nat} {zs:List Int} (h:IRow w g zs):g < w.heap.size:=World.rowIs.lt h
theorem bDrewN {B:Nat} {a w:World} (h:Below B a w) (n:Nat):Below B a (w.drewN n):=⟨h.os,h.tape,h.output,h.size,h.block⟩
def Src (w:World) (v:Value) (zs:List Int):Prop :=
 ∃ (a:Option Addr) (cap:Nat),v=.slice a zs.length cap/\(0 < zs.length->∃ b o,a=some ⟨b,o,none⟩/\b < w.heap.size/\∀ i,i < zs.length->w.cell? ⟨b,o+i,none⟩=some (.int .u64 (zs.getD i 0)))
theorem outOf_any (x:Int) (h0:0<=x) (h1:x < 2 ^ 64) (w:World) :
  Calls Tryz.prog 139 #[.int .u64 x] w fun e w'=>e=.returned (.int .i64 (x / 4096 % 65536))/\w'=w:=by
 have e1:=and_out x h0 (by omega)
 have e2:x / 4096 % 65536 * 4096 / 4096=x / 4096 % 65536:=by omega
 go_enter Tryz.func139,Tryz.ntmps139
 go_wp2
 go_ret
 exact ⟨rfl,rfl⟩
theorem permOf_any (x:Int) (h0:0<=x) (h1:x < 2 ^ 64) (w:World) :
  Calls Tryz.prog 140 #[.int .u64 x] w fun e w'=>e=.returned (.int .i64 (x / 4 % 8))/\w'=w:=by
 have e1:=and_28 x h0 (by omega)
 have e2:x / 4 % 8 * 4 / 4=x / 4 % 8:=by omega
 go_enter Tryz.func140,Tryz.ntmps140
 go_wp2
 go_ret
 exact ⟨rfl,rfl⟩
theorem form_inv (x:Int) (h0:0<=x) (h1:x < 2 ^ 64) (a1:x % 2=0) (w:World) :
  Calls Tryz.prog 138 #[.int .u64 x] w fun e w'=>e=.returned (.int .i64 0)/\w'=w:=by
 have e1:=and_1 x h0 (by omega)
 go_enter Tryz.func138,Tryz.ntmps138
 go_wp2
 go_ret
 exact ⟨rfl,rfl⟩
theorem form_stray (x:Int) (h0:0<=x) (h1:x < 2 ^ 64) (a1:x % 2=1) (a2:¬ x / 32 % 128=0\/¬ x / 268435456=0) (w:World) :
  Calls Tryz.prog 138 #[.int .u64 x] w fun e w'=>e=.returned (.int .i64 4)/\w'=w:=by
 have e1:=and_1 x h0 (by omega)
 have e2:(bits .andNot .u64 x 268431391 == 0)=false:=by
  rw [andNot_used x h0 (by omega)]
  simp only [beq_eq_false_iff_ne]
  omega
 have e3:(bits .andNot .u64 x 268431391 != 0)=true:=by simp [bne,e2]
 clear a2 e2
 go_enter Tryz.func138,Tryz.ntmps138
 go_wp2
 go_ret
 exact ⟨rfl,rfl⟩
theorem form_table (x:Int) (h0:0<=x) (h1:x < 2 ^ 64) (a1:x % 2=1) (a2:x / 32 % 128=0) (a3:x / 268435456=0) (b:x / 2 % 2=1) (c:x / 4 % 8=0) (w:World) :
  Calls Tryz.prog 138 #[.int .u64 x] w fun e w'=>e=.returned (.int .i64 1)/\w'=w:=by
 have e1:=and_1 x h0 (by omega)
 have e2:=and_2 x h0 (by omega)
 have e3:=and_28 x h0 (by omega)
 have e4:=andNot_used x h0 (by omega)
 go_enter Tryz.func138,Tryz.ntmps138
 go_wp2
 go_ret
 exact ⟨rfl,rfl⟩
theorem form_page (x:Int) (h0:0<=x) (h1:x < 2 ^ 64) (a1:x % 2=1) (a2:x / 32 % 128=0) (a3:x / 268435456=0) (b:x / 2 % 2=1) (c:0 < x / 4 % 8) (w:World) :
  Calls Tryz.prog 138 #[.int .u64 x] w fun e w'=>e=.returned (.int .i64 3)/\w'=w:=by
 have e1:=and_1 x h0 (by omega)
 have e2:=and_2 x h0 (by omega)
 have e3:=and_28 x h0 (by omega)
 have e4:=andNot_used x h0 (by omega)
 have c1:(x / 4 % 8 * 4 != 0)=true:=by simp only [bne_iff_ne]; omega
 go_enter Tryz.func138,Tryz.ntmps138
 go_wp2
 go_ret
 exact ⟨rfl,rfl⟩
theorem form_block (x:Int) (h0:0<=x) (h1:x < 2 ^ 64) (a1:x % 2=1) (a2:x / 32 % 128=0) (a3:x / 268435456=0) (b:x / 2 % 2=0) (c:0 < x / 4 % 8) (d:x / 4096 % 65536 % 16=0) (w:World) :
  Calls Tryz.prog 138 #[.int .u64 x] w fun e w'=>e=.returned (.int .i64 2)/\w'=w:=by
 have e1:=and_1 x h0 (by omega)
 have e2:=and_2 x h0 (by omega)
 have e3:=and_28 x h0 (by omega)
 have e4:=andNot_used x h0 (by omega)
 have c1:(x / 4 % 8 * 4 != 0)=true:=by simp only [bne_iff_ne]; omega
 have d1:(x / 4096 % 16 == 0)=true:=by simp only [beq_iff_eq]; omega
 go_enter Tryz.func138,Tryz.ntmps138
 go_wp2_with (go_at_call 139; refine (outOf_any _ h0 h1 _).mono ?_; rintro e w' ⟨rfl,rfl⟩)
 go_ret
 exact ⟨rfl,rfl⟩
theorem form_odd (x:Int) (h0:0<=x) (h1:x < 2 ^ 64) (a1:x % 2=1) (a2:x / 32 % 128=0) (a3:x / 268435456=0) (b:x / 2 % 2=0) (c:0 < x / 4 % 8) (d:0 < x / 4096 % 65536 % 16) (w:World) :
  Calls Tryz.prog 138 #[.int .u64 x] w fun e w'=>e=.returned (.int .i64 4)/\w'=w:=by
 have e1:=and_1 x h0 (by omega)
 have e2:=and_2 x h0 (by omega)
 have e3:=and_28 x h0 (by omega)
 have e4:=andNot_used x h0 (by omega)
 have c1:(x / 4 % 8 * 4 != 0)=true:=by simp only [bne_iff_ne]; omega
 have d1:(x / 4096 % 16 == 0)=false:=by simp only [beq_eq_false_iff_ne]; omega
 go_enter Tryz.func138,Tryz.ntmps138
 go_wp2_with (go_at_call 139; refine (outOf_any _ h0 h1 _).mono ?_; rintro e w' ⟨rfl,rfl⟩)
 go_ret
 exact ⟨rfl,rfl⟩
theorem form_none (x:Int) (h0:0<=x) (h1:x < 2 ^ 64) (a1:x % 2=1) (a2:x / 32 % 128=0) (a3:x / 268435456=0) (b:x / 2 % 2=0) (c:x / 4 % 8=0) (w:World) :
  Calls Tryz.prog 138 #[.int .u64 x] w fun e w'=>e=.returned (.int .i64 4)/\w'=w:=by
 have e1:=and_1 x h0 (by omega)
 have e2:=and_2 x h0 (by omega)
 have e3:=and_28 x h0 (by omega)
 have e4:=andNot_used x h0 (by omega)
 go_enter Tryz.func138,Tryz.ntmps138
 go_wp2
 go_ret
 exact ⟨rfl,rfl⟩
theorem kind_out (l f:Int) (h:l < 1\/3 < l) (w:World) :
  Calls Tryz.prog 137 #[.int .i64 l,.int .i64 f] w fun e w'=>e=.returned (.int .i64 4)/\w'=w:=by
 rcases h with h | h
 all_goals
  go_enter Tryz.func137,Tryz.ntmps137
  go_wp2
  go_ret
  exact ⟨rfl,rfl⟩
def kAt (l f:Int):Int:=if f=0 then 0 else if f=1/\l < 3 then 1 else if f=2/\l=2 then 2 else if f=3/\l=3 then 3 else 4
set_option maxHeartbeats 2000000 in
theorem kind_in (l f:Int) (hl:l=1\/l=2\/l=3) (hf:f=0\/f=1\/f=2\/f=3\/f=4) (w:World) :
  Calls Tryz.prog 137 #[.int .i64 l,.int .i64 f] w fun e w'=>e=.returned (.int .i64 (kAt l f))/\w'=w:=by
 rcases hl with rfl | rfl | rfl <;> rcases hf with rfl | rfl | rfl | rfl | rfl
 all_goals as_aux_lemma =>
  go_enter Tryz.func137,Tryz.ntmps137
  go_wp2
  go_ret
  exact ⟨rfl,rfl⟩
theorem impl_out (l x:Int) (h:l < 1\/3 < l) (h0:0<=x) (h1:x < 2 ^ 64) (f:Int) (hf:∀ w,Calls Tryz.prog 138 #[.int .u64 x] w fun e w'=>e=.returned (.int .i64 f)/\w'=w) (w:World) :
  Calls Tryz.prog 122 #[.int .i64 l,.int .u64 x] w fun e w'=>e=.returned (desc3 4 0 0)/\Below w.heap.size w w':=by
 go_enter Tryz.func122,Tryz.ntmps122
 go_wp2_with (first
  | (go_at_call 138; refine (hf _).mono ?_; rintro e w' ⟨rfl,rfl⟩)
  | (go_at_call 137; refine (kind_out _ _ h _).mono ?_; rintro e w' ⟨rfl,rfl⟩))
 exact bodyPost_ret (v:=.agg #[.int .i64 4,.int .i64 0,.int .i64 0]) (by simp [results,Tryz.results122,go_sem]) rfl ⟨rfl,(Below.refl _ _).alloc (Nat.le_refl _) _⟩
theorem impl_none (l x k:Int) (hl:l=1\/l=2\/l=3) (h0:0<=x) (h1:x < 2 ^ 64) (f:Int) (hf5:f=0\/f=1\/f=2\/f=3\/f=4) (hk:kAt l f=k) (hk4:k=0\/k=4)
  (hf:∀ w,Calls Tryz.prog 138 #[.int .u64 x] w fun e w'=>e=.returned (.int .i64 f)/\w'=w) (w:World) :
  Calls Tryz.prog 122 #[.int .i64 l,.int .u64 x] w fun e w'=>e=.returned (desc3 k 0 0)/\Below w.heap.size w w':=by
 have hc:∀ w,Calls Tryz.prog 137 #[.int .i64 l,.int .i64 f] w fun e w'=>e=.returned (.int .i64 k)/\w'=w:=by
  intro w; rw [<- hk]; exact kind_in l f hl hf5 w
 clear hl hf5 hk
 rcases hk4 with rfl | rfl
 ·go_enter Tryz.func122,Tryz.ntmps122
  go_wp2_with (first
   | (go_at_call 138; refine (hf _).mono ?_; rintro e w' ⟨rfl,rfl⟩)
   | (go_at_call 137; refine (hc _).mono ?_; rintro e w' ⟨rfl,rfl⟩))
  exact bodyPost_ret (v:=.agg #[.int .i64 0,.int .i64 0,.int .i64 0]) (by simp [results,Tryz.results122,go_sem]) rfl ⟨rfl,(Below.refl _ _).alloc (Nat.le_refl _) _⟩
 ·go_enter Tryz.func122,Tryz.ntmps122
  go_wp2_with (first
   | (go_at_call 138; refine (hf _).mono ?_; rintro e w' ⟨rfl,rfl⟩)
   | (go_at_call 137; refine (hc _).mono ?_; rintro e w' ⟨rfl,rfl⟩))
  exact bodyPost_ret (v:=.agg #[.int .i64 4,.int .i64 0,.int .i64 0]) (by simp [results,Tryz.results122,go_sem]) rfl ⟨rfl,(Below.refl _ _).alloc (Nat.le_refl _) _⟩
theorem impl_some (l x k:Int) (hl:l=1\/l=2\/l=3) (h0:0<=x) (h1:x < 2 ^ 64) (f:Int) (hf5:f=0\/f=1\/f=2\/f=3\/f=4) (hk:kAt l f=k) (hk4:k=1\/k=2\/k=3)
  (hf:∀ w,Calls Tryz.prog 138 #[.int .u64 x] w fun e w'=>e=.returned (.int .i64 f)/\w'=w) (w:World) :
  Calls Tryz.prog 122 #[.int .i64 l,.int .u64 x] w fun e w'=>e=.returned (desc3 k (x / 4096 % 65536) (x / 4 % 8))/\Below w.heap.size w w':=by
 have hc:∀ w,Calls Tryz.prog 137 #[.int .i64 l,.int .i64 f] w fun e w'=>e=.returned (.int .i64 k)/\w'=w:=by
  intro w; rw [<- hk]; exact kind_in l f hl hf5 w
 clear hl hf5 hk
 rcases hk4 with rfl | rfl | rfl
 all_goals
  go_enter Tryz.func122,Tryz.ntmps122
  go_wp2_with (first
   | (go_at_call 138; refine (hf _).mono ?_; rintro e w' ⟨rfl,rfl⟩)
   | (go_at_call 137; refine (hc _).mono ?_; rintro e w' ⟨rfl,rfl⟩)
   | (go_at_call 139; refine (outOf_any _ h0 h1 _).mono ?_; rintro e w' ⟨rfl,rfl⟩)
   | (go_at_call 140; refine (permOf_any _ h0 h1 _).mono ?_; rintro e w' ⟨rfl,rfl⟩))
  exact bodyPost_ret (v:=.agg #[_,.int .i64 (x / 4096 % 65536),.int .i64 (x / 4 % 8)]) (by simp [results,Tryz.results122,go_sem]) rfl ⟨rfl,(Below.refl _ _).alloc (Nat.le_refl _) _⟩
theorem implDecode_any (l x:Int) (h0:0<=x) (h1:x < 2 ^ 64) (w:World) :
  Calls Tryz.prog 122 #[.int .i64 l,.int .u64 x] w fun e w'=>e=.returned (descV l x)/\Below w.heap.size w w':=by
 rcases desc_cases l x with ⟨a,e⟩ | ⟨a,b,c,e⟩ | ⟨a,b,c,d,f,g,e⟩ | ⟨rfl,b,c,d,f,g,h,e⟩ | ⟨rfl,b,c,d,f,g,e⟩ | ⟨a,b,c,d,e⟩ <;> rw [e]
 ·have hx:∃ f,∀ w,Calls Tryz.prog 138 #[.int .u64 x] w fun e w'=>e=.returned (.int .i64 f)/\w'=w:=by
   by_cases a1:x % 2=0
   ·exact ⟨0,form_inv x h0 h1 a1⟩
   ·by_cases a2:x / 32 % 128=0/\x / 268435456=0
    ·by_cases c:x / 4 % 8=0 <;> by_cases b:x / 2 % 2=0
     ·exact ⟨4,form_none x h0 h1 (by omega) a2.1 a2.2 b c⟩
     ·exact ⟨1,form_table x h0 h1 (by omega) a2.1 a2.2 (by omega) c⟩
     ·by_cases d:x / 4096 % 65536 % 16=0
      ·exact ⟨2,form_block x h0 h1 (by omega) a2.1 a2.2 b (by omega) d⟩
      ·exact ⟨4,form_odd x h0 h1 (by omega) a2.1 a2.2 b (by omega) (by omega)⟩
     ·exact ⟨3,form_page x h0 h1 (by omega) a2.1 a2.2 (by omega) (by omega)⟩
    ·exact ⟨4,form_stray x h0 h1 (by omega) (by omega)⟩
  obtain ⟨f,hf⟩:=hx
  exact impl_out l x a h0 h1 f hf w
 ·exact impl_none l x 0 (by omega) h0 h1 0 (by omega) (by simp [kAt]) (by omega) (form_inv x h0 h1 c) w
 ·have:=impl_some l x 1 (by omega) h0 h1 1 (by omega) (by simp [kAt]; omega) (by omega) (form_table x h0 h1 b c d f g) w
  rw [g] at this
  exact this
 ·exact impl_some 2 x 2 (by omega) h0 h1 2 (by omega) (by simp [kAt]) (by omega) (form_block x h0 h1 b c d f g h) w
 ·exact impl_some 3 x 3 (by omega) h0 h1 3 (by omega) (by simp [kAt]) (by omega) (form_page x h0 h1 b c d f g) w
 ·have hl:l=1\/l=2\/l=3:=by omega
  rcases d with d | ⟨d,d'⟩ | ⟨d,d',hb⟩
  ·exact impl_none l x 4 hl h0 h1 4 (by omega) (by simp [kAt]) (by omega) (form_stray x h0 h1 c (.inl d)) w
  ·exact impl_none l x 4 hl h0 h1 4 (by omega) (by simp [kAt]) (by omega) (form_stray x h0 h1 c (.inr d')) w
  ·rcases hb with ⟨rfl,p,q⟩ | ⟨rfl,p,q,r⟩ | ⟨rfl,p,q,r⟩ | ⟨rfl,p,q⟩ | ⟨rfl,p,q⟩ | ⟨rfl,p,q,r⟩ | ⟨rfl,p,q⟩ | ⟨rfl,p,q⟩ | ⟨rfl,p,q⟩ | ⟨rfl,p,q,r⟩ | ⟨rfl,p,q,r⟩
   ·exact impl_none 1 x 4 hl h0 h1 4 (by omega) (by simp [kAt]) (by omega) (form_none x h0 h1 c d d' p q) w
   ·exact impl_none 1 x 4 hl h0 h1 2 (by omega) (by simp [kAt]) (by omega) (form_block x h0 h1 c d d' p q r) w
   ·exact impl_none 1 x 4 hl h0 h1 4 (by omega) (by simp [kAt]) (by omega) (form_odd x h0 h1 c d d' p q r) w
   ·exact impl_none 1 x 4 hl h0 h1 3 (by omega) (by simp [kAt]) (by omega) (form_page x h0 h1 c d d' p q) w
   ·exact impl_none 2 x 4 hl h0 h1 4 (by omega) (by simp [kAt]) (by omega) (form_none x h0 h1 c d d' p q) w
   ·exact impl_none 2 x 4 hl h0 h1 4 (by omega) (by simp [kAt]) (by omega) (form_odd x h0 h1 c d d' p q r) w
   ·exact impl_none 2 x 4 hl h0 h1 3 (by omega) (by simp [kAt]) (by omega) (form_page x h0 h1 c d d' p q) w
   ·exact impl_none 3 x 4 hl h0 h1 1 (by omega) (by simp [kAt]) (by omega) (form_table x h0 h1 c d d' p q) w
   ·exact impl_none 3 x 4 hl h0 h1 4 (by omega) (by simp [kAt]) (by omega) (form_none x h0 h1 c d d' p q) w
   ·exact impl_none 3 x 4 hl h0 h1 2 (by omega) (by simp [kAt]) (by omega) (form_block x h0 h1 c d d' p q r) w
   ·exact impl_none 3 x 4 hl h0 h1 4 (by omega) (by simp [kAt]) (by omega) (form_odd x h0 h1 c d d' p q r) w
theorem bcell {W w1:World} (hb:Below W.heap.size W w1):(∀ b o,b < W.heap.size->w1.cell? ⟨b,o,none⟩=W.cell? ⟨b,o,none⟩)/\(∀ b o,b < W.heap.size->w1.frozen? ⟨b,o,none⟩=W.frozen? ⟨b,o,none⟩) :=
 ⟨fun b o h=>hb.cell (p:=⟨b,o,none⟩) h,fun b o h=>hb.frozen (p:=⟨b,o,none⟩) h⟩
end Go.Proofs.YtnmhkgmmpkjjeacGreat
namespace Go.Proofs.YtnmhkgmmpkjjeacGreat
open Go.ChangeShapes Go.WideShapes Go.ChangeAt Go.RowKit
set_option linter.unusedVariables false
attribute [local go_sem ↓] Go.wp_at_zero Go.wp_at_succ
structure P3 where
 fr:Int
 lv:Int
 pg:Int
def P3.val (p:P3):Value:=.agg #[.int .i64 p.fr,.int .i64 p.lv,.int .i64 p.pg]
def pcells (ps:List P3):List Value:=ps.flatMap fun p=>[.int .i64 p.fr,.int .i64 p.lv,.int .i64 p.pg]
def pAt (ps:List P3) (i:Nat):P3:=ps.getD i ⟨0,0,0⟩
theorem pcells_append (a b:List P3):pcells (a ++ b)=pcells a ++ pcells b:=by simp [pcells]
theorem pcells_at (ps:List P3):∀ i,i < ps.length->(pcells ps)[i * 3]?=some (.int .i64 (pAt ps i).fr)/\(pcells ps)[i * 3+1]?=some (.int .i64 (pAt ps i).lv)/\(pcells ps)[i * 3+2]?=some (.int .i64 (pAt ps i).pg):=by
 induction ps with
 | nil=>intro i hi; simp at hi
 | cons p r ih =>
  intro i hi
  cases i with
  | zero=>exact ⟨rfl,rfl,rfl⟩
  | succ i =>
   have h:=ih i (by simpa using hi)
   have e:pcells (p :: r)=[.int .i64 p.fr,.int .i64 p.lv,.int .i64 p.pg] ++ pcells r:=rfl
   have e2:pAt (p :: r) (i+1)=pAt r i:=by simp [pAt]
   rw [e,e2]
   refine ⟨?_,?_,?_⟩
   ·rw [List.getElem?_append_right (by simp; omega),show (i+1) * 3 - List.length [Value.int .i64 p.fr,.int .i64 p.lv,.int .i64 p.pg]=i * 3 by simp; omega]; exact h.1
   ·rw [List.getElem?_append_right (by simp; omega),show (i+1) * 3+1 - List.length [Value.int .i64 p.fr,.int .i64 p.lv,.int .i64 p.pg]=i * 3+1 by simp; omega]; exact h.2.1
   ·rw [List.getElem?_append_right (by simp; omega),show (i+1) * 3+2 - List.length [Value.int .i64 p.fr,.int .i64 p.lv,.int .i64 p.pg]=i * 3+2 by simp; omega]; exact h.2.2
def PRow (w:World) (base:Nat) (v:Value) (ps:List P3):Prop:=w.ownsRow base 62 3 v ps.length (pcells ps)
theorem PRow.form {w:World} {base:Nat} {v:Value} {ps:List P3} (h:PRow w base v ps):∃ a cap,v=.slice a ps.length cap/\(0 < ps.length->∃ g N f,a=some ⟨g,0,none⟩/\base<=g/\w.rowIs g 62 N f/\ps.length * 3<=N/\∀ i,i < ps.length->f (i * 3)=.int .i64 (pAt ps i).fr/\f (i * 3+1)=.int .i64 (pAt ps i).lv/\f (i * 3+2)=.int .i64 (pAt ps i).pg):=by
 rcases h.2 with ⟨rfl,h0⟩ | ⟨g,cap,cur,rfl,hb,hg,hn,hm,hs,ht⟩
 ·rw [h0]; exact ⟨none,0,rfl,fun h=>absurd h (by omega)⟩
 ·refine ⟨_,cap,rfl,fun _=>⟨g,cur.size,fun i=>cur.getD i (.bool false),rfl,hb,⟨cur,hg,rfl,fun i hi=>by simp [hi]⟩,by rw [hs]; omega,fun i hi=>?_⟩⟩
  have hc:∀ j u,j < ps.length * 3->(pcells ps)[j]?=some u->cur.getD j (.bool false)=u:=by
   intro j u hj hu
   rw [<- ht,List.getElem?_take,if_pos hj] at hu
   simp at hu
   simp [Array.getD_eq_getD_getElem?,hu]
  obtain ⟨a,b,c⟩:=pcells_at ps i hi
  exact ⟨hc _ _ (by omega) a,hc _ _ (by omega) b,hc _ _ (by omega) c⟩
theorem below_grown {w w':World} (h:Below w.heap.size w w'):w.grownBy w' none:=⟨h.os,h.tape,h.output,h.size,fun k hk _=>h.block k hk⟩
theorem PRow.below {w w':World} {base:Nat} {v:Value} {ps:List P3} (h:PRow w base v ps) (hb:Below w.heap.size w w'):PRow w' base v ps :=
 World.ownsRow.kept h (below_grown hb) (by cases hv:v.ownBlock <;> simp)
theorem PRow.rebase {w:World} {base base':Nat} {v:Value} {ps:List P3} (h:PRow w base v ps) (hb:base'<=base):PRow w base' v ps:=by
 refine ⟨h.1,?_⟩
 rcases h.2 with hh | ⟨g,cap,cur,e,hg,r⟩
 ·exact .inl hh
 ·exact .inr ⟨g,cap,cur,e,Nat.le_trans hb hg,r⟩
theorem plc_cells {w:World} {b c:Nat} {a:Option Addr} {ps:List P3} (h:PRow w b (.slice a ps.length c) ps) :
  ∃ g,(0 < ps.length->a=some ⟨g,0,none⟩/\g < w.heap.size)/\∀ k F L P,k < ps.length->pAt ps k=⟨F,L,P⟩->∀ wX,Below w.heap.size w wX->wX.cell? ⟨g,k * 3,none⟩=some (.int .i64 F)/\wX.cell? ⟨g,k * 3+1,none⟩=some (.int .i64 L)/\wX.cell? ⟨g,k * 3+2,none⟩=some (.int .i64 P):=by
 obtain ⟨a',c',e,hf⟩:=h.form
 simp only [Value.slice.injEq] at e
 obtain ⟨rfl,_,_⟩:=e
 by_cases h0:0 < ps.length
 ·obtain ⟨g,N,f,rfl,_,hr,hN,hc⟩:=hf h0
  refine ⟨g,fun _=>⟨rfl,hr.lt⟩,fun k F L P hk he wX hX=>?_⟩
  have hr1:wX.rowIs g 62 N f:=hr.of_block (hX.block g hr.lt)
  obtain ⟨x0,x1,x2⟩:=hc k hk
  rw [he] at x0 x1 x2
  exact ⟨(hr1.cell (by omega)).trans (congrArg some x0),(hr1.cell (by omega)).trans (congrArg some x1),(hr1.cell (by omega)).trans (congrArg some x2)⟩
 ·exact ⟨0,fun h=>absurd h h0,fun k F L P hk=>absurd hk (by omega)⟩
end Go.Proofs.YtnmhkgmmpkjjeacGreat
namespace Go.Proofs.YtnmhkgmmpkjjeacGreat
def cov (l:Int):Int:=if l=1 then 256 else if l=2 then 16 else 1
theorem cov_bd (l:Int):0<=cov l/\cov l<=256:=by
 unfold cov
 by_cases a:l=1 <;> by_cases b:l=2 <;> simp [a,b]
def wordAt (zs:List Int) (f:Int) (i:Nat):Int:=zs.getD ((f * 16).toNat+i) 0
def leads (zs:List Int) (n:Int) (p:P3) (i:Nat):Bool:=decide (dKind p.lv (wordAt zs p.fr i)=1) && decide (dOut p.lv (wordAt zs p.fr i) < n)
def under (zs:List Int) (p:P3) (i:Nat):P3:=⟨dOut p.lv (wordAt zs p.fr i),p.lv+1,p.pg+i * cov p.lv⟩
def downs (zs:List Int) (n:Int) (rec:P3->List P3) (p:P3) (k:Nat):List P3:=p :: (List.range k).flatMap fun i=>if leads zs n p i then rec (under zs p i) else []
def belowL (zs:List Int) (n:Int):Nat->P3->List P3
 | 0,p=>[p]
 | d+1,p=>downs zs n (belowL zs n d) p 16
def bnd:Nat->Nat
 | 0=>1
 | d+1=>1+16 * bnd d
theorem downs_zero (zs:List Int) (n:Int) (rec:P3->List P3) (p:P3):downs zs n rec p 0=[p]:=rfl
theorem downs_succ (zs:List Int) (n:Int) (rec:P3->List P3) (p:P3) (k:Nat):downs zs n rec p (k+1)=downs zs n rec p k ++ (if leads zs n p k then rec (under zs p k) else []):=by
 simp [downs,List.range_succ]
theorem downs_length (zs:List Int) (n:Int) (rec:P3->List P3) (p:P3) (B:Nat) (h:∀ q,(rec q).length<=B):∀ k,(downs zs n rec p k).length<=1+k * B
 | 0=>by simp [downs]
 | k+1=>by
  rw [downs_succ,List.length_append]
  have:=downs_length zs n rec p B h k
  have h2:(if leads zs n p k then rec (under zs p k) else []).length<=B:=by split <;> simp [h]
  rw [Nat.add_mul]; omega
theorem belowL_length (zs:List Int) (n:Int):∀ d p,(belowL zs n d p).length<=bnd d
 | 0,p=>by simp [belowL,bnd]
 | d+1,p=>downs_length zs n _ p (bnd d) (belowL_length zs n d) 16
def nfr (m:Nat):Int:=if m < 16\/8192 < m\/¬ m % 16=0 then 0 else (m / 16:Nat)
theorem nfr_le (m:Nat):nfr m<=512:=by unfold nfr; split <;> omega
theorem nfr_mul (m:Nat) (h:nfr m ≠ 0):nfr m * 16=m/\1<=nfr m:=by unfold nfr at h ⊢; split <;> simp_all <;> omega
theorem dOut_lo (l x:Int):0<=dOut l x/\dOut l x < 65536:=by unfold dOut; split <;> omega
def soundW (zs:List Int) (n:Int) (p:P3) (i:Nat):Bool:=!(decide (dKind p.lv (wordAt zs p.fr i)=4) || (decide (dKind p.lv (wordAt zs p.fr i)=1) && decide (n<=dOut p.lv (wordAt zs p.fr i))))
def soundP (zs:List Int) (n:Int) (p:P3):Bool:=(List.range 16).all (soundW zs n p)
def freshP (ps:List P3) (i:Nat):Bool:=(List.range i).all fun j=>!decide ((pAt ps i).fr=(pAt ps j).fr)
def treeTo (zs:List Int) (n:Int) (ps:List P3) (k:Nat):Bool:=(List.range k).all fun i=>freshP ps i && soundP zs n (pAt ps i)
end Go.Proofs.YtnmhkgmmpkjjeacGreat
