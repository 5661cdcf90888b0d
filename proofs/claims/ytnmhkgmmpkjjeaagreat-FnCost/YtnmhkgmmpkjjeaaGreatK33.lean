import Derived.Test.YtnmhkgmmpkjjeaaGreatK02
import Derived.Laws.Closers25b
import Derived.ChangeOld
namespace Go.Proofs.YtnmhkgmmpkjjeaaGreat
open Go.ChangeShapes Go.WideShapes Go.ChangeAt Go.RowKit
set_option linter.unusedVariables false
attribute [local go_sem ↓] Go.wp_at_zero Go.wp_at_succ
theorem Mm (l k o p:Int) (h:¬(k=1\/k=2\/k=3)) (w:World) : Calls Tryz.prog 240 #[.int .i64 l,.agg #[.int .i64 k,.int .i64 o,.int .i64 p]] w fun e w'=>e=.returned (.int .u64 0)/\Below w.heap.size w w':=by
 have a:(k==1)=false:=by simp;omega
 have b:(k==2)=false:=by simp;omega
 have c:(k==3)=false:=by simp;omega
 clear h;go_enter Tryz.func240,Tryz.ntmps240
 go_wp2
 go_ret;exact⟨rfl,(Below.refl _ _).alloc (Nat.le_refl _) _⟩
theorem Nz (x y:Int) (i:Nat) (a b:Nat) (hx:x=((a*2 ^ i:Nat):Int)) (hy:y=(b:Int)) (hb:b<2 ^ i) (h64:a*2 ^ i<18446744073709551616) (hb64:b<18446744073709551616):bits .or .u64 x y=x+y:=by
 subst hx hy;rw[bits_or_u64_nat _ _ h64 hb64,<- Nat.shiftLeft_eq,<- Nat.shiftLeft_add_eq_or_of_lt hb];simp
theorem YV (o p:Int) (a:0<=o) (b:o<65536) (c:0<=p) (d:p<=7):bits .or .u64 (o*4096) (p*4)=o*4096+p*4 :=
 Nz _ _ 12 o.toNat (p*4).toNat (by simp;omega) (by omega) (by omega) (by omega) (by omega)
theorem YQ (o p:Int) (a:0<=o) (b:o<65536) (c:0<=p) (d:p<=7):bits .or .u64 (o*4096+p*4) 3=1+p*4+o*4096+2:=by
 rw[Nz _ 3 2 (o*1024+p).toNat 3 (by simp;omega) rfl (by omega) (by omega) (by omega)];omega
theorem Yv (o p:Int) (a:0<=o) (b:o<65536) (c:0<=p) (d:p<=7):bits .or .u64 (o*4096+p*4) 1=1+p*4+o*4096:=by
 rw[Nz _ 1 2 (o*1024+p).toNat 1 (by simp;omega) rfl (by omega) (by omega) (by omega)];omega
theorem Me (l o p:Int) (hd:∀w,Calls Tryz.prog 151 #[.int .i64 l,.int .u64 (bits BinOp.or IntKind.u64 (bits BinOp.or IntKind.u64 (IntKind.u64.wrap (IntKind.u64.wrap o*4096)) (IntKind.u64.wrap (IntKind.u64.wrap p*4))) 3)] w fun e w'=>e=.returned (.agg #[.int .i64 1,.int .i64 o,.int .i64 p])/\Below w.heap.size w w') (w:World) : Calls Tryz.prog 240 #[.int .i64 l,.agg #[.int .i64 1,.int .i64 o,.int .i64 p]] w fun e w'=>e=.returned (.int .u64 (bits BinOp.or IntKind.u64 (bits BinOp.or IntKind.u64 (IntKind.u64.wrap (IntKind.u64.wrap o*4096)) (IntKind.u64.wrap (IntKind.u64.wrap p*4))) 3))/\Below w.heap.size w w':=by
 go_enter Tryz.func240,Tryz.ntmps240
 go_wp2
 go_region_held3 (fun w'=>w'.cell? ⟨w.heap.size,0,none⟩=some (.int .i64 1)/\w'.cell? ⟨w.heap.size,1,none⟩=some (.int .i64 o)/\w'.cell? ⟨w.heap.size,2,none⟩=some (.int .i64 p))
  (first|go_keep|(go_split_ands;refine⟨?_,?_,?_⟩<;>(rw[hb1.cell (by simp)];simp)))
  (first|(go_at_call 151;refine(hd _).mono ?_;rintro e w1 ⟨rfl,hb1⟩))
 go_wp2
 go_ret;exact⟨rfl,((Below.refl _ _).alloc (Nat.le_refl _) _).drew.trans (hb1.mono (by simp))⟩
theorem NZ (l o p K O P:Int) (h1:(K==1)=false) (hd:∀w,Calls Tryz.prog 151 #[.int .i64 l,.int .u64 (bits BinOp.or IntKind.u64 (bits BinOp.or IntKind.u64 (IntKind.u64.wrap (IntKind.u64.wrap o*4096)) (IntKind.u64.wrap (IntKind.u64.wrap p*4))) 3)] w fun e w'=>e=.returned (.agg #[.int .i64 K,.int .i64 O,.int .i64 P])/\Below w.heap.size w w') (w:World) : Calls Tryz.prog 240 #[.int .i64 l,.agg #[.int .i64 1,.int .i64 o,.int .i64 p]] w fun e w'=>e=.returned (.int .u64 0)/\Below w.heap.size w w':=by
 go_enter Tryz.func240,Tryz.ntmps240
 go_wp2
 go_region_held3 (fun w'=>w'.cell? ⟨w.heap.size,0,none⟩=some (.int .i64 1)/\w'.cell? ⟨w.heap.size,1,none⟩=some (.int .i64 o)/\w'.cell? ⟨w.heap.size,2,none⟩=some (.int .i64 p))
  (first|go_keep|(go_split_ands;refine⟨?_,?_,?_⟩<;>(rw[hb1.cell (by simp)];simp)))
  (first|(go_at_call 151;refine(hd _).mono ?_;rintro e w1 ⟨rfl,hb1⟩))
 go_wp2
 go_ret;exact⟨rfl,((Below.refl _ _).alloc (Nat.le_refl _) _).drew.trans (hb1.mono (by simp))⟩
theorem O0 (l o p O P:Int) (h1:(O==o)=false) (hd:∀w,Calls Tryz.prog 151 #[.int .i64 l,.int .u64 (bits BinOp.or IntKind.u64 (bits BinOp.or IntKind.u64 (IntKind.u64.wrap (IntKind.u64.wrap o*4096)) (IntKind.u64.wrap (IntKind.u64.wrap p*4))) 3)] w fun e w'=>e=.returned (.agg #[.int .i64 1,.int .i64 O,.int .i64 P])/\Below w.heap.size w w') (w:World) : Calls Tryz.prog 240 #[.int .i64 l,.agg #[.int .i64 1,.int .i64 o,.int .i64 p]] w fun e w'=>e=.returned (.int .u64 0)/\Below w.heap.size w w':=by
 go_enter Tryz.func240,Tryz.ntmps240
 go_wp2
 go_region_held3 (fun w'=>w'.cell? ⟨w.heap.size,0,none⟩=some (.int .i64 1)/\w'.cell? ⟨w.heap.size,1,none⟩=some (.int .i64 o)/\w'.cell? ⟨w.heap.size,2,none⟩=some (.int .i64 p))
  (first|go_keep|(go_split_ands;refine⟨?_,?_,?_⟩<;>(rw[hb1.cell (by simp)];simp)))
  (first|(go_at_call 151;refine(hd _).mono ?_;rintro e w1 ⟨rfl,hb1⟩))
 go_wp2
 go_ret;exact⟨rfl,((Below.refl _ _).alloc (Nat.le_refl _) _).drew.trans (hb1.mono (by simp))⟩
theorem Ns (l o p P:Int) (h1:(P==p)=false) (hd:∀w,Calls Tryz.prog 151 #[.int .i64 l,.int .u64 (bits BinOp.or IntKind.u64 (bits BinOp.or IntKind.u64 (IntKind.u64.wrap (IntKind.u64.wrap o*4096)) (IntKind.u64.wrap (IntKind.u64.wrap p*4))) 3)] w fun e w'=>e=.returned (.agg #[.int .i64 1,.int .i64 o,.int .i64 P])/\Below w.heap.size w w') (w:World) : Calls Tryz.prog 240 #[.int .i64 l,.agg #[.int .i64 1,.int .i64 o,.int .i64 p]] w fun e w'=>e=.returned (.int .u64 0)/\Below w.heap.size w w':=by
 go_enter Tryz.func240,Tryz.ntmps240
 go_wp2
 go_region_held3 (fun w'=>w'.cell? ⟨w.heap.size,0,none⟩=some (.int .i64 1)/\w'.cell? ⟨w.heap.size,1,none⟩=some (.int .i64 o)/\w'.cell? ⟨w.heap.size,2,none⟩=some (.int .i64 p))
  (first|go_keep|(go_split_ands;refine⟨?_,?_,?_⟩<;>(rw[hb1.cell (by simp)];simp)))
  (first|(go_at_call 151;refine(hd _).mono ?_;rintro e w1 ⟨rfl,hb1⟩))
 go_wp2
 go_ret;exact⟨rfl,((Below.refl _ _).alloc (Nat.le_refl _) _).drew.trans (hb1.mono (by simp))⟩
theorem Mv (l o p:Int) (hd:∀w,Calls Tryz.prog 151 #[.int .i64 l,.int .u64 (bits BinOp.or IntKind.u64 (bits BinOp.or IntKind.u64 (IntKind.u64.wrap (IntKind.u64.wrap o*4096)) (IntKind.u64.wrap (IntKind.u64.wrap p*4))) 1)] w fun e w'=>e=.returned (.agg #[.int .i64 2,.int .i64 o,.int .i64 p])/\Below w.heap.size w w') (w:World) : Calls Tryz.prog 240 #[.int .i64 l,.agg #[.int .i64 2,.int .i64 o,.int .i64 p]] w fun e w'=>e=.returned (.int .u64 (bits BinOp.or IntKind.u64 (bits BinOp.or IntKind.u64 (IntKind.u64.wrap (IntKind.u64.wrap o*4096)) (IntKind.u64.wrap (IntKind.u64.wrap p*4))) 1))/\Below w.heap.size w w':=by
 go_enter Tryz.func240,Tryz.ntmps240
 go_wp2
 go_region_held3 (fun w'=>w'.cell? ⟨w.heap.size,0,none⟩=some (.int .i64 2)/\w'.cell? ⟨w.heap.size,1,none⟩=some (.int .i64 o)/\w'.cell? ⟨w.heap.size,2,none⟩=some (.int .i64 p))
  (first|go_keep|(go_split_ands;refine⟨?_,?_,?_⟩<;>(rw[hb1.cell (by simp)];simp)))
  (first|(go_at_call 151;refine(hd _).mono ?_;rintro e w1 ⟨rfl,hb1⟩))
 go_wp2
 go_ret;exact⟨rfl,((Below.refl _ _).alloc (Nat.le_refl _) _).drew.trans (hb1.mono (by simp))⟩
theorem Nf (l o p K O P:Int) (h1:(K==2)=false) (hd:∀w,Calls Tryz.prog 151 #[.int .i64 l,.int .u64 (bits BinOp.or IntKind.u64 (bits BinOp.or IntKind.u64 (IntKind.u64.wrap (IntKind.u64.wrap o*4096)) (IntKind.u64.wrap (IntKind.u64.wrap p*4))) 1)] w fun e w'=>e=.returned (.agg #[.int .i64 K,.int .i64 O,.int .i64 P])/\Below w.heap.size w w') (w:World) : Calls Tryz.prog 240 #[.int .i64 l,.agg #[.int .i64 2,.int .i64 o,.int .i64 p]] w fun e w'=>e=.returned (.int .u64 0)/\Below w.heap.size w w':=by
 go_enter Tryz.func240,Tryz.ntmps240
 go_wp2
 go_region_held3 (fun w'=>w'.cell? ⟨w.heap.size,0,none⟩=some (.int .i64 2)/\w'.cell? ⟨w.heap.size,1,none⟩=some (.int .i64 o)/\w'.cell? ⟨w.heap.size,2,none⟩=some (.int .i64 p))
  (first|go_keep|(go_split_ands;refine⟨?_,?_,?_⟩<;>(rw[hb1.cell (by simp)];simp)))
  (first|(go_at_call 151;refine(hd _).mono ?_;rintro e w1 ⟨rfl,hb1⟩))
 go_wp2
 go_ret;exact⟨rfl,((Below.refl _ _).alloc (Nat.le_refl _) _).drew.trans (hb1.mono (by simp))⟩
theorem NC (l o p O P:Int) (h1:(O==o)=false) (hd:∀w,Calls Tryz.prog 151 #[.int .i64 l,.int .u64 (bits BinOp.or IntKind.u64 (bits BinOp.or IntKind.u64 (IntKind.u64.wrap (IntKind.u64.wrap o*4096)) (IntKind.u64.wrap (IntKind.u64.wrap p*4))) 1)] w fun e w'=>e=.returned (.agg #[.int .i64 2,.int .i64 O,.int .i64 P])/\Below w.heap.size w w') (w:World) : Calls Tryz.prog 240 #[.int .i64 l,.agg #[.int .i64 2,.int .i64 o,.int .i64 p]] w fun e w'=>e=.returned (.int .u64 0)/\Below w.heap.size w w':=by
 go_enter Tryz.func240,Tryz.ntmps240
 go_wp2
 go_region_held3 (fun w'=>w'.cell? ⟨w.heap.size,0,none⟩=some (.int .i64 2)/\w'.cell? ⟨w.heap.size,1,none⟩=some (.int .i64 o)/\w'.cell? ⟨w.heap.size,2,none⟩=some (.int .i64 p))
  (first|go_keep|(go_split_ands;refine⟨?_,?_,?_⟩<;>(rw[hb1.cell (by simp)];simp)))
  (first|(go_at_call 151;refine(hd _).mono ?_;rintro e w1 ⟨rfl,hb1⟩))
 go_wp2
 go_ret;exact⟨rfl,((Below.refl _ _).alloc (Nat.le_refl _) _).drew.trans (hb1.mono (by simp))⟩
theorem Mi (l o p P:Int) (h1:(P==p)=false) (hd:∀w,Calls Tryz.prog 151 #[.int .i64 l,.int .u64 (bits BinOp.or IntKind.u64 (bits BinOp.or IntKind.u64 (IntKind.u64.wrap (IntKind.u64.wrap o*4096)) (IntKind.u64.wrap (IntKind.u64.wrap p*4))) 1)] w fun e w'=>e=.returned (.agg #[.int .i64 2,.int .i64 o,.int .i64 P])/\Below w.heap.size w w') (w:World) : Calls Tryz.prog 240 #[.int .i64 l,.agg #[.int .i64 2,.int .i64 o,.int .i64 p]] w fun e w'=>e=.returned (.int .u64 0)/\Below w.heap.size w w':=by
 go_enter Tryz.func240,Tryz.ntmps240
 go_wp2
 go_region_held3 (fun w'=>w'.cell? ⟨w.heap.size,0,none⟩=some (.int .i64 2)/\w'.cell? ⟨w.heap.size,1,none⟩=some (.int .i64 o)/\w'.cell? ⟨w.heap.size,2,none⟩=some (.int .i64 p))
  (first|go_keep|(go_split_ands;refine⟨?_,?_,?_⟩<;>(rw[hb1.cell (by simp)];simp)))
  (first|(go_at_call 151;refine(hd _).mono ?_;rintro e w1 ⟨rfl,hb1⟩))
 go_wp2
 go_ret;exact⟨rfl,((Below.refl _ _).alloc (Nat.le_refl _) _).drew.trans (hb1.mono (by simp))⟩
theorem Nr (l o p:Int) (hd:∀w,Calls Tryz.prog 151 #[.int .i64 l,.int .u64 (bits BinOp.or IntKind.u64 (bits BinOp.or IntKind.u64 (IntKind.u64.wrap (IntKind.u64.wrap o*4096)) (IntKind.u64.wrap (IntKind.u64.wrap p*4))) 3)] w fun e w'=>e=.returned (.agg #[.int .i64 3,.int .i64 o,.int .i64 p])/\Below w.heap.size w w') (w:World) : Calls Tryz.prog 240 #[.int .i64 l,.agg #[.int .i64 3,.int .i64 o,.int .i64 p]] w fun e w'=>e=.returned (.int .u64 (bits BinOp.or IntKind.u64 (bits BinOp.or IntKind.u64 (IntKind.u64.wrap (IntKind.u64.wrap o*4096)) (IntKind.u64.wrap (IntKind.u64.wrap p*4))) 3))/\Below w.heap.size w w':=by
 go_enter Tryz.func240,Tryz.ntmps240
 go_wp2
 go_region_held3 (fun w'=>w'.cell? ⟨w.heap.size,0,none⟩=some (.int .i64 3)/\w'.cell? ⟨w.heap.size,1,none⟩=some (.int .i64 o)/\w'.cell? ⟨w.heap.size,2,none⟩=some (.int .i64 p))
  (first|go_keep|(go_split_ands;refine⟨?_,?_,?_⟩<;>(rw[hb1.cell (by simp)];simp)))
  (first|(go_at_call 151;refine(hd _).mono ?_;rintro e w1 ⟨rfl,hb1⟩))
 go_wp2
 go_ret;exact⟨rfl,((Below.refl _ _).alloc (Nat.le_refl _) _).drew.trans (hb1.mono (by simp))⟩
theorem Nv (l o p K O P:Int) (h1:(K==3)=false) (hd:∀w,Calls Tryz.prog 151 #[.int .i64 l,.int .u64 (bits BinOp.or IntKind.u64 (bits BinOp.or IntKind.u64 (IntKind.u64.wrap (IntKind.u64.wrap o*4096)) (IntKind.u64.wrap (IntKind.u64.wrap p*4))) 3)] w fun e w'=>e=.returned (.agg #[.int .i64 K,.int .i64 O,.int .i64 P])/\Below w.heap.size w w') (w:World) : Calls Tryz.prog 240 #[.int .i64 l,.agg #[.int .i64 3,.int .i64 o,.int .i64 p]] w fun e w'=>e=.returned (.int .u64 0)/\Below w.heap.size w w':=by
 go_enter Tryz.func240,Tryz.ntmps240
 go_wp2
 go_region_held3 (fun w'=>w'.cell? ⟨w.heap.size,0,none⟩=some (.int .i64 3)/\w'.cell? ⟨w.heap.size,1,none⟩=some (.int .i64 o)/\w'.cell? ⟨w.heap.size,2,none⟩=some (.int .i64 p))
  (first|go_keep|(go_split_ands;refine⟨?_,?_,?_⟩<;>(rw[hb1.cell (by simp)];simp)))
  (first|(go_at_call 151;refine(hd _).mono ?_;rintro e w1 ⟨rfl,hb1⟩))
 go_wp2
 go_ret;exact⟨rfl,((Below.refl _ _).alloc (Nat.le_refl _) _).drew.trans (hb1.mono (by simp))⟩
theorem Nc (l o p O P:Int) (h1:(O==o)=false) (hd:∀w,Calls Tryz.prog 151 #[.int .i64 l,.int .u64 (bits BinOp.or IntKind.u64 (bits BinOp.or IntKind.u64 (IntKind.u64.wrap (IntKind.u64.wrap o*4096)) (IntKind.u64.wrap (IntKind.u64.wrap p*4))) 3)] w fun e w'=>e=.returned (.agg #[.int .i64 3,.int .i64 O,.int .i64 P])/\Below w.heap.size w w') (w:World) : Calls Tryz.prog 240 #[.int .i64 l,.agg #[.int .i64 3,.int .i64 o,.int .i64 p]] w fun e w'=>e=.returned (.int .u64 0)/\Below w.heap.size w w':=by
 go_enter Tryz.func240,Tryz.ntmps240
 go_wp2
 go_region_held3 (fun w'=>w'.cell? ⟨w.heap.size,0,none⟩=some (.int .i64 3)/\w'.cell? ⟨w.heap.size,1,none⟩=some (.int .i64 o)/\w'.cell? ⟨w.heap.size,2,none⟩=some (.int .i64 p))
  (first|go_keep|(go_split_ands;refine⟨?_,?_,?_⟩<;>(rw[hb1.cell (by simp)];simp)))
  (first|(go_at_call 151;refine(hd _).mono ?_;rintro e w1 ⟨rfl,hb1⟩))
 go_wp2
 go_ret;exact⟨rfl,((Below.refl _ _).alloc (Nat.le_refl _) _).drew.trans (hb1.mono (by simp))⟩
theorem NB (l o p P:Int) (h1:(P==p)=false) (hd:∀w,Calls Tryz.prog 151 #[.int .i64 l,.int .u64 (bits BinOp.or IntKind.u64 (bits BinOp.or IntKind.u64 (IntKind.u64.wrap (IntKind.u64.wrap o*4096)) (IntKind.u64.wrap (IntKind.u64.wrap p*4))) 3)] w fun e w'=>e=.returned (.agg #[.int .i64 3,.int .i64 o,.int .i64 P])/\Below w.heap.size w w') (w:World) : Calls Tryz.prog 240 #[.int .i64 l,.agg #[.int .i64 3,.int .i64 o,.int .i64 p]] w fun e w'=>e=.returned (.int .u64 0)/\Below w.heap.size w w':=by
 go_enter Tryz.func240,Tryz.ntmps240
 go_wp2
 go_region_held3 (fun w'=>w'.cell? ⟨w.heap.size,0,none⟩=some (.int .i64 3)/\w'.cell? ⟨w.heap.size,1,none⟩=some (.int .i64 o)/\w'.cell? ⟨w.heap.size,2,none⟩=some (.int .i64 p))
  (first|go_keep|(go_split_ands;refine⟨?_,?_,?_⟩<;>(rw[hb1.cell (by simp)];simp)))
  (first|(go_at_call 151;refine(hd _).mono ?_;rintro e w1 ⟨rfl,hb1⟩))
 go_wp2
 go_ret;exact⟨rfl,((Below.refl _ _).alloc (Nat.le_refl _) _).drew.trans (hb1.mono (by simp))⟩
theorem Ke (x y:Int):0<=bits .or .u64 x y/\bits .or .u64 x y<2 ^ 64:=by
 have:=bits_lo_u64 .or x y;have:=bits_hi_u64 .or x y;omega
theorem Qn (l x:Int):0<=AQ l x/\AQ l x<65536:=by
 unfold AQ;split<;>omega
theorem On (l x:Int):0<=Ae l x/\Ae l x<=7:=by
 unfold Ae;split<;>omega
theorem K8 (x:Int) (a:0<=x) (b:x<18446744073709551616):IntKind.u64.wrap x=x:=by
 rw[IntKind.wrap_u64];omega
theorem Kw (o p:Int) (a:0<=o) (b:o<65536) (c:0<=p) (d:p<=7):bits BinOp.or IntKind.u64 (IntKind.u64.wrap (IntKind.u64.wrap o*4096)) (IntKind.u64.wrap (IntKind.u64.wrap p*4))=o*4096+p*4:=by
 rw[K8 o a (by omega),K8 p c (by omega),K8 (o*4096) (by omega) (by omega),K8 (p*4) (by omega) (by omega),YV o p a b c d]
theorem Gh (l k o p X:Int) (hk:k=1\/k=2\/k=3) (hX:0<=o->o<65536->0<=p->p<=7->X=Cf k o p) : (AF l X=k/\AQ l X=o/\Ae l X=p->X=Am l k o p)/\(¬(AF l X=k/\AQ l X=o/\Ae l X=p)->0=Am l k o p):=by
 have r1:=Qn l X;have r2:=On l X;constructor
 ·rintro⟨a,b,c⟩;have hx:=hX (by omega) (by omega) (by omega) (by omega);unfold Am Qo;rw[<- hx,if_pos ⟨hk,by omega,by omega,by omega,by omega,a,b,c⟩]
 ·intro h;unfold Am;rw[if_neg];rintro⟨_,a,b,c,d,f⟩;have hx:=hX a b c d;unfold Qo at f;rw[<- hx] at f;exact h f
theorem Dg (l k o p:Int) (w:World) : Calls Tryz.prog 240 #[.int .i64 l,.agg #[.int .i64 k,.int .i64 o,.int .i64 p]] w fun e w'=>e=.returned (.int .u64 (Am l k o p))/\Below w.heap.size w w':=by
 by_cases hk:k=1\/k=2\/k=3
 ·rcases hk with rfl|rfl|rfl
  ·have hx:0<=o->o<65536->0<=p->p<=7->(bits BinOp.or IntKind.u64 (bits BinOp.or IntKind.u64 (IntKind.u64.wrap (IntKind.u64.wrap o*4096)) (IntKind.u64.wrap (IntKind.u64.wrap p*4))) 3)=Cf 1 o p:=by
    intro a b c d;rw[Kw o p a b c d,YQ o p a b c d];simp[Cf]
   have hr:=Ke (bits BinOp.or IntKind.u64 (IntKind.u64.wrap (IntKind.u64.wrap o*4096)) (IntKind.u64.wrap (IntKind.u64.wrap p*4))) 3;have hd:=Cl l (bits BinOp.or IntKind.u64 (bits BinOp.or IntKind.u64 (IntKind.u64.wrap (IntKind.u64.wrap o*4096)) (IntKind.u64.wrap (IntKind.u64.wrap p*4))) 3) hr.1 hr.2;have hv:=Gh l 1 o p _ (by omega) hx;unfold D1 D2 at hd;by_cases a:AF l (bits BinOp.or IntKind.u64 (bits BinOp.or IntKind.u64 (IntKind.u64.wrap (IntKind.u64.wrap o*4096)) (IntKind.u64.wrap (IntKind.u64.wrap p*4))) 3)=1
   ·by_cases b:AQ l (bits BinOp.or IntKind.u64 (bits BinOp.or IntKind.u64 (IntKind.u64.wrap (IntKind.u64.wrap o*4096)) (IntKind.u64.wrap (IntKind.u64.wrap p*4))) 3)=o
    ·by_cases c:Ae l (bits BinOp.or IntKind.u64 (bits BinOp.or IntKind.u64 (IntKind.u64.wrap (IntKind.u64.wrap o*4096)) (IntKind.u64.wrap (IntKind.u64.wrap p*4))) 3)=p
     ·rw[<- hv.1 ⟨a,b,c⟩];rw[a,b,c] at hd;exact Me l o p hd w
     ·rw[<- hv.2 (fun h=>c h.2.2)];rw[a,b] at hd;exact Ns l o p _ (by simpa using c) hd w
    ·rw[<- hv.2 (fun h=>b h.2.1)];rw[a] at hd;exact O0 l o p _ _ (by simpa using b) hd w
   ·rw[<- hv.2 (fun h=>a h.1)];exact NZ l o p _ _ _ (by simpa using a) hd w
  ·have hx:0<=o->o<65536->0<=p->p<=7->(bits BinOp.or IntKind.u64 (bits BinOp.or IntKind.u64 (IntKind.u64.wrap (IntKind.u64.wrap o*4096)) (IntKind.u64.wrap (IntKind.u64.wrap p*4))) 1)=Cf 2 o p:=by
    intro a b c d;rw[Kw o p a b c d,Yv o p a b c d];simp[Cf]
   have hr:=Ke (bits BinOp.or IntKind.u64 (IntKind.u64.wrap (IntKind.u64.wrap o*4096)) (IntKind.u64.wrap (IntKind.u64.wrap p*4))) 1;have hd:=Cl l (bits BinOp.or IntKind.u64 (bits BinOp.or IntKind.u64 (IntKind.u64.wrap (IntKind.u64.wrap o*4096)) (IntKind.u64.wrap (IntKind.u64.wrap p*4))) 1) hr.1 hr.2;have hv:=Gh l 2 o p _ (by omega) hx;unfold D1 D2 at hd;by_cases a:AF l (bits BinOp.or IntKind.u64 (bits BinOp.or IntKind.u64 (IntKind.u64.wrap (IntKind.u64.wrap o*4096)) (IntKind.u64.wrap (IntKind.u64.wrap p*4))) 1)=2
   ·by_cases b:AQ l (bits BinOp.or IntKind.u64 (bits BinOp.or IntKind.u64 (IntKind.u64.wrap (IntKind.u64.wrap o*4096)) (IntKind.u64.wrap (IntKind.u64.wrap p*4))) 1)=o
    ·by_cases c:Ae l (bits BinOp.or IntKind.u64 (bits BinOp.or IntKind.u64 (IntKind.u64.wrap (IntKind.u64.wrap o*4096)) (IntKind.u64.wrap (IntKind.u64.wrap p*4))) 1)=p
     ·rw[<- hv.1 ⟨a,b,c⟩];rw[a,b,c] at hd;exact Mv l o p hd w
     ·rw[<- hv.2 (fun h=>c h.2.2)];rw[a,b] at hd;exact Mi l o p _ (by simpa using c) hd w
    ·rw[<- hv.2 (fun h=>b h.2.1)];rw[a] at hd;exact NC l o p _ _ (by simpa using b) hd w
   ·rw[<- hv.2 (fun h=>a h.1)];exact Nf l o p _ _ _ (by simpa using a) hd w
  ·have hx:0<=o->o<65536->0<=p->p<=7->(bits BinOp.or IntKind.u64 (bits BinOp.or IntKind.u64 (IntKind.u64.wrap (IntKind.u64.wrap o*4096)) (IntKind.u64.wrap (IntKind.u64.wrap p*4))) 3)=Cf 3 o p:=by
    intro a b c d;rw[Kw o p a b c d,YQ o p a b c d];simp[Cf]
   have hr:=Ke (bits BinOp.or IntKind.u64 (IntKind.u64.wrap (IntKind.u64.wrap o*4096)) (IntKind.u64.wrap (IntKind.u64.wrap p*4))) 3;have hd:=Cl l (bits BinOp.or IntKind.u64 (bits BinOp.or IntKind.u64 (IntKind.u64.wrap (IntKind.u64.wrap o*4096)) (IntKind.u64.wrap (IntKind.u64.wrap p*4))) 3) hr.1 hr.2;have hv:=Gh l 3 o p _ (by omega) hx;unfold D1 D2 at hd;by_cases a:AF l (bits BinOp.or IntKind.u64 (bits BinOp.or IntKind.u64 (IntKind.u64.wrap (IntKind.u64.wrap o*4096)) (IntKind.u64.wrap (IntKind.u64.wrap p*4))) 3)=3
   ·by_cases b:AQ l (bits BinOp.or IntKind.u64 (bits BinOp.or IntKind.u64 (IntKind.u64.wrap (IntKind.u64.wrap o*4096)) (IntKind.u64.wrap (IntKind.u64.wrap p*4))) 3)=o
    ·by_cases c:Ae l (bits BinOp.or IntKind.u64 (bits BinOp.or IntKind.u64 (IntKind.u64.wrap (IntKind.u64.wrap o*4096)) (IntKind.u64.wrap (IntKind.u64.wrap p*4))) 3)=p
     ·rw[<- hv.1 ⟨a,b,c⟩];rw[a,b,c] at hd;exact Nr l o p hd w
     ·rw[<- hv.2 (fun h=>c h.2.2)];rw[a,b] at hd;exact NB l o p _ (by simpa using c) hd w
    ·rw[<- hv.2 (fun h=>b h.2.1)];rw[a] at hd;exact Nc l o p _ _ (by simpa using b) hd w
   ·rw[<- hv.2 (fun h=>a h.1)];exact Nv l o p _ _ _ (by simpa using a) hd w
 ·have:Am l k o p=0:=by unfold Am;rw[if_neg (fun h=>hk h.1)]
  rw[this];exact Mm l k o p hk w
end Go.Proofs.YtnmhkgmmpkjjeaaGreat
