import Derived.Test.YtnmhkgmmpkjjeaaGreatL03
import Derived.Laws.Closers25b
import Derived.ChangeOld
namespace Go.Proofs.YtnmhkgmmpkjjeaaGreat
open Go.ChangeShapes Go.WideShapes Go.ChangeAt Go.RowKit
set_option linter.unusedVariables false
attribute [local go_sem ↓] Go.wp_at_zero Go.wp_at_succ
theorem MG (l k o p:Int) (h:¬(k=1\/k=2\/k=3)) (w:World) : Calls Tryz.prog 240 #[.int .i64 l,.agg #[.int .i64 k,.int .i64 o,.int .i64 p]] w fun e w'=>e=.returned (.int .u64 0)/\Below w.heap.size w w':=by
 have a:(k==1)=false:=by simp;omega
 have b:(k==2)=false:=by simp;omega
 have c:(k==3)=false:=by simp;omega
 clear h;go_enter Tryz.func240,Tryz.ntmps240
 go_wp2
 go_ret;exact⟨rfl,(Below.refl _ _).alloc (Nat.le_refl _) _⟩
theorem Mf (x y:Int) (i:Nat) (a b:Nat) (hx:x=((a*2 ^ i:Nat):Int)) (hy:y=(b:Int)) (hb:b<2 ^ i) (h64:a*2 ^ i<18446744073709551616) (hb64:b<18446744073709551616):bits .or .u64 x y=x+y:=by
 subst hx hy;rw[bits_or_u64_nat _ _ h64 hb64,<- Nat.shiftLeft_eq,<- Nat.shiftLeft_add_eq_or_of_lt hb];simp
theorem Wm (o p:Int) (a:0<=o) (b:o<65536) (c:0<=p) (d:p<=7):bits .or .u64 (o*4096) (p*4)=o*4096+p*4 :=
 Mf _ _ 12 o.toNat (p*4).toNat (by simp;omega) (by omega) (by omega) (by omega) (by omega)
theorem WR (o p:Int) (a:0<=o) (b:o<65536) (c:0<=p) (d:p<=7):bits .or .u64 (o*4096+p*4) 3=1+p*4+o*4096+2:=by
 rw[Mf _ 3 2 (o*1024+p).toNat 3 (by simp;omega) rfl (by omega) (by omega) (by omega)];omega
theorem XL (o p:Int) (a:0<=o) (b:o<65536) (c:0<=p) (d:p<=7):bits .or .u64 (o*4096+p*4) 1=1+p*4+o*4096:=by
 rw[Mf _ 1 2 (o*1024+p).toNat 1 (by simp;omega) rfl (by omega) (by omega) (by omega)];omega
theorem Me (l o p:Int) (hd:∀w,Calls Tryz.prog 151 #[.int .i64 l,.int .u64 (bits BinOp.or IntKind.u64 (bits BinOp.or IntKind.u64 (IntKind.u64.wrap (IntKind.u64.wrap o*4096)) (IntKind.u64.wrap (IntKind.u64.wrap p*4))) 3)] w fun e w'=>e=.returned (.agg #[.int .i64 1,.int .i64 o,.int .i64 p])/\Below w.heap.size w w') (w:World) : Calls Tryz.prog 240 #[.int .i64 l,.agg #[.int .i64 1,.int .i64 o,.int .i64 p]] w fun e w'=>e=.returned (.int .u64 (bits BinOp.or IntKind.u64 (bits BinOp.or IntKind.u64 (IntKind.u64.wrap (IntKind.u64.wrap o*4096)) (IntKind.u64.wrap (IntKind.u64.wrap p*4))) 3))/\Below w.heap.size w w':=by
 go_enter Tryz.func240,Tryz.ntmps240
 go_wp2
 go_region_held3 (fun w'=>w'.cell? ⟨w.heap.size,0,none⟩=some (.int .i64 1)/\w'.cell? ⟨w.heap.size,1,none⟩=some (.int .i64 o)/\w'.cell? ⟨w.heap.size,2,none⟩=some (.int .i64 p))
  (first|go_keep|(go_split_ands;refine⟨?_,?_,?_⟩<;>(rw[hb1.cell (by simp)];simp)))
  (first|(go_at_call 151;refine(hd _).mono ?_;rintro e w1 ⟨rfl,hb1⟩))
 go_wp2
 go_ret;exact⟨rfl,((Below.refl _ _).alloc (Nat.le_refl _) _).drew.trans (hb1.mono (by simp))⟩
theorem M9 (l o p K O P:Int) (h1:(K==1)=false) (hd:∀w,Calls Tryz.prog 151 #[.int .i64 l,.int .u64 (bits BinOp.or IntKind.u64 (bits BinOp.or IntKind.u64 (IntKind.u64.wrap (IntKind.u64.wrap o*4096)) (IntKind.u64.wrap (IntKind.u64.wrap p*4))) 3)] w fun e w'=>e=.returned (.agg #[.int .i64 K,.int .i64 O,.int .i64 P])/\Below w.heap.size w w') (w:World) : Calls Tryz.prog 240 #[.int .i64 l,.agg #[.int .i64 1,.int .i64 o,.int .i64 p]] w fun e w'=>e=.returned (.int .u64 0)/\Below w.heap.size w w':=by
 go_enter Tryz.func240,Tryz.ntmps240
 go_wp2
 go_region_held3 (fun w'=>w'.cell? ⟨w.heap.size,0,none⟩=some (.int .i64 1)/\w'.cell? ⟨w.heap.size,1,none⟩=some (.int .i64 o)/\w'.cell? ⟨w.heap.size,2,none⟩=some (.int .i64 p))
  (first|go_keep|(go_split_ands;refine⟨?_,?_,?_⟩<;>(rw[hb1.cell (by simp)];simp)))
  (first|(go_at_call 151;refine(hd _).mono ?_;rintro e w1 ⟨rfl,hb1⟩))
 go_wp2
 go_ret;exact⟨rfl,((Below.refl _ _).alloc (Nat.le_refl _) _).drew.trans (hb1.mono (by simp))⟩
theorem NL (l o p O P:Int) (h1:(O==o)=false) (hd:∀w,Calls Tryz.prog 151 #[.int .i64 l,.int .u64 (bits BinOp.or IntKind.u64 (bits BinOp.or IntKind.u64 (IntKind.u64.wrap (IntKind.u64.wrap o*4096)) (IntKind.u64.wrap (IntKind.u64.wrap p*4))) 3)] w fun e w'=>e=.returned (.agg #[.int .i64 1,.int .i64 O,.int .i64 P])/\Below w.heap.size w w') (w:World) : Calls Tryz.prog 240 #[.int .i64 l,.agg #[.int .i64 1,.int .i64 o,.int .i64 p]] w fun e w'=>e=.returned (.int .u64 0)/\Below w.heap.size w w':=by
 go_enter Tryz.func240,Tryz.ntmps240
 go_wp2
 go_region_held3 (fun w'=>w'.cell? ⟨w.heap.size,0,none⟩=some (.int .i64 1)/\w'.cell? ⟨w.heap.size,1,none⟩=some (.int .i64 o)/\w'.cell? ⟨w.heap.size,2,none⟩=some (.int .i64 p))
  (first|go_keep|(go_split_ands;refine⟨?_,?_,?_⟩<;>(rw[hb1.cell (by simp)];simp)))
  (first|(go_at_call 151;refine(hd _).mono ?_;rintro e w1 ⟨rfl,hb1⟩))
 go_wp2
 go_ret;exact⟨rfl,((Below.refl _ _).alloc (Nat.le_refl _) _).drew.trans (hb1.mono (by simp))⟩
theorem Mp (l o p P:Int) (h1:(P==p)=false) (hd:∀w,Calls Tryz.prog 151 #[.int .i64 l,.int .u64 (bits BinOp.or IntKind.u64 (bits BinOp.or IntKind.u64 (IntKind.u64.wrap (IntKind.u64.wrap o*4096)) (IntKind.u64.wrap (IntKind.u64.wrap p*4))) 3)] w fun e w'=>e=.returned (.agg #[.int .i64 1,.int .i64 o,.int .i64 P])/\Below w.heap.size w w') (w:World) : Calls Tryz.prog 240 #[.int .i64 l,.agg #[.int .i64 1,.int .i64 o,.int .i64 p]] w fun e w'=>e=.returned (.int .u64 0)/\Below w.heap.size w w':=by
 go_enter Tryz.func240,Tryz.ntmps240
 go_wp2
 go_region_held3 (fun w'=>w'.cell? ⟨w.heap.size,0,none⟩=some (.int .i64 1)/\w'.cell? ⟨w.heap.size,1,none⟩=some (.int .i64 o)/\w'.cell? ⟨w.heap.size,2,none⟩=some (.int .i64 p))
  (first|go_keep|(go_split_ands;refine⟨?_,?_,?_⟩<;>(rw[hb1.cell (by simp)];simp)))
  (first|(go_at_call 151;refine(hd _).mono ?_;rintro e w1 ⟨rfl,hb1⟩))
 go_wp2
 go_ret;exact⟨rfl,((Below.refl _ _).alloc (Nat.le_refl _) _).drew.trans (hb1.mono (by simp))⟩
theorem Mw (l o p:Int) (hd:∀w,Calls Tryz.prog 151 #[.int .i64 l,.int .u64 (bits BinOp.or IntKind.u64 (bits BinOp.or IntKind.u64 (IntKind.u64.wrap (IntKind.u64.wrap o*4096)) (IntKind.u64.wrap (IntKind.u64.wrap p*4))) 1)] w fun e w'=>e=.returned (.agg #[.int .i64 2,.int .i64 o,.int .i64 p])/\Below w.heap.size w w') (w:World) : Calls Tryz.prog 240 #[.int .i64 l,.agg #[.int .i64 2,.int .i64 o,.int .i64 p]] w fun e w'=>e=.returned (.int .u64 (bits BinOp.or IntKind.u64 (bits BinOp.or IntKind.u64 (IntKind.u64.wrap (IntKind.u64.wrap o*4096)) (IntKind.u64.wrap (IntKind.u64.wrap p*4))) 1))/\Below w.heap.size w w':=by
 go_enter Tryz.func240,Tryz.ntmps240
 go_wp2
 go_region_held3 (fun w'=>w'.cell? ⟨w.heap.size,0,none⟩=some (.int .i64 2)/\w'.cell? ⟨w.heap.size,1,none⟩=some (.int .i64 o)/\w'.cell? ⟨w.heap.size,2,none⟩=some (.int .i64 p))
  (first|go_keep|(go_split_ands;refine⟨?_,?_,?_⟩<;>(rw[hb1.cell (by simp)];simp)))
  (first|(go_at_call 151;refine(hd _).mono ?_;rintro e w1 ⟨rfl,hb1⟩))
 go_wp2
 go_ret;exact⟨rfl,((Below.refl _ _).alloc (Nat.le_refl _) _).drew.trans (hb1.mono (by simp))⟩
theorem ND (l o p K O P:Int) (h1:(K==2)=false) (hd:∀w,Calls Tryz.prog 151 #[.int .i64 l,.int .u64 (bits BinOp.or IntKind.u64 (bits BinOp.or IntKind.u64 (IntKind.u64.wrap (IntKind.u64.wrap o*4096)) (IntKind.u64.wrap (IntKind.u64.wrap p*4))) 1)] w fun e w'=>e=.returned (.agg #[.int .i64 K,.int .i64 O,.int .i64 P])/\Below w.heap.size w w') (w:World) : Calls Tryz.prog 240 #[.int .i64 l,.agg #[.int .i64 2,.int .i64 o,.int .i64 p]] w fun e w'=>e=.returned (.int .u64 0)/\Below w.heap.size w w':=by
 go_enter Tryz.func240,Tryz.ntmps240
 go_wp2
 go_region_held3 (fun w'=>w'.cell? ⟨w.heap.size,0,none⟩=some (.int .i64 2)/\w'.cell? ⟨w.heap.size,1,none⟩=some (.int .i64 o)/\w'.cell? ⟨w.heap.size,2,none⟩=some (.int .i64 p))
  (first|go_keep|(go_split_ands;refine⟨?_,?_,?_⟩<;>(rw[hb1.cell (by simp)];simp)))
  (first|(go_at_call 151;refine(hd _).mono ?_;rintro e w1 ⟨rfl,hb1⟩))
 go_wp2
 go_ret;exact⟨rfl,((Below.refl _ _).alloc (Nat.le_refl _) _).drew.trans (hb1.mono (by simp))⟩
theorem MM (l o p O P:Int) (h1:(O==o)=false) (hd:∀w,Calls Tryz.prog 151 #[.int .i64 l,.int .u64 (bits BinOp.or IntKind.u64 (bits BinOp.or IntKind.u64 (IntKind.u64.wrap (IntKind.u64.wrap o*4096)) (IntKind.u64.wrap (IntKind.u64.wrap p*4))) 1)] w fun e w'=>e=.returned (.agg #[.int .i64 2,.int .i64 O,.int .i64 P])/\Below w.heap.size w w') (w:World) : Calls Tryz.prog 240 #[.int .i64 l,.agg #[.int .i64 2,.int .i64 o,.int .i64 p]] w fun e w'=>e=.returned (.int .u64 0)/\Below w.heap.size w w':=by
 go_enter Tryz.func240,Tryz.ntmps240
 go_wp2
 go_region_held3 (fun w'=>w'.cell? ⟨w.heap.size,0,none⟩=some (.int .i64 2)/\w'.cell? ⟨w.heap.size,1,none⟩=some (.int .i64 o)/\w'.cell? ⟨w.heap.size,2,none⟩=some (.int .i64 p))
  (first|go_keep|(go_split_ands;refine⟨?_,?_,?_⟩<;>(rw[hb1.cell (by simp)];simp)))
  (first|(go_at_call 151;refine(hd _).mono ?_;rintro e w1 ⟨rfl,hb1⟩))
 go_wp2
 go_ret;exact⟨rfl,((Below.refl _ _).alloc (Nat.le_refl _) _).drew.trans (hb1.mono (by simp))⟩
theorem N6 (l o p P:Int) (h1:(P==p)=false) (hd:∀w,Calls Tryz.prog 151 #[.int .i64 l,.int .u64 (bits BinOp.or IntKind.u64 (bits BinOp.or IntKind.u64 (IntKind.u64.wrap (IntKind.u64.wrap o*4096)) (IntKind.u64.wrap (IntKind.u64.wrap p*4))) 1)] w fun e w'=>e=.returned (.agg #[.int .i64 2,.int .i64 o,.int .i64 P])/\Below w.heap.size w w') (w:World) : Calls Tryz.prog 240 #[.int .i64 l,.agg #[.int .i64 2,.int .i64 o,.int .i64 p]] w fun e w'=>e=.returned (.int .u64 0)/\Below w.heap.size w w':=by
 go_enter Tryz.func240,Tryz.ntmps240
 go_wp2
 go_region_held3 (fun w'=>w'.cell? ⟨w.heap.size,0,none⟩=some (.int .i64 2)/\w'.cell? ⟨w.heap.size,1,none⟩=some (.int .i64 o)/\w'.cell? ⟨w.heap.size,2,none⟩=some (.int .i64 p))
  (first|go_keep|(go_split_ands;refine⟨?_,?_,?_⟩<;>(rw[hb1.cell (by simp)];simp)))
  (first|(go_at_call 151;refine(hd _).mono ?_;rintro e w1 ⟨rfl,hb1⟩))
 go_wp2
 go_ret;exact⟨rfl,((Below.refl _ _).alloc (Nat.le_refl _) _).drew.trans (hb1.mono (by simp))⟩
theorem Mi (l o p:Int) (hd:∀w,Calls Tryz.prog 151 #[.int .i64 l,.int .u64 (bits BinOp.or IntKind.u64 (bits BinOp.or IntKind.u64 (IntKind.u64.wrap (IntKind.u64.wrap o*4096)) (IntKind.u64.wrap (IntKind.u64.wrap p*4))) 3)] w fun e w'=>e=.returned (.agg #[.int .i64 3,.int .i64 o,.int .i64 p])/\Below w.heap.size w w') (w:World) : Calls Tryz.prog 240 #[.int .i64 l,.agg #[.int .i64 3,.int .i64 o,.int .i64 p]] w fun e w'=>e=.returned (.int .u64 (bits BinOp.or IntKind.u64 (bits BinOp.or IntKind.u64 (IntKind.u64.wrap (IntKind.u64.wrap o*4096)) (IntKind.u64.wrap (IntKind.u64.wrap p*4))) 3))/\Below w.heap.size w w':=by
 go_enter Tryz.func240,Tryz.ntmps240
 go_wp2
 go_region_held3 (fun w'=>w'.cell? ⟨w.heap.size,0,none⟩=some (.int .i64 3)/\w'.cell? ⟨w.heap.size,1,none⟩=some (.int .i64 o)/\w'.cell? ⟨w.heap.size,2,none⟩=some (.int .i64 p))
  (first|go_keep|(go_split_ands;refine⟨?_,?_,?_⟩<;>(rw[hb1.cell (by simp)];simp)))
  (first|(go_at_call 151;refine(hd _).mono ?_;rintro e w1 ⟨rfl,hb1⟩))
 go_wp2
 go_ret;exact⟨rfl,((Below.refl _ _).alloc (Nat.le_refl _) _).drew.trans (hb1.mono (by simp))⟩
theorem MV (l o p K O P:Int) (h1:(K==3)=false) (hd:∀w,Calls Tryz.prog 151 #[.int .i64 l,.int .u64 (bits BinOp.or IntKind.u64 (bits BinOp.or IntKind.u64 (IntKind.u64.wrap (IntKind.u64.wrap o*4096)) (IntKind.u64.wrap (IntKind.u64.wrap p*4))) 3)] w fun e w'=>e=.returned (.agg #[.int .i64 K,.int .i64 O,.int .i64 P])/\Below w.heap.size w w') (w:World) : Calls Tryz.prog 240 #[.int .i64 l,.agg #[.int .i64 3,.int .i64 o,.int .i64 p]] w fun e w'=>e=.returned (.int .u64 0)/\Below w.heap.size w w':=by
 go_enter Tryz.func240,Tryz.ntmps240
 go_wp2
 go_region_held3 (fun w'=>w'.cell? ⟨w.heap.size,0,none⟩=some (.int .i64 3)/\w'.cell? ⟨w.heap.size,1,none⟩=some (.int .i64 o)/\w'.cell? ⟨w.heap.size,2,none⟩=some (.int .i64 p))
  (first|go_keep|(go_split_ands;refine⟨?_,?_,?_⟩<;>(rw[hb1.cell (by simp)];simp)))
  (first|(go_at_call 151;refine(hd _).mono ?_;rintro e w1 ⟨rfl,hb1⟩))
 go_wp2
 go_ret;exact⟨rfl,((Below.refl _ _).alloc (Nat.le_refl _) _).drew.trans (hb1.mono (by simp))⟩
theorem MC (l o p O P:Int) (h1:(O==o)=false) (hd:∀w,Calls Tryz.prog 151 #[.int .i64 l,.int .u64 (bits BinOp.or IntKind.u64 (bits BinOp.or IntKind.u64 (IntKind.u64.wrap (IntKind.u64.wrap o*4096)) (IntKind.u64.wrap (IntKind.u64.wrap p*4))) 3)] w fun e w'=>e=.returned (.agg #[.int .i64 3,.int .i64 O,.int .i64 P])/\Below w.heap.size w w') (w:World) : Calls Tryz.prog 240 #[.int .i64 l,.agg #[.int .i64 3,.int .i64 o,.int .i64 p]] w fun e w'=>e=.returned (.int .u64 0)/\Below w.heap.size w w':=by
 go_enter Tryz.func240,Tryz.ntmps240
 go_wp2
 go_region_held3 (fun w'=>w'.cell? ⟨w.heap.size,0,none⟩=some (.int .i64 3)/\w'.cell? ⟨w.heap.size,1,none⟩=some (.int .i64 o)/\w'.cell? ⟨w.heap.size,2,none⟩=some (.int .i64 p))
  (first|go_keep|(go_split_ands;refine⟨?_,?_,?_⟩<;>(rw[hb1.cell (by simp)];simp)))
  (first|(go_at_call 151;refine(hd _).mono ?_;rintro e w1 ⟨rfl,hb1⟩))
 go_wp2
 go_ret;exact⟨rfl,((Below.refl _ _).alloc (Nat.le_refl _) _).drew.trans (hb1.mono (by simp))⟩
theorem NF (l o p P:Int) (h1:(P==p)=false) (hd:∀w,Calls Tryz.prog 151 #[.int .i64 l,.int .u64 (bits BinOp.or IntKind.u64 (bits BinOp.or IntKind.u64 (IntKind.u64.wrap (IntKind.u64.wrap o*4096)) (IntKind.u64.wrap (IntKind.u64.wrap p*4))) 3)] w fun e w'=>e=.returned (.agg #[.int .i64 3,.int .i64 o,.int .i64 P])/\Below w.heap.size w w') (w:World) : Calls Tryz.prog 240 #[.int .i64 l,.agg #[.int .i64 3,.int .i64 o,.int .i64 p]] w fun e w'=>e=.returned (.int .u64 0)/\Below w.heap.size w w':=by
 go_enter Tryz.func240,Tryz.ntmps240
 go_wp2
 go_region_held3 (fun w'=>w'.cell? ⟨w.heap.size,0,none⟩=some (.int .i64 3)/\w'.cell? ⟨w.heap.size,1,none⟩=some (.int .i64 o)/\w'.cell? ⟨w.heap.size,2,none⟩=some (.int .i64 p))
  (first|go_keep|(go_split_ands;refine⟨?_,?_,?_⟩<;>(rw[hb1.cell (by simp)];simp)))
  (first|(go_at_call 151;refine(hd _).mono ?_;rintro e w1 ⟨rfl,hb1⟩))
 go_wp2
 go_ret;exact⟨rfl,((Below.refl _ _).alloc (Nat.le_refl _) _).drew.trans (hb1.mono (by simp))⟩
theorem Jh (x y:Int):0<=bits .or .u64 x y/\bits .or .u64 x y<2 ^ 64:=by
 have:=bits_lo_u64 .or x y;have:=bits_hi_u64 .or x y;omega
theorem PZ (l x:Int):0<=AV l x/\AV l x<65536:=by
 unfold AV;split<;>omega
theorem O6 (l x:Int):0<=B6 l x/\B6 l x<=7:=by
 unfold B6;split<;>omega
theorem JV (x:Int) (a:0<=x) (b:x<18446744073709551616):IntKind.u64.wrap x=x:=by
 rw[IntKind.wrap_u64];omega
theorem Jv (o p:Int) (a:0<=o) (b:o<65536) (c:0<=p) (d:p<=7):bits BinOp.or IntKind.u64 (IntKind.u64.wrap (IntKind.u64.wrap o*4096)) (IntKind.u64.wrap (IntKind.u64.wrap p*4))=o*4096+p*4:=by
 rw[JV o a (by omega),JV p c (by omega),JV (o*4096) (by omega) (by omega),JV (p*4) (by omega) (by omega),Wm o p a b c d]
theorem GF (l k o p X:Int) (hk:k=1\/k=2\/k=3) (hX:0<=o->o<65536->0<=p->p<=7->X=D0 k o p) : (AJ l X=k/\AV l X=o/\B6 l X=p->X=BZ l k o p)/\(¬(AJ l X=k/\AV l X=o/\B6 l X=p)->0=BZ l k o p):=by
 have r1:=PZ l X;have r2:=O6 l X;constructor
 ·rintro⟨a,b,c⟩;have hx:=hX (by omega) (by omega) (by omega) (by omega);unfold BZ S4;rw[<- hx,if_pos ⟨hk,by omega,by omega,by omega,by omega,a,b,c⟩]
 ·intro h;unfold BZ;rw[if_neg];rintro⟨_,a,b,c,d,f⟩;have hx:=hX a b c d;unfold S4 at f;rw[<- hx] at f;exact h f
theorem DV (l k o p:Int) (w:World) : Calls Tryz.prog 240 #[.int .i64 l,.agg #[.int .i64 k,.int .i64 o,.int .i64 p]] w fun e w'=>e=.returned (.int .u64 (BZ l k o p))/\Below w.heap.size w w':=by
 by_cases hk:k=1\/k=2\/k=3
 ·rcases hk with rfl|rfl|rfl
  ·have hx:0<=o->o<65536->0<=p->p<=7->(bits BinOp.or IntKind.u64 (bits BinOp.or IntKind.u64 (IntKind.u64.wrap (IntKind.u64.wrap o*4096)) (IntKind.u64.wrap (IntKind.u64.wrap p*4))) 3)=D0 1 o p:=by
    intro a b c d;rw[Jv o p a b c d,WR o p a b c d];simp[D0]
   have hr:=Jh (bits BinOp.or IntKind.u64 (IntKind.u64.wrap (IntKind.u64.wrap o*4096)) (IntKind.u64.wrap (IntKind.u64.wrap p*4))) 3;have hd:=Cb l (bits BinOp.or IntKind.u64 (bits BinOp.or IntKind.u64 (IntKind.u64.wrap (IntKind.u64.wrap o*4096)) (IntKind.u64.wrap (IntKind.u64.wrap p*4))) 3) hr.1 hr.2;have hv:=GF l 1 o p _ (by omega) hx;unfold Cj Ck at hd;by_cases a:AJ l (bits BinOp.or IntKind.u64 (bits BinOp.or IntKind.u64 (IntKind.u64.wrap (IntKind.u64.wrap o*4096)) (IntKind.u64.wrap (IntKind.u64.wrap p*4))) 3)=1
   ·by_cases b:AV l (bits BinOp.or IntKind.u64 (bits BinOp.or IntKind.u64 (IntKind.u64.wrap (IntKind.u64.wrap o*4096)) (IntKind.u64.wrap (IntKind.u64.wrap p*4))) 3)=o
    ·by_cases c:B6 l (bits BinOp.or IntKind.u64 (bits BinOp.or IntKind.u64 (IntKind.u64.wrap (IntKind.u64.wrap o*4096)) (IntKind.u64.wrap (IntKind.u64.wrap p*4))) 3)=p
     ·rw[<- hv.1 ⟨a,b,c⟩];rw[a,b,c] at hd;exact Me l o p hd w
     ·rw[<- hv.2 (fun h=>c h.2.2)];rw[a,b] at hd;exact Mp l o p _ (by simpa using c) hd w
    ·rw[<- hv.2 (fun h=>b h.2.1)];rw[a] at hd;exact NL l o p _ _ (by simpa using b) hd w
   ·rw[<- hv.2 (fun h=>a h.1)];exact M9 l o p _ _ _ (by simpa using a) hd w
  ·have hx:0<=o->o<65536->0<=p->p<=7->(bits BinOp.or IntKind.u64 (bits BinOp.or IntKind.u64 (IntKind.u64.wrap (IntKind.u64.wrap o*4096)) (IntKind.u64.wrap (IntKind.u64.wrap p*4))) 1)=D0 2 o p:=by
    intro a b c d;rw[Jv o p a b c d,XL o p a b c d];simp[D0]
   have hr:=Jh (bits BinOp.or IntKind.u64 (IntKind.u64.wrap (IntKind.u64.wrap o*4096)) (IntKind.u64.wrap (IntKind.u64.wrap p*4))) 1;have hd:=Cb l (bits BinOp.or IntKind.u64 (bits BinOp.or IntKind.u64 (IntKind.u64.wrap (IntKind.u64.wrap o*4096)) (IntKind.u64.wrap (IntKind.u64.wrap p*4))) 1) hr.1 hr.2;have hv:=GF l 2 o p _ (by omega) hx;unfold Cj Ck at hd;by_cases a:AJ l (bits BinOp.or IntKind.u64 (bits BinOp.or IntKind.u64 (IntKind.u64.wrap (IntKind.u64.wrap o*4096)) (IntKind.u64.wrap (IntKind.u64.wrap p*4))) 1)=2
   ·by_cases b:AV l (bits BinOp.or IntKind.u64 (bits BinOp.or IntKind.u64 (IntKind.u64.wrap (IntKind.u64.wrap o*4096)) (IntKind.u64.wrap (IntKind.u64.wrap p*4))) 1)=o
    ·by_cases c:B6 l (bits BinOp.or IntKind.u64 (bits BinOp.or IntKind.u64 (IntKind.u64.wrap (IntKind.u64.wrap o*4096)) (IntKind.u64.wrap (IntKind.u64.wrap p*4))) 1)=p
     ·rw[<- hv.1 ⟨a,b,c⟩];rw[a,b,c] at hd;exact Mw l o p hd w
     ·rw[<- hv.2 (fun h=>c h.2.2)];rw[a,b] at hd;exact N6 l o p _ (by simpa using c) hd w
    ·rw[<- hv.2 (fun h=>b h.2.1)];rw[a] at hd;exact MM l o p _ _ (by simpa using b) hd w
   ·rw[<- hv.2 (fun h=>a h.1)];exact ND l o p _ _ _ (by simpa using a) hd w
  ·have hx:0<=o->o<65536->0<=p->p<=7->(bits BinOp.or IntKind.u64 (bits BinOp.or IntKind.u64 (IntKind.u64.wrap (IntKind.u64.wrap o*4096)) (IntKind.u64.wrap (IntKind.u64.wrap p*4))) 3)=D0 3 o p:=by
    intro a b c d;rw[Jv o p a b c d,WR o p a b c d];simp[D0]
   have hr:=Jh (bits BinOp.or IntKind.u64 (IntKind.u64.wrap (IntKind.u64.wrap o*4096)) (IntKind.u64.wrap (IntKind.u64.wrap p*4))) 3;have hd:=Cb l (bits BinOp.or IntKind.u64 (bits BinOp.or IntKind.u64 (IntKind.u64.wrap (IntKind.u64.wrap o*4096)) (IntKind.u64.wrap (IntKind.u64.wrap p*4))) 3) hr.1 hr.2;have hv:=GF l 3 o p _ (by omega) hx;unfold Cj Ck at hd;by_cases a:AJ l (bits BinOp.or IntKind.u64 (bits BinOp.or IntKind.u64 (IntKind.u64.wrap (IntKind.u64.wrap o*4096)) (IntKind.u64.wrap (IntKind.u64.wrap p*4))) 3)=3
   ·by_cases b:AV l (bits BinOp.or IntKind.u64 (bits BinOp.or IntKind.u64 (IntKind.u64.wrap (IntKind.u64.wrap o*4096)) (IntKind.u64.wrap (IntKind.u64.wrap p*4))) 3)=o
    ·by_cases c:B6 l (bits BinOp.or IntKind.u64 (bits BinOp.or IntKind.u64 (IntKind.u64.wrap (IntKind.u64.wrap o*4096)) (IntKind.u64.wrap (IntKind.u64.wrap p*4))) 3)=p
     ·rw[<- hv.1 ⟨a,b,c⟩];rw[a,b,c] at hd;exact Mi l o p hd w
     ·rw[<- hv.2 (fun h=>c h.2.2)];rw[a,b] at hd;exact NF l o p _ (by simpa using c) hd w
    ·rw[<- hv.2 (fun h=>b h.2.1)];rw[a] at hd;exact MC l o p _ _ (by simpa using b) hd w
   ·rw[<- hv.2 (fun h=>a h.1)];exact MV l o p _ _ _ (by simpa using a) hd w
 ·have:BZ l k o p=0:=by unfold BZ;rw[if_neg (fun h=>hk h.1)]
  rw[this];exact MG l k o p hk w
end Go.Proofs.YtnmhkgmmpkjjeaaGreat
