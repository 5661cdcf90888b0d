import Derived.Test.YtnmhkgmmpkjjeaaGreatM14
import Derived.Laws.Closers25b
import Derived.ChangeOld
namespace Go.Proofs.YtnmhkgmmpkjjeaaGreat
open ChangeShapes WideShapes ChangeAt RowKit Proofs.Tryz
set_option linter.all false
set_option maxRecDepth 100000
attribute [local go_sem ↓] wp_at_zero wp_at_succ
theorem OW(l k o p:Int)(h:¬(k=1\/k=2\/k=3))(w:World):Calls prog 240 #[.int .i64 l,.agg #[.int .i64 k,.int .i64 o,.int .i64 p]] w fun e w'=>e=.returned (.int .u64 0)/\Bl w w':=by
 have a:(k==1)=false:=by simp;omega
 have b:(k==2)=false:=by simp;omega
 have c:(k==3)=false:=by simp;omega
 clear h;go_enter func240,ntmps240
 go_wp2
 go_ret;exact⟨rfl,AO⟩
theorem ND(x y:Int)(i:Nat)(a b:Nat)(hx:x=((a*2 ^ i:Nat):Int))(hy:y=(b:Int))(hb:b<2 ^ i)(h64:a*2 ^ i<18446744073709551616)(hb64:b<18446744073709551616):bits .or .u64 x y=x+y:=by
 subst hx hy;rw[bits_or_u64_nat _ _ h64 hb64,<- Nat.shiftLeft_eq,<- Nat.shiftLeft_add_eq_or_of_lt hb];simp
theorem Zw(o p:Int)(a:0<=o)(b:o<65536)(c:0<=p)(d:p<=7):bits .or .u64 (o*4096) (p*4)=o*4096+p*4 :=
 ND _ _ 12 o.toNat (p*4).toNat (by simp;omega) (by omega) (by omega) (by omega) (by omega)
theorem Zy(o p:Int)(a:0<=o)(b:o<65536)(c:0<=p)(d:p<=7):bits .or .u64 (o*4096+p*4) 3=1+p*4+o*4096+2:=by
 rw[ND _ 3 2 (o*1024+p).toNat 3 (by simp;omega) rfl (by omega) (by omega) (by omega)];omega
theorem aI(o p:Int)(a:0<=o)(b:o<65536)(c:0<=p)(d:p<=7):bits .or .u64 (o*4096+p*4) 1=1+p*4+o*4096:=by
 rw[ND _ 1 2 (o*1024+p).toNat 1 (by simp;omega) rfl (by omega) (by omega) (by omega)];omega
theorem No(l o p:Int)(hd:∀w,Calls prog 151 #[.int .i64 l,.int .u64 (bits BinOp.or IntKind.u64 (bits BinOp.or IntKind.u64 (IntKind.u64.wrap (IntKind.u64.wrap o*4096)) (IntKind.u64.wrap (IntKind.u64.wrap p*4))) 3)] w fun e w'=>e=.returned (.agg #[.int .i64 1,.int .i64 o,.int .i64 p])/\Bl w w')(w:World):Calls prog 240 #[.int .i64 l,.agg #[.int .i64 1,.int .i64 o,.int .i64 p]] w fun e w'=>e=.returned (.int .u64 (bits BinOp.or IntKind.u64 (bits BinOp.or IntKind.u64 (IntKind.u64.wrap (IntKind.u64.wrap o*4096)) (IntKind.u64.wrap (IntKind.u64.wrap p*4))) 3))/\Bl w w':=by
 go_enter func240,ntmps240
 go_wp2
 go_region_held3 (fun w'=>w'.cell? ⟨w.heap.size,0,none⟩=some (.int .i64 1)/\w'.cell? ⟨w.heap.size,1,none⟩=some (.int .i64 o)/\w'.cell? ⟨w.heap.size,2,none⟩=some (.int .i64 p))
  (first|go_keep|(go_split_ands;refine⟨?_,?_,?_⟩<;>(rw[hb1.cell (by simp)];simp)))
  (first|(go_at_call 151;refine(hd _).mono ?_;rintro e w1 ⟨rfl,hb1⟩))
 go_wp2
 go_ret;exact⟨rfl,AO.drew.trans (hb1.mono (by simp))⟩
theorem Oi(l o p K O P:Int)(h1:(K==1)=false)(hd:∀w,Calls prog 151 #[.int .i64 l,.int .u64 (bits BinOp.or IntKind.u64 (bits BinOp.or IntKind.u64 (IntKind.u64.wrap (IntKind.u64.wrap o*4096)) (IntKind.u64.wrap (IntKind.u64.wrap p*4))) 3)] w fun e w'=>e=.returned (.agg #[.int .i64 K,.int .i64 O,.int .i64 P])/\Bl w w')(w:World):Calls prog 240 #[.int .i64 l,.agg #[.int .i64 1,.int .i64 o,.int .i64 p]] w fun e w'=>e=.returned (.int .u64 0)/\Bl w w':=by
 go_enter func240,ntmps240
 go_wp2
 go_region_held3 (fun w'=>w'.cell? ⟨w.heap.size,0,none⟩=some (.int .i64 1)/\w'.cell? ⟨w.heap.size,1,none⟩=some (.int .i64 o)/\w'.cell? ⟨w.heap.size,2,none⟩=some (.int .i64 p))
  (first|go_keep|(go_split_ands;refine⟨?_,?_,?_⟩<;>(rw[hb1.cell (by simp)];simp)))
  (first|(go_at_call 151;refine(hd _).mono ?_;rintro e w1 ⟨rfl,hb1⟩))
 go_wp2
 go_ret;exact⟨rfl,AO.drew.trans (hb1.mono (by simp))⟩
theorem O7(l o p O P:Int)(h1:(O==o)=false)(hd:∀w,Calls prog 151 #[.int .i64 l,.int .u64 (bits BinOp.or IntKind.u64 (bits BinOp.or IntKind.u64 (IntKind.u64.wrap (IntKind.u64.wrap o*4096)) (IntKind.u64.wrap (IntKind.u64.wrap p*4))) 3)] w fun e w'=>e=.returned (.agg #[.int .i64 1,.int .i64 O,.int .i64 P])/\Bl w w')(w:World):Calls prog 240 #[.int .i64 l,.agg #[.int .i64 1,.int .i64 o,.int .i64 p]] w fun e w'=>e=.returned (.int .u64 0)/\Bl w w':=by
 go_enter func240,ntmps240
 go_wp2
 go_region_held3 (fun w'=>w'.cell? ⟨w.heap.size,0,none⟩=some (.int .i64 1)/\w'.cell? ⟨w.heap.size,1,none⟩=some (.int .i64 o)/\w'.cell? ⟨w.heap.size,2,none⟩=some (.int .i64 p))
  (first|go_keep|(go_split_ands;refine⟨?_,?_,?_⟩<;>(rw[hb1.cell (by simp)];simp)))
  (first|(go_at_call 151;refine(hd _).mono ?_;rintro e w1 ⟨rfl,hb1⟩))
 go_wp2
 go_ret;exact⟨rfl,AO.drew.trans (hb1.mono (by simp))⟩
theorem OG(l o p P:Int)(h1:(P==p)=false)(hd:∀w,Calls prog 151 #[.int .i64 l,.int .u64 (bits BinOp.or IntKind.u64 (bits BinOp.or IntKind.u64 (IntKind.u64.wrap (IntKind.u64.wrap o*4096)) (IntKind.u64.wrap (IntKind.u64.wrap p*4))) 3)] w fun e w'=>e=.returned (.agg #[.int .i64 1,.int .i64 o,.int .i64 P])/\Bl w w')(w:World):Calls prog 240 #[.int .i64 l,.agg #[.int .i64 1,.int .i64 o,.int .i64 p]] w fun e w'=>e=.returned (.int .u64 0)/\Bl w w':=by
 go_enter func240,ntmps240
 go_wp2
 go_region_held3 (fun w'=>w'.cell? ⟨w.heap.size,0,none⟩=some (.int .i64 1)/\w'.cell? ⟨w.heap.size,1,none⟩=some (.int .i64 o)/\w'.cell? ⟨w.heap.size,2,none⟩=some (.int .i64 p))
  (first|go_keep|(go_split_ands;refine⟨?_,?_,?_⟩<;>(rw[hb1.cell (by simp)];simp)))
  (first|(go_at_call 151;refine(hd _).mono ?_;rintro e w1 ⟨rfl,hb1⟩))
 go_wp2
 go_ret;exact⟨rfl,AO.drew.trans (hb1.mono (by simp))⟩
theorem NG(l o p:Int)(hd:∀w,Calls prog 151 #[.int .i64 l,.int .u64 (bits BinOp.or IntKind.u64 (bits BinOp.or IntKind.u64 (IntKind.u64.wrap (IntKind.u64.wrap o*4096)) (IntKind.u64.wrap (IntKind.u64.wrap p*4))) 1)] w fun e w'=>e=.returned (.agg #[.int .i64 2,.int .i64 o,.int .i64 p])/\Bl w w')(w:World):Calls prog 240 #[.int .i64 l,.agg #[.int .i64 2,.int .i64 o,.int .i64 p]] w fun e w'=>e=.returned (.int .u64 (bits BinOp.or IntKind.u64 (bits BinOp.or IntKind.u64 (IntKind.u64.wrap (IntKind.u64.wrap o*4096)) (IntKind.u64.wrap (IntKind.u64.wrap p*4))) 1))/\Bl w w':=by
 go_enter func240,ntmps240
 go_wp2
 go_region_held3 (fun w'=>w'.cell? ⟨w.heap.size,0,none⟩=some (.int .i64 2)/\w'.cell? ⟨w.heap.size,1,none⟩=some (.int .i64 o)/\w'.cell? ⟨w.heap.size,2,none⟩=some (.int .i64 p))
  (first|go_keep|(go_split_ands;refine⟨?_,?_,?_⟩<;>(rw[hb1.cell (by simp)];simp)))
  (first|(go_at_call 151;refine(hd _).mono ?_;rintro e w1 ⟨rfl,hb1⟩))
 go_wp2
 go_ret;exact⟨rfl,AO.drew.trans (hb1.mono (by simp))⟩
theorem Nt(l o p K O P:Int)(h1:(K==2)=false)(hd:∀w,Calls prog 151 #[.int .i64 l,.int .u64 (bits BinOp.or IntKind.u64 (bits BinOp.or IntKind.u64 (IntKind.u64.wrap (IntKind.u64.wrap o*4096)) (IntKind.u64.wrap (IntKind.u64.wrap p*4))) 1)] w fun e w'=>e=.returned (.agg #[.int .i64 K,.int .i64 O,.int .i64 P])/\Bl w w')(w:World):Calls prog 240 #[.int .i64 l,.agg #[.int .i64 2,.int .i64 o,.int .i64 p]] w fun e w'=>e=.returned (.int .u64 0)/\Bl w w':=by
 go_enter func240,ntmps240
 go_wp2
 go_region_held3 (fun w'=>w'.cell? ⟨w.heap.size,0,none⟩=some (.int .i64 2)/\w'.cell? ⟨w.heap.size,1,none⟩=some (.int .i64 o)/\w'.cell? ⟨w.heap.size,2,none⟩=some (.int .i64 p))
  (first|go_keep|(go_split_ands;refine⟨?_,?_,?_⟩<;>(rw[hb1.cell (by simp)];simp)))
  (first|(go_at_call 151;refine(hd _).mono ?_;rintro e w1 ⟨rfl,hb1⟩))
 go_wp2
 go_ret;exact⟨rfl,AO.drew.trans (hb1.mono (by simp))⟩
theorem OI(l o p O P:Int)(h1:(O==o)=false)(hd:∀w,Calls prog 151 #[.int .i64 l,.int .u64 (bits BinOp.or IntKind.u64 (bits BinOp.or IntKind.u64 (IntKind.u64.wrap (IntKind.u64.wrap o*4096)) (IntKind.u64.wrap (IntKind.u64.wrap p*4))) 1)] w fun e w'=>e=.returned (.agg #[.int .i64 2,.int .i64 O,.int .i64 P])/\Bl w w')(w:World):Calls prog 240 #[.int .i64 l,.agg #[.int .i64 2,.int .i64 o,.int .i64 p]] w fun e w'=>e=.returned (.int .u64 0)/\Bl w w':=by
 go_enter func240,ntmps240
 go_wp2
 go_region_held3 (fun w'=>w'.cell? ⟨w.heap.size,0,none⟩=some (.int .i64 2)/\w'.cell? ⟨w.heap.size,1,none⟩=some (.int .i64 o)/\w'.cell? ⟨w.heap.size,2,none⟩=some (.int .i64 p))
  (first|go_keep|(go_split_ands;refine⟨?_,?_,?_⟩<;>(rw[hb1.cell (by simp)];simp)))
  (first|(go_at_call 151;refine(hd _).mono ?_;rintro e w1 ⟨rfl,hb1⟩))
 go_wp2
 go_ret;exact⟨rfl,AO.drew.trans (hb1.mono (by simp))⟩
theorem O0(l o p P:Int)(h1:(P==p)=false)(hd:∀w,Calls prog 151 #[.int .i64 l,.int .u64 (bits BinOp.or IntKind.u64 (bits BinOp.or IntKind.u64 (IntKind.u64.wrap (IntKind.u64.wrap o*4096)) (IntKind.u64.wrap (IntKind.u64.wrap p*4))) 1)] w fun e w'=>e=.returned (.agg #[.int .i64 2,.int .i64 o,.int .i64 P])/\Bl w w')(w:World):Calls prog 240 #[.int .i64 l,.agg #[.int .i64 2,.int .i64 o,.int .i64 p]] w fun e w'=>e=.returned (.int .u64 0)/\Bl w w':=by
 go_enter func240,ntmps240
 go_wp2
 go_region_held3 (fun w'=>w'.cell? ⟨w.heap.size,0,none⟩=some (.int .i64 2)/\w'.cell? ⟨w.heap.size,1,none⟩=some (.int .i64 o)/\w'.cell? ⟨w.heap.size,2,none⟩=some (.int .i64 p))
  (first|go_keep|(go_split_ands;refine⟨?_,?_,?_⟩<;>(rw[hb1.cell (by simp)];simp)))
  (first|(go_at_call 151;refine(hd _).mono ?_;rintro e w1 ⟨rfl,hb1⟩))
 go_wp2
 go_ret;exact⟨rfl,AO.drew.trans (hb1.mono (by simp))⟩
theorem OZ(l o p:Int)(hd:∀w,Calls prog 151 #[.int .i64 l,.int .u64 (bits BinOp.or IntKind.u64 (bits BinOp.or IntKind.u64 (IntKind.u64.wrap (IntKind.u64.wrap o*4096)) (IntKind.u64.wrap (IntKind.u64.wrap p*4))) 3)] w fun e w'=>e=.returned (.agg #[.int .i64 3,.int .i64 o,.int .i64 p])/\Bl w w')(w:World):Calls prog 240 #[.int .i64 l,.agg #[.int .i64 3,.int .i64 o,.int .i64 p]] w fun e w'=>e=.returned (.int .u64 (bits BinOp.or IntKind.u64 (bits BinOp.or IntKind.u64 (IntKind.u64.wrap (IntKind.u64.wrap o*4096)) (IntKind.u64.wrap (IntKind.u64.wrap p*4))) 3))/\Bl w w':=by
 go_enter func240,ntmps240
 go_wp2
 go_region_held3 (fun w'=>w'.cell? ⟨w.heap.size,0,none⟩=some (.int .i64 3)/\w'.cell? ⟨w.heap.size,1,none⟩=some (.int .i64 o)/\w'.cell? ⟨w.heap.size,2,none⟩=some (.int .i64 p))
  (first|go_keep|(go_split_ands;refine⟨?_,?_,?_⟩<;>(rw[hb1.cell (by simp)];simp)))
  (first|(go_at_call 151;refine(hd _).mono ?_;rintro e w1 ⟨rfl,hb1⟩))
 go_wp2
 go_ret;exact⟨rfl,AO.drew.trans (hb1.mono (by simp))⟩
theorem NH(l o p K O P:Int)(h1:(K==3)=false)(hd:∀w,Calls prog 151 #[.int .i64 l,.int .u64 (bits BinOp.or IntKind.u64 (bits BinOp.or IntKind.u64 (IntKind.u64.wrap (IntKind.u64.wrap o*4096)) (IntKind.u64.wrap (IntKind.u64.wrap p*4))) 3)] w fun e w'=>e=.returned (.agg #[.int .i64 K,.int .i64 O,.int .i64 P])/\Bl w w')(w:World):Calls prog 240 #[.int .i64 l,.agg #[.int .i64 3,.int .i64 o,.int .i64 p]] w fun e w'=>e=.returned (.int .u64 0)/\Bl w w':=by
 go_enter func240,ntmps240
 go_wp2
 go_region_held3 (fun w'=>w'.cell? ⟨w.heap.size,0,none⟩=some (.int .i64 3)/\w'.cell? ⟨w.heap.size,1,none⟩=some (.int .i64 o)/\w'.cell? ⟨w.heap.size,2,none⟩=some (.int .i64 p))
  (first|go_keep|(go_split_ands;refine⟨?_,?_,?_⟩<;>(rw[hb1.cell (by simp)];simp)))
  (first|(go_at_call 151;refine(hd _).mono ?_;rintro e w1 ⟨rfl,hb1⟩))
 go_wp2
 go_ret;exact⟨rfl,AO.drew.trans (hb1.mono (by simp))⟩
theorem Od(l o p O P:Int)(h1:(O==o)=false)(hd:∀w,Calls prog 151 #[.int .i64 l,.int .u64 (bits BinOp.or IntKind.u64 (bits BinOp.or IntKind.u64 (IntKind.u64.wrap (IntKind.u64.wrap o*4096)) (IntKind.u64.wrap (IntKind.u64.wrap p*4))) 3)] w fun e w'=>e=.returned (.agg #[.int .i64 3,.int .i64 O,.int .i64 P])/\Bl w w')(w:World):Calls prog 240 #[.int .i64 l,.agg #[.int .i64 3,.int .i64 o,.int .i64 p]] w fun e w'=>e=.returned (.int .u64 0)/\Bl w w':=by
 go_enter func240,ntmps240
 go_wp2
 go_region_held3 (fun w'=>w'.cell? ⟨w.heap.size,0,none⟩=some (.int .i64 3)/\w'.cell? ⟨w.heap.size,1,none⟩=some (.int .i64 o)/\w'.cell? ⟨w.heap.size,2,none⟩=some (.int .i64 p))
  (first|go_keep|(go_split_ands;refine⟨?_,?_,?_⟩<;>(rw[hb1.cell (by simp)];simp)))
  (first|(go_at_call 151;refine(hd _).mono ?_;rintro e w1 ⟨rfl,hb1⟩))
 go_wp2
 go_ret;exact⟨rfl,AO.drew.trans (hb1.mono (by simp))⟩
theorem OJ(l o p P:Int)(h1:(P==p)=false)(hd:∀w,Calls prog 151 #[.int .i64 l,.int .u64 (bits BinOp.or IntKind.u64 (bits BinOp.or IntKind.u64 (IntKind.u64.wrap (IntKind.u64.wrap o*4096)) (IntKind.u64.wrap (IntKind.u64.wrap p*4))) 3)] w fun e w'=>e=.returned (.agg #[.int .i64 3,.int .i64 o,.int .i64 P])/\Bl w w')(w:World):Calls prog 240 #[.int .i64 l,.agg #[.int .i64 3,.int .i64 o,.int .i64 p]] w fun e w'=>e=.returned (.int .u64 0)/\Bl w w':=by
 go_enter func240,ntmps240
 go_wp2
 go_region_held3 (fun w'=>w'.cell? ⟨w.heap.size,0,none⟩=some (.int .i64 3)/\w'.cell? ⟨w.heap.size,1,none⟩=some (.int .i64 o)/\w'.cell? ⟨w.heap.size,2,none⟩=some (.int .i64 p))
  (first|go_keep|(go_split_ands;refine⟨?_,?_,?_⟩<;>(rw[hb1.cell (by simp)];simp)))
  (first|(go_at_call 151;refine(hd _).mono ?_;rintro e w1 ⟨rfl,hb1⟩))
 go_wp2
 go_ret;exact⟨rfl,AO.drew.trans (hb1.mono (by simp))⟩
theorem Lv(x y:Int):0<=bits .or .u64 x y/\bits .or .u64 x y<2 ^ 64:=by
 have:=bits_lo_u64 .or x y;have:=bits_hi_u64 .or x y;omega
theorem Qp(l x:Int):0<=AX l x/\AX l x<65536:=by
 unfold AX;split<;>omega
theorem Pe(l x:Int):0<=Ak l x/\Ak l x<=7:=by
 unfold Ak;split<;>omega
theorem Kd(x:Int)(a:0<=x)(b:x<18446744073709551616):IntKind.u64.wrap x=x:=by
 rw[IntKind.wrap_u64];omega
theorem Lz(o p:Int)(a:0<=o)(b:o<65536)(c:0<=p)(d:p<=7):bits BinOp.or IntKind.u64 (IntKind.u64.wrap (IntKind.u64.wrap o*4096)) (IntKind.u64.wrap (IntKind.u64.wrap p*4))=o*4096+p*4:=by
 rw[Kd o a (by omega),Kd p c (by omega),Kd (o*4096) (by omega) (by omega),Kd (p*4) (by omega) (by omega),Zw o p a b c d]
theorem Gg(l k o p X:Int)(hk:k=1\/k=2\/k=3)(hX:0<=o->o<65536->0<=p->p<=7->X=Cs k o p):(AG l X=k/\AX l X=o/\Ak l X=p->X=Aw l k o p)/\(¬(AG l X=k/\AX l X=o/\Ak l X=p)->0=Aw l k o p):=by
 have r1:=Qp l X;have r2:=Pe l X;constructor
 ·rintro⟨a,b,c⟩;have hx:=hX (by omega) (by omega) (by omega) (by omega);unfold Aw Qo;rw[<- hx,if_pos ⟨hk,by omega,by omega,by omega,by omega,a,b,c⟩]
 ·intro h;unfold Aw;rw[if_neg];rintro⟨_,a,b,c,d,f⟩;have hx:=hX a b c d;unfold Qo at f;rw[<- hx] at f;exact h f
theorem Dp(l k o p:Int)(w:World):Calls prog 240 #[.int .i64 l,.agg #[.int .i64 k,.int .i64 o,.int .i64 p]] w fun e w'=>e=.returned (.int .u64 (Aw l k o p))/\Bl w w':=by
 by_cases hk:k=1\/k=2\/k=3
 ·rcases hk with rfl|rfl|rfl
  ·have hx:0<=o->o<65536->0<=p->p<=7->(bits BinOp.or IntKind.u64 (bits BinOp.or IntKind.u64 (IntKind.u64.wrap (IntKind.u64.wrap o*4096)) (IntKind.u64.wrap (IntKind.u64.wrap p*4))) 3)=Cs 1 o p:=by
    intro a b c d;rw[Lz o p a b c d,Zy o p a b c d];simp[Cs]
   have hr:=Lv (bits BinOp.or IntKind.u64 (IntKind.u64.wrap (IntKind.u64.wrap o*4096)) (IntKind.u64.wrap (IntKind.u64.wrap p*4))) 3;have hd:=Cb l (bits BinOp.or IntKind.u64 (bits BinOp.or IntKind.u64 (IntKind.u64.wrap (IntKind.u64.wrap o*4096)) (IntKind.u64.wrap (IntKind.u64.wrap p*4))) 3) hr.1 hr.2;have hv:=Gg l 1 o p _ (by omega) hx;unfold D7 D9 at hd;by_cases a:AG l (bits BinOp.or IntKind.u64 (bits BinOp.or IntKind.u64 (IntKind.u64.wrap (IntKind.u64.wrap o*4096)) (IntKind.u64.wrap (IntKind.u64.wrap p*4))) 3)=1
   ·by_cases b:AX l (bits BinOp.or IntKind.u64 (bits BinOp.or IntKind.u64 (IntKind.u64.wrap (IntKind.u64.wrap o*4096)) (IntKind.u64.wrap (IntKind.u64.wrap p*4))) 3)=o
    ·by_cases c:Ak l (bits BinOp.or IntKind.u64 (bits BinOp.or IntKind.u64 (IntKind.u64.wrap (IntKind.u64.wrap o*4096)) (IntKind.u64.wrap (IntKind.u64.wrap p*4))) 3)=p
     ·rw[<- hv.1 ⟨a,b,c⟩];rw[a,b,c] at hd;exact No l o p hd w
     ·rw[<- hv.2 (fun h=>c h.2.2)];rw[a,b] at hd;exact OG l o p _ (by simpa using c) hd w
    ·rw[<- hv.2 (fun h=>b h.2.1)];rw[a] at hd;exact O7 l o p _ _ (by simpa using b) hd w
   ·rw[<- hv.2 (fun h=>a h.1)];exact Oi l o p _ _ _ (by simpa using a) hd w
  ·have hx:0<=o->o<65536->0<=p->p<=7->(bits BinOp.or IntKind.u64 (bits BinOp.or IntKind.u64 (IntKind.u64.wrap (IntKind.u64.wrap o*4096)) (IntKind.u64.wrap (IntKind.u64.wrap p*4))) 1)=Cs 2 o p:=by
    intro a b c d;rw[Lz o p a b c d,aI o p a b c d];simp[Cs]
   have hr:=Lv (bits BinOp.or IntKind.u64 (IntKind.u64.wrap (IntKind.u64.wrap o*4096)) (IntKind.u64.wrap (IntKind.u64.wrap p*4))) 1;have hd:=Cb l (bits BinOp.or IntKind.u64 (bits BinOp.or IntKind.u64 (IntKind.u64.wrap (IntKind.u64.wrap o*4096)) (IntKind.u64.wrap (IntKind.u64.wrap p*4))) 1) hr.1 hr.2;have hv:=Gg l 2 o p _ (by omega) hx;unfold D7 D9 at hd;by_cases a:AG l (bits BinOp.or IntKind.u64 (bits BinOp.or IntKind.u64 (IntKind.u64.wrap (IntKind.u64.wrap o*4096)) (IntKind.u64.wrap (IntKind.u64.wrap p*4))) 1)=2
   ·by_cases b:AX l (bits BinOp.or IntKind.u64 (bits BinOp.or IntKind.u64 (IntKind.u64.wrap (IntKind.u64.wrap o*4096)) (IntKind.u64.wrap (IntKind.u64.wrap p*4))) 1)=o
    ·by_cases c:Ak l (bits BinOp.or IntKind.u64 (bits BinOp.or IntKind.u64 (IntKind.u64.wrap (IntKind.u64.wrap o*4096)) (IntKind.u64.wrap (IntKind.u64.wrap p*4))) 1)=p
     ·rw[<- hv.1 ⟨a,b,c⟩];rw[a,b,c] at hd;exact NG l o p hd w
     ·rw[<- hv.2 (fun h=>c h.2.2)];rw[a,b] at hd;exact O0 l o p _ (by simpa using c) hd w
    ·rw[<- hv.2 (fun h=>b h.2.1)];rw[a] at hd;exact OI l o p _ _ (by simpa using b) hd w
   ·rw[<- hv.2 (fun h=>a h.1)];exact Nt l o p _ _ _ (by simpa using a) hd w
  ·have hx:0<=o->o<65536->0<=p->p<=7->(bits BinOp.or IntKind.u64 (bits BinOp.or IntKind.u64 (IntKind.u64.wrap (IntKind.u64.wrap o*4096)) (IntKind.u64.wrap (IntKind.u64.wrap p*4))) 3)=Cs 3 o p:=by
    intro a b c d;rw[Lz o p a b c d,Zy o p a b c d];simp[Cs]
   have hr:=Lv (bits BinOp.or IntKind.u64 (IntKind.u64.wrap (IntKind.u64.wrap o*4096)) (IntKind.u64.wrap (IntKind.u64.wrap p*4))) 3;have hd:=Cb l (bits BinOp.or IntKind.u64 (bits BinOp.or IntKind.u64 (IntKind.u64.wrap (IntKind.u64.wrap o*4096)) (IntKind.u64.wrap (IntKind.u64.wrap p*4))) 3) hr.1 hr.2;have hv:=Gg l 3 o p _ (by omega) hx;unfold D7 D9 at hd;by_cases a:AG l (bits BinOp.or IntKind.u64 (bits BinOp.or IntKind.u64 (IntKind.u64.wrap (IntKind.u64.wrap o*4096)) (IntKind.u64.wrap (IntKind.u64.wrap p*4))) 3)=3
   ·by_cases b:AX l (bits BinOp.or IntKind.u64 (bits BinOp.or IntKind.u64 (IntKind.u64.wrap (IntKind.u64.wrap o*4096)) (IntKind.u64.wrap (IntKind.u64.wrap p*4))) 3)=o
    ·by_cases c:Ak l (bits BinOp.or IntKind.u64 (bits BinOp.or IntKind.u64 (IntKind.u64.wrap (IntKind.u64.wrap o*4096)) (IntKind.u64.wrap (IntKind.u64.wrap p*4))) 3)=p
     ·rw[<- hv.1 ⟨a,b,c⟩];rw[a,b,c] at hd;exact OZ l o p hd w
     ·rw[<- hv.2 (fun h=>c h.2.2)];rw[a,b] at hd;exact OJ l o p _ (by simpa using c) hd w
    ·rw[<- hv.2 (fun h=>b h.2.1)];rw[a] at hd;exact Od l o p _ _ (by simpa using b) hd w
   ·rw[<- hv.2 (fun h=>a h.1)];exact NH l o p _ _ _ (by simpa using a) hd w
 ·have:Aw l k o p=0:=by unfold Aw;rw[if_neg (fun h=>hk h.1)]
  rw[this];exact OW l k o p hk w
end Go.Proofs.YtnmhkgmmpkjjeaaGreat
