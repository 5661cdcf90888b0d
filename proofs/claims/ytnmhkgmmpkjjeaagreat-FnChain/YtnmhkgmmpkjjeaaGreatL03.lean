import Derived.Test.YtnmhkgmmpkjjeaaGreatL02
import Derived.Deep.RegionHeld3
import Derived.Deep.DrawnRows
namespace Go.Proofs.YtnmhkgmmpkjjeaaGreat
open Go.ChangeShapes Go.WideShapes Go.ChangeAt Go.RowKit
set_option linter.unusedVariables false
theorem Ir (x:Int) (h0:0<=x) (h1:x<2 ^ 64) (w:World) : Calls Tryz.prog 202 #[.int .u64 x] w fun e w'=>e=.returned (.int .i64 (x/4096%65536))/\w'=w:=by
 have e1:=Uq x h0 (by omega);have e2:x/4096%65536*4096/4096=x/4096%65536:=by omega
 go_enter Tryz.func202,Tryz.ntmps202
 go_wp2
 go_ret;exact⟨rfl,rfl⟩
theorem Pf (x:Int) (h0:0<=x) (h1:x<2 ^ 64) (w:World) : Calls Tryz.prog 203 #[.int .u64 x] w fun e w'=>e=.returned (.int .i64 (x/4%8))/\w'=w:=by
 have e1:=Id x h0 (by omega);have e2:x/4%8*4/4=x/4%8:=by omega
 go_enter Tryz.func203,Tryz.ntmps203
 go_wp2
 go_ret;exact⟨rfl,rfl⟩
theorem OH (x:Int) (h0:0<=x) (h1:x<2 ^ 64) (a1:x%2=0) (w:World) : Calls Tryz.prog 201 #[.int .u64 x] w fun e w'=>e=.returned (.int .i64 0)/\w'=w:=by
 have e1:=Gn x h0 (by omega);go_enter Tryz.func201,Tryz.ntmps201
 go_wp2
 go_ret;exact⟨rfl,rfl⟩
theorem Hc (x:Int) (h0:0<=x) (h1:x<2 ^ 64) (a1:x%2=1) (a2:¬x/32%128=0\/¬x/268435456=0) (w:World) : Calls Tryz.prog 201 #[.int .u64 x] w fun e w'=>e=.returned (.int .i64 4)/\w'=w:=by
 have e1:=Gn x h0 (by omega);have e2:(bits .andNot .u64 x 268431391==0)=false:=by
  rw[DM x h0 (by omega)];simp only[beq_eq_false_iff_ne];omega
 have e3:(bits .andNot .u64 x 268431391 != 0)=true:=by simp[bne,e2]
 clear a2 e2;go_enter Tryz.func201,Tryz.ntmps201
 go_wp2
 go_ret;exact⟨rfl,rfl⟩
theorem Hg (x:Int) (h0:0<=x) (h1:x<2 ^ 64) (a1:x%2=1) (a2:x/32%128=0) (a3:x/268435456=0) (b:x/2%2=1) (c:x/4%8=0) (w:World) : Calls Tryz.prog 201 #[.int .u64 x] w fun e w'=>e=.returned (.int .i64 1)/\w'=w:=by
 have e1:=Gn x h0 (by omega);have e2:=OR x h0 (by omega);have e3:=Id x h0 (by omega);have e4:=DM x h0 (by omega);go_enter Tryz.func201,Tryz.ntmps201
 go_wp2
 go_ret;exact⟨rfl,rfl⟩
theorem Gf (x:Int) (h0:0<=x) (h1:x<2 ^ 64) (a1:x%2=1) (a2:x/32%128=0) (a3:x/268435456=0) (b:x/2%2=1) (c:0<x/4%8) (w:World) : Calls Tryz.prog 201 #[.int .u64 x] w fun e w'=>e=.returned (.int .i64 3)/\w'=w:=by
 have e1:=Gn x h0 (by omega);have e2:=OR x h0 (by omega);have e3:=Id x h0 (by omega);have e4:=DM x h0 (by omega);have c1:(x/4%8*4 != 0)=true:=by simp only[bne_iff_ne];omega
 go_enter Tryz.func201,Tryz.ntmps201
 go_wp2
 go_ret;exact⟨rfl,rfl⟩
theorem Fq (x:Int) (h0:0<=x) (h1:x<2 ^ 64) (a1:x%2=1) (a2:x/32%128=0) (a3:x/268435456=0) (b:x/2%2=0) (c:0<x/4%8) (d:x/4096%65536%16=0) (w:World) : Calls Tryz.prog 201 #[.int .u64 x] w fun e w'=>e=.returned (.int .i64 2)/\w'=w:=by
 have e1:=Gn x h0 (by omega);have e2:=OR x h0 (by omega);have e3:=Id x h0 (by omega);have e4:=DM x h0 (by omega);have c1:(x/4%8*4 != 0)=true:=by simp only[bne_iff_ne];omega
 have d1:(x/4096%16==0)=true:=by simp only[beq_iff_eq];omega
 go_enter Tryz.func201,Tryz.ntmps201
 go_wp2_with (go_at_call 202;refine(Ir _ h0 h1 _).mono ?_;rintro e w' ⟨rfl,rfl⟩)
 go_ret;exact⟨rfl,rfl⟩
theorem Hw (x:Int) (h0:0<=x) (h1:x<2 ^ 64) (a1:x%2=1) (a2:x/32%128=0) (a3:x/268435456=0) (b:x/2%2=0) (c:0<x/4%8) (d:0<x/4096%65536%16) (w:World) : Calls Tryz.prog 201 #[.int .u64 x] w fun e w'=>e=.returned (.int .i64 4)/\w'=w:=by
 have e1:=Gn x h0 (by omega);have e2:=OR x h0 (by omega);have e3:=Id x h0 (by omega);have e4:=DM x h0 (by omega);have c1:(x/4%8*4 != 0)=true:=by simp only[bne_iff_ne];omega
 have d1:(x/4096%16==0)=false:=by simp only[beq_eq_false_iff_ne];omega
 go_enter Tryz.func201,Tryz.ntmps201
 go_wp2_with (go_at_call 202;refine(Ir _ h0 h1 _).mono ?_;rintro e w' ⟨rfl,rfl⟩)
 go_ret;exact⟨rfl,rfl⟩
theorem Gg (x:Int) (h0:0<=x) (h1:x<2 ^ 64) (a1:x%2=1) (a2:x/32%128=0) (a3:x/268435456=0) (b:x/2%2=0) (c:x/4%8=0) (w:World) : Calls Tryz.prog 201 #[.int .u64 x] w fun e w'=>e=.returned (.int .i64 4)/\w'=w:=by
 have e1:=Gn x h0 (by omega);have e2:=OR x h0 (by omega);have e3:=Id x h0 (by omega);have e4:=DM x h0 (by omega);go_enter Tryz.func201,Tryz.ntmps201
 go_wp2
 go_ret;exact⟨rfl,rfl⟩
theorem Te (l f:Int) (h:l<1\/3<l) (w:World) : Calls Tryz.prog 200 #[.int .i64 l,.int .i64 f] w fun e w'=>e=.returned (.int .i64 4)/\w'=w:=by
 rcases h with h|h;all_goals
  go_enter Tryz.func200,Tryz.ntmps200
  go_wp2
  go_ret
  exact⟨rfl,rfl⟩
def Ls (l f:Int):Int:=if f=0 then 0 else if f=1/\l<3 then 1 else if f=2/\l=2 then 2 else if f=3/\l=3 then 3 else 4
set_option maxHeartbeats 2000000 in
theorem Qs (l f:Int) (hl:l=1\/l=2\/l=3) (hf:f=0\/f=1\/f=2\/f=3\/f=4) (w:World) : Calls Tryz.prog 200 #[.int .i64 l,.int .i64 f] w fun e w'=>e=.returned (.int .i64 (Ls l f))/\w'=w:=by
 rcases hl with rfl|rfl|rfl<;>rcases hf with rfl|rfl|rfl|rfl|rfl;all_goals as_aux_lemma =>
  go_enter Tryz.func200,Tryz.ntmps200
  go_wp2
  go_ret;exact⟨rfl,rfl⟩
theorem T6 (l x:Int) (h:l<1\/3<l) (h0:0<=x) (h1:x<2 ^ 64) (f:Int) (hf:∀w,Calls Tryz.prog 201 #[.int .u64 x] w fun e w'=>e=.returned (.int .i64 f)/\w'=w) (w:World) : Calls Tryz.prog 151 #[.int .i64 l,.int .u64 x] w fun e w'=>e=.returned (Ck 4 0 0)/\Below w.heap.size w w':=by
 go_enter Tryz.func151,Tryz.ntmps151
 go_wp2_with (first
  | (go_at_call 201;refine(hf _).mono ?_;rintro e w' ⟨rfl,rfl⟩)
  | (go_at_call 200;refine(Te _ _ h _).mono ?_;rintro e w' ⟨rfl,rfl⟩))
 exact bodyPost_ret (v:=.agg #[.int .i64 4,.int .i64 0,.int .i64 0]) (by simp[results,Tryz.results151,go_sem]) rfl ⟨rfl,(Below.refl _ _).alloc (Nat.le_refl _) _⟩
theorem BY (l x k:Int) (hl:l=1\/l=2\/l=3) (h0:0<=x) (h1:x<2 ^ 64) (f:Int) (hf5:f=0\/f=1\/f=2\/f=3\/f=4) (hk:Ls l f=k) (hk4:k=0\/k=4) (hf:∀w,Calls Tryz.prog 201 #[.int .u64 x] w fun e w'=>e=.returned (.int .i64 f)/\w'=w) (w:World) : Calls Tryz.prog 151 #[.int .i64 l,.int .u64 x] w fun e w'=>e=.returned (Ck k 0 0)/\Below w.heap.size w w':=by
 have hc:∀w,Calls Tryz.prog 200 #[.int .i64 l,.int .i64 f] w fun e w'=>e=.returned (.int .i64 k)/\w'=w:=by
  intro w;rw[<- hk];exact Qs l f hl hf5 w
 clear hl hf5 hk;rcases hk4 with rfl|rfl
 ·go_enter Tryz.func151,Tryz.ntmps151
  go_wp2_with (first
   | (go_at_call 201;refine(hf _).mono ?_;rintro e w' ⟨rfl,rfl⟩)
   | (go_at_call 200;refine(hc _).mono ?_;rintro e w' ⟨rfl,rfl⟩))
  exact bodyPost_ret (v:=.agg #[.int .i64 0,.int .i64 0,.int .i64 0]) (by simp[results,Tryz.results151,go_sem]) rfl ⟨rfl,(Below.refl _ _).alloc (Nat.le_refl _) _⟩
 ·go_enter Tryz.func151,Tryz.ntmps151
  go_wp2_with (first
   | (go_at_call 201;refine(hf _).mono ?_;rintro e w' ⟨rfl,rfl⟩)
   | (go_at_call 200;refine(hc _).mono ?_;rintro e w' ⟨rfl,rfl⟩))
  exact bodyPost_ret (v:=.agg #[.int .i64 4,.int .i64 0,.int .i64 0]) (by simp[results,Tryz.results151,go_sem]) rfl ⟨rfl,(Below.refl _ _).alloc (Nat.le_refl _) _⟩
theorem Ix (l x k:Int) (hl:l=1\/l=2\/l=3) (h0:0<=x) (h1:x<2 ^ 64) (f:Int) (hf5:f=0\/f=1\/f=2\/f=3\/f=4) (hk:Ls l f=k) (hk4:k=1\/k=2\/k=3) (hf:∀w,Calls Tryz.prog 201 #[.int .u64 x] w fun e w'=>e=.returned (.int .i64 f)/\w'=w) (w:World) : Calls Tryz.prog 151 #[.int .i64 l,.int .u64 x] w fun e w'=>e=.returned (Ck k (x/4096%65536) (x/4%8))/\Below w.heap.size w w':=by
 have hc:∀w,Calls Tryz.prog 200 #[.int .i64 l,.int .i64 f] w fun e w'=>e=.returned (.int .i64 k)/\w'=w:=by
  intro w;rw[<- hk];exact Qs l f hl hf5 w
 clear hl hf5 hk;rcases hk4 with rfl|rfl|rfl;all_goals
  go_enter Tryz.func151,Tryz.ntmps151
  go_wp2_with (first
   | (go_at_call 201;refine(hf _).mono ?_;rintro e w' ⟨rfl,rfl⟩)
   | (go_at_call 200;refine(hc _).mono ?_;rintro e w' ⟨rfl,rfl⟩)
   | (go_at_call 202;refine(Ir _ h0 h1 _).mono ?_;rintro e w' ⟨rfl,rfl⟩)
   | (go_at_call 203;refine(Pf _ h0 h1 _).mono ?_;rintro e w' ⟨rfl,rfl⟩))
  exact bodyPost_ret (v:=.agg #[_,.int .i64 (x/4096%65536),.int .i64 (x/4%8)]) (by simp[results,Tryz.results151,go_sem]) rfl ⟨rfl,(Below.refl _ _).alloc (Nat.le_refl _) _⟩
theorem Cb (l x:Int) (h0:0<=x) (h1:x<2 ^ 64) (w:World) : Calls Tryz.prog 151 #[.int .i64 l,.int .u64 x] w fun e w'=>e=.returned (Cj l x)/\Below w.heap.size w w':=by
 rcases Jj l x with⟨a,e⟩|⟨a,b,c,e⟩|⟨a,b,c,d,f,g,e⟩|⟨rfl,b,c,d,f,g,h,e⟩|⟨rfl,b,c,d,f,g,e⟩|⟨a,b,c,d,e⟩<;>rw[e]
 ·have hx:∃f,∀w,Calls Tryz.prog 201 #[.int .u64 x] w fun e w'=>e=.returned (.int .i64 f)/\w'=w:=by
   by_cases a1:x%2=0
   ·exact⟨0,OH x h0 h1 a1⟩
   ·by_cases a2:x/32%128=0/\x/268435456=0
    ·by_cases c:x/4%8=0<;>by_cases b:x/2%2=0
     ·exact⟨4,Gg x h0 h1 (by omega) a2.1 a2.2 b c⟩
     ·exact⟨1,Hg x h0 h1 (by omega) a2.1 a2.2 (by omega) c⟩
     ·by_cases d:x/4096%65536%16=0
      ·exact⟨2,Fq x h0 h1 (by omega) a2.1 a2.2 b (by omega) d⟩
      ·exact⟨4,Hw x h0 h1 (by omega) a2.1 a2.2 b (by omega) (by omega)⟩
     ·exact⟨3,Gf x h0 h1 (by omega) a2.1 a2.2 (by omega) (by omega)⟩
    ·exact⟨4,Hc x h0 h1 (by omega) (by omega)⟩
  obtain⟨f,hf⟩:=hx;exact T6 l x a h0 h1 f hf w
 ·exact BY l x 0 (by omega) h0 h1 0 (by omega) (by simp[Ls]) (by omega) (OH x h0 h1 c) w
 ·have:=Ix l x 1 (by omega) h0 h1 1 (by omega) (by simp[Ls];omega) (by omega) (Hg x h0 h1 b c d f g) w;rw[g] at this;exact this
 ·exact Ix 2 x 2 (by omega) h0 h1 2 (by omega) (by simp[Ls]) (by omega) (Fq x h0 h1 b c d f g h) w
 ·exact Ix 3 x 3 (by omega) h0 h1 3 (by omega) (by simp[Ls]) (by omega) (Gf x h0 h1 b c d f g) w
 ·have hl:l=1\/l=2\/l=3:=by omega
  rcases d with d|⟨d,d'⟩|⟨d,d',hb⟩
  ·exact BY l x 4 hl h0 h1 4 (by omega) (by simp[Ls]) (by omega) (Hc x h0 h1 c (.inl d)) w
  ·exact BY l x 4 hl h0 h1 4 (by omega) (by simp[Ls]) (by omega) (Hc x h0 h1 c (.inr d')) w
  ·rcases hb with⟨rfl,p,q⟩|⟨rfl,p,q,r⟩|⟨rfl,p,q,r⟩|⟨rfl,p,q⟩|⟨rfl,p,q⟩|⟨rfl,p,q,r⟩|⟨rfl,p,q⟩|⟨rfl,p,q⟩|⟨rfl,p,q⟩|⟨rfl,p,q,r⟩|⟨rfl,p,q,r⟩
   ·exact BY 1 x 4 hl h0 h1 4 (by omega) (by simp[Ls]) (by omega) (Gg x h0 h1 c d d' p q) w
   ·exact BY 1 x 4 hl h0 h1 2 (by omega) (by simp[Ls]) (by omega) (Fq x h0 h1 c d d' p q r) w
   ·exact BY 1 x 4 hl h0 h1 4 (by omega) (by simp[Ls]) (by omega) (Hw x h0 h1 c d d' p q r) w
   ·exact BY 1 x 4 hl h0 h1 3 (by omega) (by simp[Ls]) (by omega) (Gf x h0 h1 c d d' p q) w
   ·exact BY 2 x 4 hl h0 h1 4 (by omega) (by simp[Ls]) (by omega) (Gg x h0 h1 c d d' p q) w
   ·exact BY 2 x 4 hl h0 h1 4 (by omega) (by simp[Ls]) (by omega) (Hw x h0 h1 c d d' p q r) w
   ·exact BY 2 x 4 hl h0 h1 3 (by omega) (by simp[Ls]) (by omega) (Gf x h0 h1 c d d' p q) w
   ·exact BY 3 x 4 hl h0 h1 1 (by omega) (by simp[Ls]) (by omega) (Hg x h0 h1 c d d' p q) w
   ·exact BY 3 x 4 hl h0 h1 4 (by omega) (by simp[Ls]) (by omega) (Gg x h0 h1 c d d' p q) w
   ·exact BY 3 x 4 hl h0 h1 2 (by omega) (by simp[Ls]) (by omega) (Fq x h0 h1 c d d' p q r) w
   ·exact BY 3 x 4 hl h0 h1 4 (by omega) (by simp[Ls]) (by omega) (Hw x h0 h1 c d d' p q r) w
theorem JB {W w1:World} (hb:Below W.heap.size W w1):(∀b o,b<W.heap.size->w1.cell? ⟨b,o,none⟩=W.cell? ⟨b,o,none⟩)/\(∀b o,b<W.heap.size->w1.frozen? ⟨b,o,none⟩=W.frozen? ⟨b,o,none⟩) :=
 ⟨fun b o h=>hb.cell (p:=⟨b,o,none⟩) h,fun b o h=>hb.frozen (p:=⟨b,o,none⟩) h⟩
end Go.Proofs.YtnmhkgmmpkjjeaaGreat
namespace Go.Proofs.YtnmhkgmmpkjjeaaGreat
open Go.ChangeShapes Go.WideShapes Go.ChangeAt Go.RowKit
set_option linter.unusedVariables false
set_option maxRecDepth 100000
attribute [local go_sem ↓] Go.wp_at_zero Go.wp_at_succ
theorem KL (k o p:Int) (w:World) : Calls Tryz.prog 176 #[.agg #[.int .i64 k,.int .i64 o,.int .i64 p],.agg #[.int .i64 k,.int .i64 o,.int .i64 p]] w fun e w'=>e=.returned (.bool true)/\Below w.heap.size w w':=by
 go_enter Tryz.func176,Tryz.ntmps176
 go_wp2
 go_ret;exact⟨rfl,((Below.refl _ _).alloc (Nat.le_refl _) _).alloc (by simp) _⟩
theorem Mn (k o p k' o' p':Int) (h:¬(k=k'/\o=o'/\p=p')) (w:World) : Calls Tryz.prog 176 #[.agg #[.int .i64 k,.int .i64 o,.int .i64 p],.agg #[.int .i64 k',.int .i64 o',.int .i64 p']] w fun e w'=>e=.returned (.bool false)/\Below w.heap.size w w':=by
 by_cases a:k=k'
 ·by_cases b:o=o'
  ·(have c:(p==p')=false:=by simp;intro c;exact h ⟨a,b,c⟩);subst a b;clear h;(go_enter Tryz.func176,Tryz.ntmps176);(go_wp2);go_ret;exact⟨rfl,((Below.refl _ _).alloc (Nat.le_refl _) _).alloc (by simp) _⟩
  ·(have b':(o==o')=false:=by simpa using b);subst a;clear h b;(go_enter Tryz.func176,Tryz.ntmps176);(go_wp2);go_ret;exact⟨rfl,((Below.refl _ _).alloc (Nat.le_refl _) _).alloc (by simp) _⟩
 ·have a':(k==k')=false:=by simpa using a
  clear h a;go_enter Tryz.func176,Tryz.ntmps176
  go_wp2
  go_ret;exact⟨rfl,((Below.refl _ _).alloc (Nat.le_refl _) _).alloc (by simp) _⟩
def D0 (k o p:Int):Int:=1+p*4+o*4096+(if k=2 then 0 else 2)
abbrev S4 (l k o p:Int):Prop:=AJ l (D0 k o p)=k/\AV l (D0 k o p)=o/\B6 l (D0 k o p)=p
theorem MX (l k o p:Int) (h:¬(k=1\/k=2\/k=3)) (w:World) : Calls Tryz.prog 139 #[.int .i64 l,.agg #[.int .i64 k,.int .i64 o,.int .i64 p]] w fun e w'=>e=.returned (.int .u64 0)/\Below w.heap.size w w':=by
 have a:(k != 1)=true:=by simp;omega
 have b:(k != 2)=true:=by simp;omega
 have c:(k != 3)=true:=by simp;omega
 clear h;go_enter Tryz.func139,Tryz.ntmps139
 go_wp2
 go_ret;exact⟨rfl,(Below.refl _ _).alloc (Nat.le_refl _) _⟩
set_option maxHeartbeats 2000000 in
theorem Kr (l k o p:Int) (h:k=1\/k=2\/k=3) (h':¬(0<=o/\o<65536/\0<=p/\p<=7)) (w:World) : Calls Tryz.prog 139 #[.int .i64 l,.agg #[.int .i64 k,.int .i64 o,.int .i64 p]] w fun e w'=>e=.returned (.int .u64 0)/\Below w.heap.size w w':=by
 have r:o<0\/(0<=o/\65536<=o)\/(0<=o/\o<65536/\p<0)\/(0<=o/\o<65536/\0<=p/\7<p):=by omega
 clear h';rcases h with rfl|rfl|rfl<;>rcases r with r|⟨r1,r2⟩|⟨r1,r2,r3⟩|⟨r1,r2,r3,r4⟩;all_goals as_aux_lemma =>
  go_enter Tryz.func139,Tryz.ntmps139
  go_wp2
  go_ret;exact⟨rfl,(Below.refl _ _).alloc (Nat.le_refl _) _⟩
set_option maxHeartbeats 2000000 in
theorem Ll (l o p K O P:Int) (r:Bool) (a:0<=o) (b:o<65536) (c:0<=p) (d:p<=7) (hd:∀w,Calls Tryz.prog 62 #[.int .i64 l,.int .u64 (1+p*4+o*4096+2)] w fun e w'=>e=.returned (.agg #[.int .i64 K,.int .i64 O,.int .i64 P])/\Below w.heap.size w w') (hs:∀w,Calls Tryz.prog 176 #[.agg #[.int .i64 K,.int .i64 O,.int .i64 P],.agg #[.int .i64 1,.int .i64 o,.int .i64 p]] w fun e w'=>e=.returned (.bool r)/\Below w.heap.size w w') (w:World) : Calls Tryz.prog 139 #[.int .i64 l,.agg #[.int .i64 1,.int .i64 o,.int .i64 p]] w fun e w'=>e=.returned (.int .u64 (bif r then 1+p*4+o*4096+2 else 0))/\Below w.heap.size w w':=by
 cases r;all_goals as_aux_lemma =>
  go_enter Tryz.func139,Tryz.ntmps139
  go_wp2
  go_region_held3 (fun w'=>w'.cell? ⟨w.heap.size,0,none⟩=some (.int .i64 1)/\w'.cell? ⟨w.heap.size,1,none⟩=some (.int .i64 o)/\w'.cell? ⟨w.heap.size,2,none⟩=some (.int .i64 p))
   (first|go_keep|(go_split_ands;refine⟨?_,?_,?_⟩<;>(rw[hb1.cell (by simp)];simp))|(go_split_ands;refine⟨?_,?_,?_⟩<;>(rw[hb2.cell (by have:=hb1.size;simp at this ⊢;omega),hb1.cell (by simp)];simp)))
   (first
    | (go_at_call 62;refine(hd _).mono ?_;rintro e w1 ⟨rfl,hb1⟩)
    | (go_at_call 176;refine(hs _).mono ?_;rintro e w2 ⟨rfl,hb2⟩))
  go_wp2
  go_ret;refine⟨rfl,?_⟩;have s1:=hb1.size;simp at s1;exact(((Below.refl _ _).alloc (Nat.le_refl _) _).drew.trans (hb1.mono (by simp))).trans (hb2.mono (by omega))
set_option maxHeartbeats 2000000 in
theorem Lq (l o p K O P:Int) (r:Bool) (a:0<=o) (b:o<65536) (c:0<=p) (d:p<=7) (hd:∀w,Calls Tryz.prog 62 #[.int .i64 l,.int .u64 (1+p*4+o*4096+2)] w fun e w'=>e=.returned (.agg #[.int .i64 K,.int .i64 O,.int .i64 P])/\Below w.heap.size w w') (hs:∀w,Calls Tryz.prog 176 #[.agg #[.int .i64 K,.int .i64 O,.int .i64 P],.agg #[.int .i64 3,.int .i64 o,.int .i64 p]] w fun e w'=>e=.returned (.bool r)/\Below w.heap.size w w') (w:World) : Calls Tryz.prog 139 #[.int .i64 l,.agg #[.int .i64 3,.int .i64 o,.int .i64 p]] w fun e w'=>e=.returned (.int .u64 (bif r then 1+p*4+o*4096+2 else 0))/\Below w.heap.size w w':=by
 cases r;all_goals as_aux_lemma =>
  go_enter Tryz.func139,Tryz.ntmps139
  go_wp2
  go_region_held3 (fun w'=>w'.cell? ⟨w.heap.size,0,none⟩=some (.int .i64 3)/\w'.cell? ⟨w.heap.size,1,none⟩=some (.int .i64 o)/\w'.cell? ⟨w.heap.size,2,none⟩=some (.int .i64 p))
   (first|go_keep|(go_split_ands;refine⟨?_,?_,?_⟩<;>(rw[hb1.cell (by simp)];simp))|(go_split_ands;refine⟨?_,?_,?_⟩<;>(rw[hb2.cell (by have:=hb1.size;simp at this ⊢;omega),hb1.cell (by simp)];simp)))
   (first
    | (go_at_call 62;refine(hd _).mono ?_;rintro e w1 ⟨rfl,hb1⟩)
    | (go_at_call 176;refine(hs _).mono ?_;rintro e w2 ⟨rfl,hb2⟩))
  go_wp2
  go_ret;refine⟨rfl,?_⟩;have s1:=hb1.size;simp at s1;exact(((Below.refl _ _).alloc (Nat.le_refl _) _).drew.trans (hb1.mono (by simp))).trans (hb2.mono (by omega))
set_option maxHeartbeats 2000000 in
theorem M7 (l o p K O P:Int) (r:Bool) (a:0<=o) (b:o<65536) (c:0<=p) (d:p<=7) (hd:∀w,Calls Tryz.prog 62 #[.int .i64 l,.int .u64 (1+p*4+o*4096)] w fun e w'=>e=.returned (.agg #[.int .i64 K,.int .i64 O,.int .i64 P])/\Below w.heap.size w w') (hs:∀w,Calls Tryz.prog 176 #[.agg #[.int .i64 K,.int .i64 O,.int .i64 P],.agg #[.int .i64 2,.int .i64 o,.int .i64 p]] w fun e w'=>e=.returned (.bool r)/\Below w.heap.size w w') (w:World) : Calls Tryz.prog 139 #[.int .i64 l,.agg #[.int .i64 2,.int .i64 o,.int .i64 p]] w fun e w'=>e=.returned (.int .u64 (bif r then 1+p*4+o*4096 else 0))/\Below w.heap.size w w':=by
 cases r;all_goals as_aux_lemma =>
  go_enter Tryz.func139,Tryz.ntmps139
  go_wp2
  go_region_held3 (fun w'=>w'.cell? ⟨w.heap.size,0,none⟩=some (.int .i64 2)/\w'.cell? ⟨w.heap.size,1,none⟩=some (.int .i64 o)/\w'.cell? ⟨w.heap.size,2,none⟩=some (.int .i64 p))
   (first|go_keep|(go_split_ands;refine⟨?_,?_,?_⟩<;>(rw[hb1.cell (by simp)];simp))|(go_split_ands;refine⟨?_,?_,?_⟩<;>(rw[hb2.cell (by have:=hb1.size;simp at this ⊢;omega),hb1.cell (by simp)];simp)))
   (first
    | (go_at_call 62;refine(hd _).mono ?_;rintro e w1 ⟨rfl,hb1⟩)
    | (go_at_call 176;refine(hs _).mono ?_;rintro e w2 ⟨rfl,hb2⟩))
  go_wp2
  go_ret;refine⟨rfl,?_⟩;have s1:=hb1.size;simp at s1;exact(((Below.refl _ _).alloc (Nat.le_refl _) _).drew.trans (hb1.mono (by simp))).trans (hb2.mono (by omega))
def BZ (l k o p:Int):Int:=if (k=1\/k=2\/k=3)/\0<=o/\o<65536/\0<=p/\p<=7/\S4 l k o p then D0 k o p else 0
theorem DW (l k o p:Int) (w:World) : Calls Tryz.prog 139 #[.int .i64 l,.agg #[.int .i64 k,.int .i64 o,.int .i64 p]] w fun e w'=>e=.returned (.int .u64 (BZ l k o p))/\Below w.heap.size w w':=by
 unfold BZ;by_cases hk:k=1\/k=2\/k=3
 ·by_cases hr:0<=o/\o<65536/\0<=p/\p<=7
  ·obtain⟨a,b,c,d⟩:=hr;by_cases hf:S4 l k o p
   ·rw[if_pos ⟨hk,a,b,c,d,hf⟩];by_cases h2:k=2
    ·subst h2;(have e:D0 2 o p=1+p*4+o*4096:=by simp[D0]);obtain⟨f1,f2,f3⟩:=hf;rw[e] at f1 f2 f3 ⊢;have hd:=Bt l (1+p*4+o*4096) (by omega) (by omega);unfold Cj Ck at hd;rw[f1,f2,f3] at hd;exact M7 l o p _ _ _ true a b c d hd (KL 2 o p) w
    ·(have e:D0 k o p=1+p*4+o*4096+2:=by simp[D0,h2]);obtain⟨f1,f2,f3⟩:=hf;rw[e] at f1 f2 f3 ⊢;have hd:=Bt l (1+p*4+o*4096+2) (by omega) (by omega);unfold Cj Ck at hd;rw[f1,f2,f3] at hd;rcases(show k=1\/k=3 by omega) with rfl|rfl
     ·exact Ll l o p _ _ _ true a b c d hd (KL 1 o p) w
     ·exact Lq l o p _ _ _ true a b c d hd (KL 3 o p) w
   ·rw[if_neg (fun h=>hf h.2.2.2.2.2)];by_cases h2:k=2
    ·subst h2;(have e:D0 2 o p=1+p*4+o*4096:=by simp[D0]);unfold S4 at hf;rw[e] at hf;have hd:=Bt l (1+p*4+o*4096) (by omega) (by omega);exact M7 l o p _ _ _ false a b c d hd (Mn _ _ _ 2 o p hf) w
    ·(have e:D0 k o p=1+p*4+o*4096+2:=by simp[D0,h2]);unfold S4 at hf;rw[e] at hf;have hd:=Bt l (1+p*4+o*4096+2) (by omega) (by omega);rcases(show k=1\/k=3 by omega) with rfl|rfl
     ·exact Ll l o p _ _ _ false a b c d hd (Mn _ _ _ 1 o p hf) w
     ·exact Lq l o p _ _ _ false a b c d hd (Mn _ _ _ 3 o p hf) w
  ·rw[if_neg (fun h=>hr ⟨h.2.1,h.2.2.1,h.2.2.2.1,h.2.2.2.2.1⟩)];exact Kr l k o p hk hr w
 ·rw[if_neg (fun h=>hk h.1)];exact MX l k o p hk w
end Go.Proofs.YtnmhkgmmpkjjeaaGreat
