import Derived.Test.YtnmhkgmmpkjjeabGreatRows
import Derived.Test.YtnmhkgmmpkjjeabGreatE00
import Derived.WalkKit
import Derived.ProofKit
import Derived.OpenShut
import Derived.Below
namespace Go.Proofs.YtnmhkgmmpkjjeabGreat
open ChangeShapes WideShapes ChangeAt RowKit Proofs.Tryz
set_option linter.all false
set_option maxRecDepth 100000
set_option maxHeartbeats 4000000
def AZ (l x:Int):Int :=
 if l<1\/3<l then 4
 else if x%2=0 then 0
 else if x/32%128≠0\/x/268435456≠0 then 4
 else if l<=2/\x/2%2=1/\x/4%8=0 then 1
 else if l=2/\x/2%2=0/\0<x/4%8/\x/4096%65536%16=0 then 2
 else if l=3/\x/2%2=1/\0<x/4%8 then 3
 else 4
def Bz (l x:Int):Int:=if AZ l x=0\/AZ l x=4 then 0 else x/4096%65536
def Bq (l x:Int):Int:=if AZ l x=0\/AZ l x=4 then 0 else x/4%8
def Cq (k o p:Int):Value:=.agg #[.int .i64 k,.int .i64 o,.int .i64 p]
def Cu (l x:Int):Value:=Cq (AZ l x) (Bz l x) (Bq l x)
def MB (l x:Int):Prop :=
 (¬x/32%128=0) \/
 (x/32%128=0/\¬x/268435456=0) \/
 (x/32%128=0/\x/268435456=0 /\
  ((l=1/\x/2%2=0/\x/4%8=0)\/(l=1/\x/2%2=0/\0<x/4%8/\x/4096%65536%16=0)\/(l=1/\x/2%2=0/\0<x/4%8/\0<x/4096%65536%16)\/(l=1/\x/2%2=1/\0<x/4%8) \/
   (l=2/\x/2%2=0/\x/4%8=0)\/(l=2/\x/2%2=0/\0<x/4%8/\0<x/4096%65536%16)\/(l=2/\x/2%2=1/\0<x/4%8) \/
   (l=3/\x/2%2=1/\x/4%8=0)\/(l=3/\x/2%2=0/\x/4%8=0)\/(l=3/\x/2%2=0/\0<x/4%8/\x/4096%65536%16=0)\/(l=3/\x/2%2=0/\0<x/4%8/\0<x/4096%65536%16)))
theorem Gc(l x:Int):((l<1\/3<l)/\Cu l x=Cq 4 0 0) \/ (1<=l/\l<=3/\x%2=0/\Cu l x=Cq 0 0 0) \/ ((l=1\/l=2)/\x%2=1/\x/32%128=0/\x/268435456=0/\x/2%2=1/\x/4%8=0/\Cu l x=Cq 1 (x/4096%65536) 0) \/ (l=2/\x%2=1/\x/32%128=0/\x/268435456=0/\x/2%2=0/\0<x/4%8/\x/4096%65536%16=0/\Cu l x=Cq 2 (x/4096%65536) (x/4%8)) \/ (l=3/\x%2=1/\x/32%128=0/\x/268435456=0/\x/2%2=1/\0<x/4%8/\Cu l x=Cq 3 (x/4096%65536) (x/4%8)) \/ (1<=l/\l<=3/\x%2=1/\MB l x/\Cu l x=Cq 4 0 0):=by
 by_cases hl:l<1\/3<l
 ·exact .inl ⟨hl,by simp[Cu,Bz,Bq,AZ,hl]⟩
 ·have hl1:1<=l:=by omega
  have hl3:l<=3:=by omega
  by_cases a1:x%2=0
  ·exact .inr (.inl ⟨hl1,hl3,a1,by simp[Cu,Bz,Bq,AZ,hl,a1]⟩)
  ·(have a1':x%2=1:=by omega);by_cases a2:x/32%128=0
   ·by_cases a3:x/268435456=0
    ·by_cases c1:l<=2/\x/2%2=1/\x/4%8=0
     ·refine .inr (.inr (.inl ⟨by omega,a1',a2,a3,c1.2.1,c1.2.2,?_⟩));simp[Cu,Bz,Bq,AZ,hl,a1,a2,a3,c1]
     ·by_cases c2:l=2/\x/2%2=0/\0<x/4%8/\x/4096%65536%16=0
      ·refine .inr (.inr (.inr (.inl ⟨c2.1,a1',a2,a3,c2.2.1,c2.2.2.1,c2.2.2.2,?_⟩)));(have hk:AZ l x=2:=by unfold AZ;rw[if_neg hl,if_neg a1,if_neg (by omega),if_neg c1,if_pos c2]);simp[Cu,Bz,Bq,hk]
      ·by_cases c3:l=3/\x/2%2=1/\0<x/4%8
       ·refine .inr (.inr (.inr (.inr (.inl ⟨c3.1,a1',a2,a3,c3.2.1,c3.2.2,?_⟩))));(have hk:AZ l x=3:=by unfold AZ;rw[if_neg hl,if_neg a1,if_neg (by omega),if_neg c1,if_neg c2,if_pos c3]);simp[Cu,Bz,Bq,hk]
       ·refine .inr (.inr (.inr (.inr (.inr ⟨hl1,hl3,a1',.inr (.inr ⟨a2,a3,?_⟩),?_⟩))))
        ·(have hl':l=1\/l=2\/l=3:=by omega);(have h2:x/2%2=0\/x/2%2=1:=by omega);(have h4:x/4%8=0\/0<x/4%8:=by omega);(have h6:x/4096%65536%16=0\/0<x/4096%65536%16:=by omega);rcases hl' with e|e|e<;>rcases h2 with b|b<;>rcases h4 with c|c<;>rcases h6 with d|d<;>simp[e,b,c,d] at c1 c2 c3 ⊢<;>omega
        ·(have hk:AZ l x=4:=by unfold AZ;rw[if_neg hl,if_neg a1,if_neg (by omega),if_neg c1,if_neg c2,if_neg c3]);simp[Cu,Bz,Bq,hk]
    ·refine .inr (.inr (.inr (.inr (.inr ⟨hl1,hl3,a1',.inr (.inl ⟨a2,a3⟩),?_⟩))));simp[Cu,Bz,Bq,AZ,hl,a1,a3]
   ·refine .inr (.inr (.inr (.inr (.inr ⟨hl1,hl3,a1',.inl a2,?_⟩))));simp[Cu,Bz,Bq,AZ,hl,a1,a2]
theorem Lw(l x:Int)(h:l<1\/3<l)(w:World):Calls prog 124 #[.int .i64 l,.int .u64 x] w fun e w'=>e=.returned (Cq 4 0 0)/\Below w.heap.size w w':=by
 rcases h with h|h
 ·go_enter func124,ntmps124
  go_wp2
  exact bodyPost_ret (v:=.agg #[.int .i64 4,.int .i64 0,.int .i64 0]) (by simp[results,results124,go_sem]) rfl ⟨rfl,((Below.refl _ _).alloc (Nat.le_refl _) _).alloc (by simp) _⟩
 ·have h':¬l<1:=by omega
  go_enter func124,ntmps124
  go_wp2
  exact bodyPost_ret (v:=.agg #[.int .i64 4,.int .i64 0,.int .i64 0]) (by simp[results,results124,go_sem]) rfl ⟨rfl,((Below.refl _ _).alloc (Nat.le_refl _) _).alloc (by simp) _⟩
theorem MZ(l x:Int)(hl1:1<=l)(hl3:l<=3)(h0:0<=x)(h1:x<2 ^ 64)(a1:x%2=0)(w:World):Calls prog 124 #[.int .i64 l,.int .u64 x] w fun e w'=>e=.returned (Cq 0 0 0)/\Below w.heap.size w w':=by
 go_enter func124,ntmps124
 go_wp2
 exact bodyPost_ret (v:=.agg #[.int .i64 0,.int .i64 0,.int .i64 0]) (by simp[results,results124,go_sem]) rfl ⟨rfl,((Below.refl _ _).alloc (Nat.le_refl _) _).alloc (by simp) _⟩
theorem Jt(l x:Int)(hl:l=1\/l=2)(h0:0<=x)(h1:x<2 ^ 64)(a1:x%2=1)(a2:x/32%128=0)(a3:x/268435456=0)(a4:x/2%2=1)(a5:x/4%8=0)(w:World):Calls prog 124 #[.int .i64 l,.int .u64 x] w fun e w'=>e=.returned (Cq 1 (x/4096%65536) 0)/\Below w.heap.size w w':=by
 rcases hl with rfl|rfl;all_goals
  go_enter func124,ntmps124
  go_wp2
  exact bodyPost_ret (v:=.agg #[.int .i64 1,.int .i64 (x/4096%65536),.int .i64 0]) (by simp[results,results124,go_sem]) rfl ⟨rfl,((Below.refl _ _).alloc (Nat.le_refl _) _).alloc (by simp) _⟩
theorem JU(x:Int)(h0:0<=x)(h1:x<2 ^ 64)(a1:x%2=1)(a2:x/32%128=0)(a3:x/268435456=0)(a4:x/2%2=0)(a5:0<x/4%8)(a6:x/4096%65536%16=0)(w:World):Calls prog 124 #[.int .i64 2,.int .u64 x] w fun e w'=>e=.returned (Cq 2 (x/4096%65536) (x/4%8))/\Below w.heap.size w w':=by
 go_enter func124,ntmps124
 go_wp2
 exact bodyPost_ret (v:=.agg #[.int .i64 2,.int .i64 (x/4096%65536),.int .i64 (x/4%8)]) (by simp[results,results124,go_sem]) rfl ⟨rfl,((Below.refl _ _).alloc (Nat.le_refl _) _).alloc (by simp) _⟩
theorem Ku(x:Int)(h0:0<=x)(h1:x<2 ^ 64)(a1:x%2=1)(a2:x/32%128=0)(a3:x/268435456=0)(a4:x/2%2=1)(a5:0<x/4%8)(w:World):Calls prog 124 #[.int .i64 3,.int .u64 x] w fun e w'=>e=.returned (Cq 3 (x/4096%65536) (x/4%8))/\Below w.heap.size w w':=by
 go_enter func124,ntmps124
 go_wp2
 exact bodyPost_ret (v:=.agg #[.int .i64 3,.int .i64 (x/4096%65536),.int .i64 (x/4%8)]) (by simp[results,results124,go_sem]) rfl ⟨rfl,((Below.refl _ _).alloc (Nat.le_refl _) _).alloc (by simp) _⟩
set_option maxRecDepth 100000 in
theorem M6(l x:Int)(hl1:1<=l)(hl3:l<=3)(h0:0<=x)(h1:x<2 ^ 64)(a1:x%2=1)(hb:MB l x)(w:World):Calls prog 124 #[.int .i64 l,.int .u64 x] w fun e w'=>e=.returned (Cq 4 0 0)/\Below w.heap.size w w':=by
 have em:x/268435456%68719476736=x/268435456:=by omega
 rcases hb with a2|⟨a2,a3⟩|⟨a2,a3,hb⟩
 ·go_enter func124,ntmps124
  go_wp2
  exact bodyPost_ret (v:=.agg #[.int .i64 4,.int .i64 0,.int .i64 0]) (by simp[results,results124,go_sem]) rfl ⟨rfl,((Below.refl _ _).alloc (Nat.le_refl _) _).alloc (by simp) _⟩
 ·go_enter func124,ntmps124
  go_wp2
  exact bodyPost_ret (v:=.agg #[.int .i64 4,.int .i64 0,.int .i64 0]) (by simp[results,results124,go_sem]) rfl ⟨rfl,((Below.refl _ _).alloc (Nat.le_refl _) _).alloc (by simp) _⟩
 ·rcases hb with⟨rfl,b,c⟩|⟨rfl,b,c,d⟩|⟨rfl,b,c,d⟩|⟨rfl,b,c⟩|⟨rfl,b,c⟩|⟨rfl,b,c,d⟩|⟨rfl,b,c⟩|⟨rfl,b,c⟩|⟨rfl,b,c⟩|⟨rfl,b,c,d⟩|⟨rfl,b,c,d⟩;all_goals as_aux_lemma =>
   (go_enter func124,ntmps124);(go_wp2);exact bodyPost_ret (v:=.agg #[.int .i64 4,.int .i64 0,.int .i64 0]) (by simp[results,results124,go_sem]) rfl ⟨rfl,((Below.refl _ _).alloc (Nat.le_refl _) _).alloc (by simp) _⟩
theorem DH(l x:Int)(h0:0<=x)(h1:x<2 ^ 64)(w:World):Calls prog 124 #[.int .i64 l,.int .u64 x] w fun e w'=>e=.returned (Cu l x)/\Below w.heap.size w w':=by
 rcases Gc l x with⟨a,e⟩|⟨a,b,c,e⟩|⟨a,b,c,d,f,g,e⟩|⟨rfl,b,c,d,f,g,h,e⟩|⟨rfl,b,c,d,f,g,e⟩|⟨a,b,c,d,e⟩<;>rw[e]
 ·exact Lw l x a w
 ·exact MZ l x a b h0 h1 c w
 ·exact Jt l x a h0 h1 b c d f g w
 ·exact JU x h0 h1 b c d f g h w
 ·exact Ku x h0 h1 b c d f g w
 ·exact M6 l x a b h0 h1 c d w
end Go.Proofs.YtnmhkgmmpkjjeabGreat
