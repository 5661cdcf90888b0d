import Derived.Deep.OwnRows
import Derived.Deep.QuietTactic
import Derived.BigQuiet
import Derived.Test.YtnmhkgmmpkjjeabGreatE01
import Derived.Deep.AppendLies
import Derived.Deep.RegionHeld3
import Derived.Deep.DrawnRows
namespace Go.Proofs.YtnmhkgmmpkjjeabGreat
open ChangeShapes WideShapes ChangeAt RowKit Proofs.Tryz
set_option linter.all false
set_option maxRecDepth 100000
set_option maxHeartbeats 4000000
theorem GH:(prog.info? 46).map (fun i=>(i.zero,i.size,i.bytes))=some (some (.int .u64 0),1,8):=by kernel_rfl
def F5 (w:World) (g:Nat) (zs:List Int):Prop:=w.rowIs g 46 zs.length (fun i=>.int .u64 (zs.getD i 0))
theorem F5.cell{w:World}{g:Nat}{zs:List Int}(h:F5 w g zs){i:Nat}(hi:i<zs.length):w.cell? ⟨g,i,none⟩=some (.int .u64 (zs.getD i 0)):=World.rowIs.cell h hi
theorem F5.below{w w':World}{g B:Nat}{zs:List Int}(h:F5 w g zs)(hb:Below B w w')(hg:g<B):F5 w' g zs:=World.rowIs.of_block h (hb.block g hg)
theorem F5.lt{w:World}{g:Nat}{zs:List Int}(h:F5 w g zs):g<w.heap.size:=World.rowIs.lt h
theorem AS{B:Nat}{a w:World}(h:Below B a w)(n:Nat):Below B a (w.drewN n):=⟨h.os,h.tape,h.output,h.size,h.block⟩
def Ng (w:World) (v:Value) (zs:List Int):Prop :=
 ∃(a:Option Addr) (cap:Nat),v=.slice a zs.length cap/\(0<zs.length->∃b o,a=some ⟨b,o,none⟩/\b<w.heap.size/\∀i,i<zs.length->w.cell? ⟨b,o+i,none⟩=some (.int .u64 (zs.getD i 0)))
theorem NN(a:Option Addr)(n cap:Nat)(left:Int)(h1:n<=9223372036854775807)(h0:left=1048576)(w:World):Calls prog 85 #[.slice a n cap,.int .i64 left] w fun e w'=>e=.returned (.int .i64 (if (n:Int)<=1048576 then 1048576-n else -1))/\w'=w:=by
 subst h0;by_cases h:(n:Int)<=1048576
 ·rw[if_pos h];go_enter func85,ntmps85
  go_wp2
  go_ret;exact⟨rfl,rfl⟩
 ·rw[if_neg h];go_enter func85,ntmps85
  go_wp2
  go_ret;exact⟨rfl,rfl⟩
theorem KZ(a:Option Addr)(n cap:Nat)(h1:n<=9223372036854775807)(w:World):Calls prog 30 #[.agg #[.slice a n cap],.int .i64 1048576] w fun e w'=>e=.returned (.int .i64 (if (n:Int)<=1048576 then 1048576-n else -1))/\Below w.heap.size w w':=by
 have hs:=NN a n cap 1048576 h1 rfl;by_cases h:(n:Int)<=1048576
 ·rw[if_pos h] at hs ⊢;go_enter func30,ntmps30
  go_wp2_with (go_at_call 85;refine(hs _).mono ?_;rintro e w' ⟨rfl,rfl⟩)
  go_ret;exact⟨rfl,(Below.refl _ _).alloc (Nat.le_refl _) _⟩
 ·rw[if_neg h] at hs ⊢;go_enter func30,ntmps30
  go_wp2_with (go_at_call 85;refine(hs _).mono ?_;rintro e w' ⟨rfl,rfl⟩)
  go_ret;exact⟨rfl,(Below.refl _ _).alloc (Nat.le_refl _) _⟩
theorem L6(v:Value)(zs:List Int)(w:World)(hv:Ng w v zs)(hn:zs.length<=1048576):Calls prog 93 #[v] w fun e w'=>e=.returned (.slice (some ⟨w.heap.size,0,none⟩) zs.length zs.length)/\F5 w' w.heap.size zs/\Below w.heap.size w w':=by
 obtain⟨a,cap,rfl,ha⟩:=hv;have hmk:=run_make_row' (P:=prog) 22 46 (.int .u64 0) 8 underlying22 GH rfl .i64 .i64 zs.length (by omega) (by omega);go_enter func93,ntmps93
 go_wp2
 clear hmk;go_loopw [4] (fun i wr=>∃k:Nat,k<=zs.length/\i=.int .i64 k/\wr.rowIs w.heap.size 46 zs.length (fun j=>if j<k then .int .u64 (zs.getD j 0) else .int .u64 0)/\Below w.heap.size w wr) (fun i _=>zs.length-(intOf i).toNat)
 case atStart=>exact⟨0,Nat.zero_le _,rfl,(World.rowIs_made w (.int .u64 0) zs.length 46).congr (by intro i hi;simp),(Below.refl _ _).alloc (Nat.le_refl _) _⟩
 case round =>
  obtain⟨k,hk,rfl,hrow,hb⟩:=hrel;by_cases hlt:k<zs.length
  ·obtain⟨b,o,rfl,hbl,hc⟩:=ha (by omega);have hck:wr.cell? ⟨b,o+k,none⟩=some (.int .u64 (zs.getD k 0)):=(hb.cell hbl).trans (hc k hlt);have hfz:=hrow.frozen k;have hold:=hrow.cell hlt;clear hc ha;(go_wp2);go_roundw;case rel =>
    refine⟨k+1,by omega,by go_num,(hrow.set k _).congr ?_,hb.setCell (Nat.le_refl _) _⟩;intro j hj;by_cases e:j=k
    ·subst e;simp[List.getElem?_eq_getElem hj]
    ·simp[e,show (j<k+1)=(j<k) by simp;omega]
   case measure=>simp[intOf];omega
  ·clear ha;(go_wp2);go_ret;refine⟨rfl,hrow.congr ?_,hb⟩;intro j hj;rw[if_pos (by omega)]
theorem Ks(v:Value)(zs:List Int)(w:World)(hv:Ng w v zs)(hn:zs.length<=1048576):Calls prog 43 #[.agg #[v]] w fun e w'=>∃g,e=.returned (.agg #[.slice (some ⟨g,0,none⟩) zs.length zs.length])/\w.heap.size<=g/\F5 w' g zs/\Below w.heap.size w w':=by
 have hv':∀w1,Below w.heap.size w w1->Ng w1 v zs:=by
  intro w1 hb;obtain⟨a,cap,rfl,ha⟩:=hv;refine⟨a,cap,rfl,fun h0=>?_⟩;obtain⟨b,o,rfl,hbl,hc⟩:=ha h0;exact⟨b,o,rfl,Nat.lt_of_lt_of_le hbl hb.size,fun i hi=>(hb.cell hbl).trans (hc i hi)⟩
 obtain⟨a,cap,rfl,ha⟩:=hv;clear ha;go_enter func43,ntmps43
 go_wp2_with fail
 refine(L6 _ zs _ (hv' _ ?_) hn).mono ?_
 ·exact(((Below.refl _ _).alloc (Nat.le_refl _) _).alloc (by simp) _).alloc (by simp<;>omega) _
 rintro e w1 ⟨rfl,hrow,hb⟩;obtain⟨hc1,hf1⟩:(∀b o,b<w.heap.size+3->w1.cell? ⟨b,o,none⟩=(((w.alloc _).alloc _).alloc _).cell? ⟨b,o,none⟩)/\(∀b o,b<w.heap.size+3->w1.frozen? ⟨b,o,none⟩=(((w.alloc _).alloc _).alloc _).frozen? ⟨b,o,none⟩) :=
  ⟨fun b o h=>hb.cell (p:=⟨b,o,none⟩) (by simp;omega),fun b o h=>hb.frozen (p:=⟨b,o,none⟩) (by simp;omega)⟩
 have hz:w.heap.size+2<w1.heap.size:=by have:=hb.size;simp at this;omega
 have hl:=hrow.lt;simp at hl;have HR:Hid (F5 w1 _ zs):=hrow;clear hrow hv';go_wp2
 have hr:=HR.out;simp only[World.size_alloc] at hr;refine bodyPost_ret (v:=.agg #[.slice (some ⟨w.heap.size+1+1+1,0,none⟩) zs.length zs.length]) (by simp[results,results43,go_sem,hc1]) rfl ⟨_,rfl,by omega,?_,?_⟩
 ·exact World.rowIs.setOther (World.rowIs.setOther hr (by simp<;>omega) _) (by simp<;>omega) _
 ·exact((((((Below.refl _ _).alloc (Nat.le_refl _) _).alloc (by simp) _).alloc (by simp<;>omega) _).trans (hb.mono (by simp;omega))).setCell (by simp<;>omega) _).setCell (by simp) _
theorem FS(x:Int)(h0:0<=x)(h1:x<2 ^ 64)(w:World):Calls prog 150 #[.int .u64 x] w fun e w'=>e=.returned (.int .i64 (x/4096%65536))/\w'=w:=by
 have e1:=Me x h0 (by omega);have e2:x/4096%65536*4096/4096=x/4096%65536:=by omega
 go_enter func150,ntmps150
 go_wp2
 go_ret;exact⟨rfl,rfl⟩
theorem JR(x:Int)(h0:0<=x)(h1:x<2 ^ 64)(w:World):Calls prog 151 #[.int .u64 x] w fun e w'=>e=.returned (.int .i64 (x/4%8))/\w'=w:=by
 have e1:=FU x h0 (by omega);have e2:x/4%8*4/4=x/4%8:=by omega
 go_enter func151,ntmps151
 go_wp2
 go_ret;exact⟨rfl,rfl⟩
theorem JF(x:Int)(h0:0<=x)(h1:x<2 ^ 64)(a1:x%2=0)(w:World):Calls prog 149 #[.int .u64 x] w fun e w'=>e=.returned (.int .i64 0)/\w'=w:=by
 have e1:=F8 x h0 (by omega);go_enter func149,ntmps149
 go_wp2
 go_ret;exact⟨rfl,rfl⟩
theorem En(x:Int)(h0:0<=x)(h1:x<2 ^ 64)(a1:x%2=1)(a2:¬x/32%128=0\/¬x/268435456=0)(w:World):Calls prog 149 #[.int .u64 x] w fun e w'=>e=.returned (.int .i64 4)/\w'=w:=by
 have e1:=F8 x h0 (by omega);have e2:(bits .andNot .u64 x 268431391==0)=false:=by
  rw[CT x h0 (by omega)];simp only[beq_eq_false_iff_ne];omega
 have e3:(bits .andNot .u64 x 268431391 != 0)=true:=by simp[bne,e2]
 clear a2 e2;go_enter func149,ntmps149
 go_wp2
 go_ret;exact⟨rfl,rfl⟩
theorem Et(x:Int)(h0:0<=x)(h1:x<2 ^ 64)(a1:x%2=1)(a2:x/32%128=0)(a3:x/268435456=0)(b:x/2%2=1)(c:x/4%8=0)(w:World):Calls prog 149 #[.int .u64 x] w fun e w'=>e=.returned (.int .i64 1)/\w'=w:=by
 have e1:=F8 x h0 (by omega);have e2:=IY x h0 (by omega);have e3:=FU x h0 (by omega);have e4:=CT x h0 (by omega);go_enter func149,ntmps149
 go_wp2
 go_ret;exact⟨rfl,rfl⟩
theorem EU(x:Int)(h0:0<=x)(h1:x<2 ^ 64)(a1:x%2=1)(a2:x/32%128=0)(a3:x/268435456=0)(b:x/2%2=1)(c:0<x/4%8)(w:World):Calls prog 149 #[.int .u64 x] w fun e w'=>e=.returned (.int .i64 3)/\w'=w:=by
 have e1:=F8 x h0 (by omega);have e2:=IY x h0 (by omega);have e3:=FU x h0 (by omega);have e4:=CT x h0 (by omega);have c1:(x/4%8*4 != 0)=true:=by simp only[bne_iff_ne];omega
 go_enter func149,ntmps149
 go_wp2
 go_ret;exact⟨rfl,rfl⟩
theorem Dj(x:Int)(h0:0<=x)(h1:x<2 ^ 64)(a1:x%2=1)(a2:x/32%128=0)(a3:x/268435456=0)(b:x/2%2=0)(c:0<x/4%8)(d:x/4096%65536%16=0)(w:World):Calls prog 149 #[.int .u64 x] w fun e w'=>e=.returned (.int .i64 2)/\w'=w:=by
 have e1:=F8 x h0 (by omega);have e2:=IY x h0 (by omega);have e3:=FU x h0 (by omega);have e4:=CT x h0 (by omega);have c1:(x/4%8*4 != 0)=true:=by simp only[bne_iff_ne];omega
 have d1:(x/4096%16==0)=true:=by simp only[beq_iff_eq];omega
 go_enter func149,ntmps149
 go_wp2_with (go_at_call 150;refine(FS _ h0 h1 _).mono ?_;rintro e w' ⟨rfl,rfl⟩)
 go_ret;exact⟨rfl,rfl⟩
theorem F7(x:Int)(h0:0<=x)(h1:x<2 ^ 64)(a1:x%2=1)(a2:x/32%128=0)(a3:x/268435456=0)(b:x/2%2=0)(c:0<x/4%8)(d:0<x/4096%65536%16)(w:World):Calls prog 149 #[.int .u64 x] w fun e w'=>e=.returned (.int .i64 4)/\w'=w:=by
 have e1:=F8 x h0 (by omega);have e2:=IY x h0 (by omega);have e3:=FU x h0 (by omega);have e4:=CT x h0 (by omega);have c1:(x/4%8*4 != 0)=true:=by simp only[bne_iff_ne];omega
 have d1:(x/4096%16==0)=false:=by simp only[beq_eq_false_iff_ne];omega
 go_enter func149,ntmps149
 go_wp2_with (go_at_call 150;refine(FS _ h0 h1 _).mono ?_;rintro e w' ⟨rfl,rfl⟩)
 go_ret;exact⟨rfl,rfl⟩
theorem EO(x:Int)(h0:0<=x)(h1:x<2 ^ 64)(a1:x%2=1)(a2:x/32%128=0)(a3:x/268435456=0)(b:x/2%2=0)(c:x/4%8=0)(w:World):Calls prog 149 #[.int .u64 x] w fun e w'=>e=.returned (.int .i64 4)/\w'=w:=by
 have e1:=F8 x h0 (by omega);have e2:=IY x h0 (by omega);have e3:=FU x h0 (by omega);have e4:=CT x h0 (by omega);go_enter func149,ntmps149
 go_wp2
 go_ret;exact⟨rfl,rfl⟩
theorem MK(l f:Int)(h:l<1\/3<l)(w:World):Calls prog 148 #[.int .i64 l,.int .i64 f] w fun e w'=>e=.returned (.int .i64 4)/\w'=w:=by
 rcases h with h|h;all_goals
  go_enter func148,ntmps148
  go_wp2
  go_ret
  exact⟨rfl,rfl⟩
def Gs (l f:Int):Int:=if f=0 then 0 else if f=1/\l<3 then 1 else if f=2/\l=2 then 2 else if f=3/\l=3 then 3 else 4
theorem KR(l f:Int)(hl:l=1\/l=2\/l=3)(hf:f=0\/f=1\/f=2\/f=3\/f=4)(w:World):Calls prog 148 #[.int .i64 l,.int .i64 f] w fun e w'=>e=.returned (.int .i64 (Gs l f))/\w'=w:=by
 rcases hl with rfl|rfl|rfl<;>rcases hf with rfl|rfl|rfl|rfl|rfl;all_goals as_aux_lemma =>
  go_enter func148,ntmps148
  go_wp2
  go_ret;exact⟨rfl,rfl⟩
theorem Lz(l x:Int)(h:l<1\/3<l)(h0:0<=x)(h1:x<2 ^ 64)(f:Int)(hf:∀w,Calls prog 149 #[.int .u64 x] w fun e w'=>e=.returned (.int .i64 f)/\w'=w)(w:World):Calls prog 133 #[.int .i64 l,.int .u64 x] w fun e w'=>e=.returned (Cq 4 0 0)/\Below w.heap.size w w':=by
 go_enter func133,ntmps133
 go_wp2_with (first
  | (go_at_call 149;refine(hf _).mono ?_;rintro e w' ⟨rfl,rfl⟩)
  | (go_at_call 148;refine(MK _ _ h _).mono ?_;rintro e w' ⟨rfl,rfl⟩))
 exact bodyPost_ret (v:=.agg #[.int .i64 4,.int .i64 0,.int .i64 0]) (by simp[results,results133,go_sem]) rfl ⟨rfl,(Below.refl _ _).alloc (Nat.le_refl _) _⟩
theorem BR(l x k:Int)(hl:l=1\/l=2\/l=3)(h0:0<=x)(h1:x<2 ^ 64)(f:Int)(hf5:f=0\/f=1\/f=2\/f=3\/f=4)(hk:Gs l f=k)(hk4:k=0\/k=4)(hf:∀w,Calls prog 149 #[.int .u64 x] w fun e w'=>e=.returned (.int .i64 f)/\w'=w)(w:World):Calls prog 133 #[.int .i64 l,.int .u64 x] w fun e w'=>e=.returned (Cq k 0 0)/\Below w.heap.size w w':=by
 have hc:∀w,Calls prog 148 #[.int .i64 l,.int .i64 f] w fun e w'=>e=.returned (.int .i64 k)/\w'=w:=by
  intro w;rw[<- hk];exact KR l f hl hf5 w
 clear hl hf5 hk;rcases hk4 with rfl|rfl
 ·go_enter func133,ntmps133
  go_wp2_with (first
   | (go_at_call 149;refine(hf _).mono ?_;rintro e w' ⟨rfl,rfl⟩)
   | (go_at_call 148;refine(hc _).mono ?_;rintro e w' ⟨rfl,rfl⟩))
  exact bodyPost_ret (v:=.agg #[.int .i64 0,.int .i64 0,.int .i64 0]) (by simp[results,results133,go_sem]) rfl ⟨rfl,(Below.refl _ _).alloc (Nat.le_refl _) _⟩
 ·go_enter func133,ntmps133
  go_wp2_with (first
   | (go_at_call 149;refine(hf _).mono ?_;rintro e w' ⟨rfl,rfl⟩)
   | (go_at_call 148;refine(hc _).mono ?_;rintro e w' ⟨rfl,rfl⟩))
  exact bodyPost_ret (v:=.agg #[.int .i64 4,.int .i64 0,.int .i64 0]) (by simp[results,results133,go_sem]) rfl ⟨rfl,(Below.refl _ _).alloc (Nat.le_refl _) _⟩
theorem FV(l x k:Int)(hl:l=1\/l=2\/l=3)(h0:0<=x)(h1:x<2 ^ 64)(f:Int)(hf5:f=0\/f=1\/f=2\/f=3\/f=4)(hk:Gs l f=k)(hk4:k=1\/k=2\/k=3)(hf:∀w,Calls prog 149 #[.int .u64 x] w fun e w'=>e=.returned (.int .i64 f)/\w'=w)(w:World):Calls prog 133 #[.int .i64 l,.int .u64 x] w fun e w'=>e=.returned (Cq k (x/4096%65536) (x/4%8))/\Below w.heap.size w w':=by
 have hc:∀w,Calls prog 148 #[.int .i64 l,.int .i64 f] w fun e w'=>e=.returned (.int .i64 k)/\w'=w:=by
  intro w;rw[<- hk];exact KR l f hl hf5 w
 clear hl hf5 hk;rcases hk4 with rfl|rfl|rfl;all_goals
  go_enter func133,ntmps133
  go_wp2_with (first
   | (go_at_call 149;refine(hf _).mono ?_;rintro e w' ⟨rfl,rfl⟩)
   | (go_at_call 148;refine(hc _).mono ?_;rintro e w' ⟨rfl,rfl⟩)
   | (go_at_call 150;refine(FS _ h0 h1 _).mono ?_;rintro e w' ⟨rfl,rfl⟩)
   | (go_at_call 151;refine(JR _ h0 h1 _).mono ?_;rintro e w' ⟨rfl,rfl⟩))
  exact bodyPost_ret (v:=.agg #[_,.int .i64 (x/4096%65536),.int .i64 (x/4%8)]) (by simp[results,results133,go_sem]) rfl ⟨rfl,(Below.refl _ _).alloc (Nat.le_refl _) _⟩
theorem EF(l x:Int)(h0:0<=x)(h1:x<2 ^ 64)(w:World):Calls prog 133 #[.int .i64 l,.int .u64 x] w fun e w'=>e=.returned (Cu l x)/\Below w.heap.size w w':=by
 rcases Gc l x with⟨a,e⟩|⟨a,b,c,e⟩|⟨a,b,c,d,f,g,e⟩|⟨rfl,b,c,d,f,g,h,e⟩|⟨rfl,b,c,d,f,g,e⟩|⟨a,b,c,d,e⟩<;>rw[e]
 ·have hx:∃f,∀w,Calls prog 149 #[.int .u64 x] w fun e w'=>e=.returned (.int .i64 f)/\w'=w:=by
   by_cases a1:x%2=0
   ·exact⟨0,JF x h0 h1 a1⟩
   ·by_cases a2:x/32%128=0/\x/268435456=0
    ·by_cases c:x/4%8=0<;>by_cases b:x/2%2=0
     ·exact⟨4,EO x h0 h1 (by omega) a2.1 a2.2 b c⟩
     ·exact⟨1,Et x h0 h1 (by omega) a2.1 a2.2 (by omega) c⟩
     ·by_cases d:x/4096%65536%16=0
      ·exact⟨2,Dj x h0 h1 (by omega) a2.1 a2.2 b (by omega) d⟩
      ·exact⟨4,F7 x h0 h1 (by omega) a2.1 a2.2 b (by omega) (by omega)⟩
     ·exact⟨3,EU x h0 h1 (by omega) a2.1 a2.2 (by omega) (by omega)⟩
    ·exact⟨4,En x h0 h1 (by omega) (by omega)⟩
  obtain⟨f,hf⟩:=hx;exact Lz l x a h0 h1 f hf w
 ·exact BR l x 0 (by omega) h0 h1 0 (by omega) (by simp[Gs]) (by omega) (JF x h0 h1 c) w
 ·have:=FV l x 1 (by omega) h0 h1 1 (by omega) (by simp[Gs];omega) (by omega) (Et x h0 h1 b c d f g) w;rw[g] at this;exact this
 ·exact FV 2 x 2 (by omega) h0 h1 2 (by omega) (by simp[Gs]) (by omega) (Dj x h0 h1 b c d f g h) w
 ·exact FV 3 x 3 (by omega) h0 h1 3 (by omega) (by simp[Gs]) (by omega) (EU x h0 h1 b c d f g) w
 ·have hl:l=1\/l=2\/l=3:=by omega
  rcases d with d|⟨d,d'⟩|⟨d,d',hb⟩
  ·exact BR l x 4 hl h0 h1 4 (by omega) (by simp[Gs]) (by omega) (En x h0 h1 c (.inl d)) w
  ·exact BR l x 4 hl h0 h1 4 (by omega) (by simp[Gs]) (by omega) (En x h0 h1 c (.inr d')) w
  ·rcases hb with⟨rfl,p,q⟩|⟨rfl,p,q,r⟩|⟨rfl,p,q,r⟩|⟨rfl,p,q⟩|⟨rfl,p,q⟩|⟨rfl,p,q,r⟩|⟨rfl,p,q⟩|⟨rfl,p,q⟩|⟨rfl,p,q⟩|⟨rfl,p,q,r⟩|⟨rfl,p,q,r⟩
   ·exact BR 1 x 4 hl h0 h1 4 (by omega) (by simp[Gs]) (by omega) (EO x h0 h1 c d d' p q) w
   ·exact BR 1 x 4 hl h0 h1 2 (by omega) (by simp[Gs]) (by omega) (Dj x h0 h1 c d d' p q r) w
   ·exact BR 1 x 4 hl h0 h1 4 (by omega) (by simp[Gs]) (by omega) (F7 x h0 h1 c d d' p q r) w
   ·exact BR 1 x 4 hl h0 h1 3 (by omega) (by simp[Gs]) (by omega) (EU x h0 h1 c d d' p q) w
   ·exact BR 2 x 4 hl h0 h1 4 (by omega) (by simp[Gs]) (by omega) (EO x h0 h1 c d d' p q) w
   ·exact BR 2 x 4 hl h0 h1 4 (by omega) (by simp[Gs]) (by omega) (F7 x h0 h1 c d d' p q r) w
   ·exact BR 2 x 4 hl h0 h1 3 (by omega) (by simp[Gs]) (by omega) (EU x h0 h1 c d d' p q) w
   ·exact BR 3 x 4 hl h0 h1 1 (by omega) (by simp[Gs]) (by omega) (Et x h0 h1 c d d' p q) w
   ·exact BR 3 x 4 hl h0 h1 4 (by omega) (by simp[Gs]) (by omega) (EO x h0 h1 c d d' p q) w
   ·exact BR 3 x 4 hl h0 h1 2 (by omega) (by simp[Gs]) (by omega) (Dj x h0 h1 c d d' p q r) w
   ·exact BR 3 x 4 hl h0 h1 4 (by omega) (by simp[Gs]) (by omega) (F7 x h0 h1 c d d' p q r) w
theorem GN{W w1:World}(hb:Below W.heap.size W w1):(∀b o,b<W.heap.size->w1.cell? ⟨b,o,none⟩=W.cell? ⟨b,o,none⟩)/\(∀b o,b<W.heap.size->w1.frozen? ⟨b,o,none⟩=W.frozen? ⟨b,o,none⟩) :=
 ⟨fun b o h=>hb.cell (p:=⟨b,o,none⟩) h,fun b o h=>hb.frozen (p:=⟨b,o,none⟩) h⟩
section
attribute [local go_sem ↓] wp_at_zero wp_at_succ
structure P3 where
 fr:Int
 lv:Int
 pg:Int
def P3.val (p:P3):Value:=.agg #[.int .i64 p.fr,.int .i64 p.lv,.int .i64 p.pg]
def Ch (ps:List P3):List Value:=ps.flatMap fun p=>[.int .i64 p.fr,.int .i64 p.lv,.int .i64 p.pg]
def BQ (ps:List P3) (i:Nat):P3:=ps.getD i ⟨0,0,0⟩
theorem DX(a b:List P3):Ch (a++b)=Ch a++Ch b:=by simp[Ch]
theorem Kd(ps:List P3):∀i,i<ps.length->(Ch ps)[i*3]?=some (.int .i64 (BQ ps i).fr)/\(Ch ps)[i*3+1]?=some (.int .i64 (BQ ps i).lv)/\(Ch ps)[i*3+2]?=some (.int .i64 (BQ ps i).pg):=by
 induction ps with
 | nil=>intro i hi;simp at hi
 | cons p r ih =>
  intro i hi;cases i with
  | zero=>exact⟨rfl,rfl,rfl⟩
  | succ i =>
   have h:=ih i (by simpa using hi);have e:Ch (p :: r)=[.int .i64 p.fr,.int .i64 p.lv,.int .i64 p.pg]++Ch r:=rfl;(have e2:BQ (p :: r) (i+1)=BQ r i:=by simp[BQ]);rw[e,e2];refine⟨?_,?_,?_⟩
   ·rw[List.getElem?_append_right (by simp;omega),show (i+1)*3-List.length [Value.int .i64 p.fr,.int .i64 p.lv,.int .i64 p.pg]=i*3 by simp;omega];exact h.1
   ·rw[List.getElem?_append_right (by simp;omega),show (i+1)*3+1-List.length [Value.int .i64 p.fr,.int .i64 p.lv,.int .i64 p.pg]=i*3+1 by simp;omega];exact h.2.1
   ·rw[List.getElem?_append_right (by simp;omega),show (i+1)*3+2-List.length [Value.int .i64 p.fr,.int .i64 p.lv,.int .i64 p.pg]=i*3+2 by simp;omega];exact h.2.2
def BK (w:World) (base:Nat) (v:Value) (ps:List P3):Prop:=w.ownsRow base 172 3 v ps.length (Ch ps)
theorem BK.form{w:World}{base:Nat}{v:Value}{ps:List P3}(h:BK w base v ps):∃a cap,v=.slice a ps.length cap/\(0<ps.length->∃g N f,a=some ⟨g,0,none⟩/\base<=g/\w.rowIs g 172 N f/\ps.length*3<=N/\∀i,i<ps.length->f (i*3)=.int .i64 (BQ ps i).fr/\f (i*3+1)=.int .i64 (BQ ps i).lv/\f (i*3+2)=.int .i64 (BQ ps i).pg):=by
 rcases h.2 with⟨rfl,h0⟩|⟨g,cap,cur,rfl,hb,hg,hn,hm,hs,ht⟩
 ·rw[h0];exact⟨none,0,rfl,fun h=>absurd h (by omega)⟩
 ·refine⟨_,cap,rfl,fun _=>⟨g,cur.size,fun i=>cur.getD i (.bool false),rfl,hb,⟨cur,hg,rfl,fun i hi=>by simp[hi]⟩,by rw[hs];omega,fun i hi=>?_⟩⟩;have hc:∀j u,j<ps.length*3->(Ch ps)[j]?=some u->cur.getD j (.bool false)=u:=by
   intro j u hj hu;rw[<- ht,List.getElem?_take,if_pos hj] at hu;simp at hu;simp[Array.getD_eq_getD_getElem?,hu]
  obtain⟨a,b,c⟩:=Kd ps i hi;exact⟨hc _ _ (by omega) a,hc _ _ (by omega) b,hc _ _ (by omega) c⟩
theorem Ib{w w':World}(h:Below w.heap.size w w'):w.grownBy w' none:=⟨h.os,h.tape,h.output,h.size,fun k hk _=>h.block k hk⟩
theorem BK.below{w w':World}{base:Nat}{v:Value}{ps:List P3}(h:BK w base v ps)(hb:Below w.heap.size w w'):BK w' base v ps :=
 World.ownsRow.kept h (Ib hb) (by cases hv:v.ownBlock<;>simp)
theorem BK.rebase{w:World}{base base':Nat}{v:Value}{ps:List P3}(h:BK w base v ps)(hb:base'<=base):BK w base' v ps:=by
 refine⟨h.1,?_⟩;rcases h.2 with hh|⟨g,cap,cur,e,hg,r⟩
 ·exact .inl hh
 ·exact .inr ⟨g,cap,cur,e,Nat.le_trans hb hg,r⟩
theorem ES{w:World}{b c:Nat}{a:Option Addr}{ps:List P3}(h:BK w b (.slice a ps.length c) ps):∃g,(0<ps.length->a=some ⟨g,0,none⟩/\g<w.heap.size)/\∀k F L P,k<ps.length->BQ ps k=⟨F,L,P⟩->∀wX,Below w.heap.size w wX->wX.cell? ⟨g,k*3,none⟩=some (.int .i64 F)/\wX.cell? ⟨g,k*3+1,none⟩=some (.int .i64 L)/\wX.cell? ⟨g,k*3+2,none⟩=some (.int .i64 P):=by
 obtain⟨a',c',e,hf⟩:=h.form;simp only[Value.slice.injEq] at e;obtain⟨rfl,_,_⟩:=e;by_cases h0:0<ps.length
 ·obtain⟨g,N,f,rfl,_,hr,hN,hc⟩:=hf h0;refine⟨g,fun _=>⟨rfl,hr.lt⟩,fun k F L P hk he wX hX=>?_⟩;have hr1:wX.rowIs g 172 N f:=hr.of_block (hX.block g hr.lt);obtain⟨x0,x1,x2⟩:=hc k hk;rw[he] at x0 x1 x2;exact⟨(hr1.cell (by omega)).trans (congrArg some x0),(hr1.cell (by omega)).trans (congrArg some x1),(hr1.cell (by omega)).trans (congrArg some x2)⟩
 ·exact⟨0,fun h=>absurd h h0,fun k F L P hk=>absurd hk (by omega)⟩
end
def Ab (l:Int):Int:=if l=1 then 256 else if l=2 then 16 else 1
theorem Ek(l:Int):0<=Ab l/\Ab l<=256:=by
 unfold Ab;by_cases a:l=1<;>by_cases b:l=2<;>simp[a,b]
def Af (zs:List Int) (f:Int) (i:Nat):Int:=zs.getD ((f*16).toNat+i) 0
def Ea (zs:List Int) (n:Int) (p:P3) (i:Nat):Bool:=decide (AZ p.lv (Af zs p.fr i)=1)&&decide (Bz p.lv (Af zs p.fr i)<n)
def under (zs:List Int) (p:P3) (i:Nat):P3:=⟨Bz p.lv (Af zs p.fr i),p.lv+1,p.pg+i*Ab p.lv⟩
def Ak (zs:List Int) (n:Int) (rec:P3->List P3) (p:P3) (k:Nat):List P3:=p :: (List.range k).flatMap fun i=>if Ea zs n p i then rec (under zs p i) else []
def Bv (zs:List Int) (n:Int):Nat->P3->List P3
 | 0,p=>[p]
 | d+1,p=>Ak zs n (Bv zs n d) p 16
def NX:Nat->Nat
 | 0=>1
 | d+1=>1+16*NX d
theorem GE(zs:List Int)(n:Int)(rec:P3->List P3)(p:P3):Ak zs n rec p 0=[p]:=rfl
theorem El(zs:List Int)(n:Int)(rec:P3->List P3)(p:P3)(k:Nat):Ak zs n rec p (k+1)=Ak zs n rec p k++(if Ea zs n p k then rec (under zs p k) else []):=by
 simp[Ak,List.range_succ]
theorem D0(zs:List Int)(n:Int)(rec:P3->List P3)(p:P3)(B:Nat)(h:∀q,(rec q).length<=B):∀k,(Ak zs n rec p k).length<=1+k*B
 | 0=>by simp[Ak]
 | k+1=>by
  rw[El,List.length_append];have:=D0 zs n rec p B h k;have h2:(if Ea zs n p k then rec (under zs p k) else []).length<=B:=by split<;>simp[h]
  rw[Nat.add_mul];omega
theorem Co(zs:List Int)(n:Int):∀d p,(Bv zs n d p).length<=NX d
 | 0,p=>by simp[Bv,NX]
 | d+1,p=>D0 zs n _ p (NX d) (Co zs n d) 16
def BS (m:Nat):Int:=if m<16\/8192<m\/¬m%16=0 then 0 else (m/16:Nat)
theorem Cd(m:Nat):BS m<=512:=by unfold BS;split<;>omega
theorem BP(m:Nat)(h:BS m≠0):BS m*16=m/\1<=BS m:=by unfold BS at h ⊢;split<;>simp_all<;>omega
theorem Cp(l x:Int):0<=Bz l x/\Bz l x<65536:=by unfold Bz;split<;>omega
def Ep (zs:List Int) (n:Int) (p:P3) (i:Nat):Bool:=!(decide (AZ p.lv (Af zs p.fr i)=4)||(decide (AZ p.lv (Af zs p.fr i)=1)&&decide (n<=Bz p.lv (Af zs p.fr i))))
def IA (zs:List Int) (n:Int) (p:P3):Bool:=(List.range 16).all (Ep zs n p)
def GR (ps:List P3) (i:Nat):Bool:=(List.range i).all fun j=>!decide ((BQ ps i).fr=(BQ ps j).fr)
def Cl (zs:List Int) (n:Int) (ps:List P3) (k:Nat):Bool:=(List.range k).all fun i=>GR ps i&&IA zs n (BQ ps i)
end Go.Proofs.YtnmhkgmmpkjjeabGreat
