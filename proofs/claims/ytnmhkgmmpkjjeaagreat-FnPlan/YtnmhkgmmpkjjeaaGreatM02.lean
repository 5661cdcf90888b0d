import Derived.Test.YtnmhkgmmpkjjeaaGreatM01
import Derived.Outline
namespace Go.Proofs.YtnmhkgmmpkjjeaaGreat
open ChangeShapes WideShapes ChangeAt RowKit Proofs.Tryz
set_option linter.all false
set_option maxRecDepth 100000
set_option maxHeartbeats 4000000
section
attribute [local go_sem ↓] wp_at_zero wp_at_succ
structure P3 where
 fr:Int
 lv:Int
 pg:Int
def DJ (ps:List P3):List Value:=ps.flatMap fun p=>[.int .i64 p.fr,.int .i64 p.lv,.int .i64 p.pg]
def Aq (ps:List P3) (i:Nat):P3:=ps.getD i ⟨0,0,0⟩
theorem EY(a b:List P3):DJ (a++b)=DJ a++DJ b:=by simp[DJ]
theorem Sk(ps:List P3):∀i,i<ps.length->(DJ ps)[i*3]?=some (.int .i64 (Aq ps i).fr)/\(DJ ps)[i*3+1]?=some (.int .i64 (Aq ps i).lv)/\(DJ ps)[i*3+2]?=some (.int .i64 (Aq ps i).pg):=by
 induction ps with
 | nil=>intro i hi;simp at hi
 | cons p r ih =>
  intro i hi;cases i with
  | zero=>exact⟨rfl,rfl,rfl⟩
  | succ i =>
   have h:=ih i (by simpa using hi);have e:DJ (p :: r)=[.int .i64 p.fr,.int .i64 p.lv,.int .i64 p.pg]++DJ r:=rfl;(have e2:Aq (p :: r) (i+1)=Aq r i:=by simp[Aq]);rw[e,e2];refine⟨?_,?_,?_⟩
   ·rw[List.getElem?_append_right (by simp;omega),show (i+1)*3-List.length [Value.int .i64 p.fr,.int .i64 p.lv,.int .i64 p.pg]=i*3 by simp;omega];exact h.1
   ·rw[List.getElem?_append_right (by simp;omega),show (i+1)*3+1-List.length [Value.int .i64 p.fr,.int .i64 p.lv,.int .i64 p.pg]=i*3+1 by simp;omega];exact h.2.1
   ·rw[List.getElem?_append_right (by simp;omega),show (i+1)*3+2-List.length [Value.int .i64 p.fr,.int .i64 p.lv,.int .i64 p.pg]=i*3+2 by simp;omega];exact h.2.2
def BE (w:World) (base:Nat) (v:Value) (ps:List P3):Prop:=w.ownsRow base 67 3 v ps.length (DJ ps)
theorem BE.form{w:World}{base:Nat}{v:Value}{ps:List P3}(h:BE w base v ps):∃a cap,v=.slice a ps.length cap/\(0<ps.length->∃g N f,a=some ⟨g,0,none⟩/\base<=g/\w.rowIs g 67 N f/\ps.length*3<=N/\∀i,i<ps.length->f (i*3)=.int .i64 (Aq ps i).fr/\f (i*3+1)=.int .i64 (Aq ps i).lv/\f (i*3+2)=.int .i64 (Aq ps i).pg):=by
 rcases h.2 with⟨rfl,h0⟩|⟨g,cap,cur,rfl,hb,hg,hn,hm,hs,ht⟩
 ·rw[h0];exact⟨none,0,rfl,fun h=>absurd h (by omega)⟩
 ·refine⟨_,cap,rfl,fun _=>⟨g,cur.size,fun i=>cur.getD i (.bool false),rfl,hb,⟨cur,hg,rfl,fun i hi=>by simp[hi]⟩,by rw[hs];omega,fun i hi=>?_⟩⟩;have hc:∀j u,j<ps.length*3->(DJ ps)[j]?=some u->cur.getD j (.bool false)=u:=by
   intro j u hj hu;rw[<- ht,List.getElem?_take,if_pos hj] at hu;simp at hu;simp[Array.getD_eq_getD_getElem?,hu]
  obtain⟨a,b,c⟩:=Sk ps i hi;exact⟨hc _ _ (by omega) a,hc _ _ (by omega) b,hc _ _ (by omega) c⟩
theorem KC{w w':World}(h:Bl w w'):w.grownBy w' none:=⟨h.os,h.tape,h.output,h.size,fun k hk _=>h.block k hk⟩
theorem BE.below{w w':World}{base:Nat}{v:Value}{ps:List P3}(h:BE w base v ps)(hb:Bl w w'):BE w' base v ps :=
 World.ownsRow.kept h (KC hb) (by cases hv:v.ownBlock<;>simp)
theorem BE.rebase{w:World}{base base':Nat}{v:Value}{ps:List P3}(h:BE w base v ps)(hb:base'<=base):BE w base' v ps:=by
 refine⟨h.1,?_⟩;rcases h.2 with hh|⟨g,cap,cur,e,hg,r⟩
 ·exact .inl hh
 ·exact .inr ⟨g,cap,cur,e,Nat.le_trans hb hg,r⟩
theorem Dg{w:World}{b c:Nat}{a:Option Addr}{ps:List P3}(h:BE w b (.slice a ps.length c) ps):∃g,(0<ps.length->a=some ⟨g,0,none⟩/\g<w.heap.size)/\∀k F L P,k<ps.length->Aq ps k=⟨F,L,P⟩->∀wX,Bl w wX->wX.cell? ⟨g,k*3,none⟩=some (.int .i64 F)/\wX.cell? ⟨g,k*3+1,none⟩=some (.int .i64 L)/\wX.cell? ⟨g,k*3+2,none⟩=some (.int .i64 P):=by
 obtain⟨a',c',e,hf⟩:=h.form;simp only[Value.slice.injEq] at e;obtain⟨rfl,_,_⟩:=e;by_cases h0:0<ps.length
 ·obtain⟨g,N,f,rfl,_,hr,hN,hc⟩:=hf h0;refine⟨g,fun _=>⟨rfl,hr.lt⟩,fun k F L P hk he wX hX=>?_⟩;have hr1:wX.rowIs g 67 N f:=hr.of_block (hX.block g hr.lt);obtain⟨x0,x1,x2⟩:=hc k hk;rw[he] at x0 x1 x2;exact⟨(hr1.cell (by omega)).trans (congrArg some x0),(hr1.cell (by omega)).trans (congrArg some x1),(hr1.cell (by omega)).trans (congrArg some x2)⟩
 ·exact⟨0,fun h=>absurd h h0,fun k F L P hk=>absurd hk (by omega)⟩
end
theorem Jg(x:Int)(h0:0<=x)(h1:x<2 ^ 64)(w:World):Calls prog 202 #[.int .u64 x] w fun e w'=>e=.returned (.int .i64 (x/4096%65536))/\w'=w:=by
 have e1:=Wf x h0 (by omega);have e2:x/4096%65536*4096/4096=x/4096%65536:=by omega
 go_enter func202,ntmps202
 go_wp2
 go_ret;exact⟨rfl,rfl⟩
theorem QY(x:Int)(h0:0<=x)(h1:x<2 ^ 64)(w:World):Calls prog 203 #[.int .u64 x] w fun e w'=>e=.returned (.int .i64 (x/4%8))/\w'=w:=by
 have e1:=Jl x h0 (by omega);have e2:x/4%8*4/4=x/4%8:=by omega
 go_enter func203,ntmps203
 go_wp2
 go_ret;exact⟨rfl,rfl⟩
theorem Pw(x:Int)(h0:0<=x)(h1:x<2 ^ 64)(a1:x%2=0)(w:World):Calls prog 201 #[.int .u64 x] w fun e w'=>e=.returned (.int .i64 0)/\w'=w:=by
 have e1:=IA x h0 (by omega);go_enter func201,ntmps201
 go_wp2
 go_ret;exact⟨rfl,rfl⟩
theorem IK(x:Int)(h0:0<=x)(h1:x<2 ^ 64)(a1:x%2=1)(a2:¬x/32%128=0\/¬x/268435456=0)(w:World):Calls prog 201 #[.int .u64 x] w fun e w'=>e=.returned (.int .i64 4)/\w'=w:=by
 have e1:=IA x h0 (by omega);have e2:(bits .andNot .u64 x 268431391==0)=false:=by
  rw[Dc x h0 (by omega)];simp only[beq_eq_false_iff_ne];omega
 have e3:(bits .andNot .u64 x 268431391 != 0)=true:=by simp[bne,e2]
 clear a2 e2;go_enter func201,ntmps201
 go_wp2
 go_ret;exact⟨rfl,rfl⟩
theorem IL(x:Int)(h0:0<=x)(h1:x<2 ^ 64)(a1:x%2=1)(a2:x/32%128=0)(a3:x/268435456=0)(b:x/2%2=1)(c:x/4%8=0)(w:World):Calls prog 201 #[.int .u64 x] w fun e w'=>e=.returned (.int .i64 1)/\w'=w:=by
 have e1:=IA x h0 (by omega);have e2:=Ph x h0 (by omega);have e3:=Jl x h0 (by omega);have e4:=Dc x h0 (by omega);go_enter func201,ntmps201
 go_wp2
 go_ret;exact⟨rfl,rfl⟩
theorem Hp(x:Int)(h0:0<=x)(h1:x<2 ^ 64)(a1:x%2=1)(a2:x/32%128=0)(a3:x/268435456=0)(b:x/2%2=1)(c:0<x/4%8)(w:World):Calls prog 201 #[.int .u64 x] w fun e w'=>e=.returned (.int .i64 3)/\w'=w:=by
 have e1:=IA x h0 (by omega);have e2:=Ph x h0 (by omega);have e3:=Jl x h0 (by omega);have e4:=Dc x h0 (by omega);have c1:(x/4%8*4 != 0)=true:=by simp only[bne_iff_ne];omega
 go_enter func201,ntmps201
 go_wp2
 go_ret;exact⟨rfl,rfl⟩
theorem GM(x:Int)(h0:0<=x)(h1:x<2 ^ 64)(a1:x%2=1)(a2:x/32%128=0)(a3:x/268435456=0)(b:x/2%2=0)(c:0<x/4%8)(d:x/4096%65536%16=0)(w:World):Calls prog 201 #[.int .u64 x] w fun e w'=>e=.returned (.int .i64 2)/\w'=w:=by
 have e1:=IA x h0 (by omega);have e2:=Ph x h0 (by omega);have e3:=Jl x h0 (by omega);have e4:=Dc x h0 (by omega);have c1:(x/4%8*4 != 0)=true:=by simp only[bne_iff_ne];omega
 go_enter func201,ntmps201
 go_wp2_with (go_at_call 202;refine(Jg _ h0 h1 _).mono ?_;rintro e w' ⟨rfl,rfl⟩)
 go_ret;exact⟨rfl,rfl⟩
theorem JA(x:Int)(h0:0<=x)(h1:x<2 ^ 64)(a1:x%2=1)(a2:x/32%128=0)(a3:x/268435456=0)(b:x/2%2=0)(c:0<x/4%8)(d:0<x/4096%65536%16)(w:World):Calls prog 201 #[.int .u64 x] w fun e w'=>e=.returned (.int .i64 4)/\w'=w:=by
 have e1:=IA x h0 (by omega);have e2:=Ph x h0 (by omega);have e3:=Jl x h0 (by omega);have e4:=Dc x h0 (by omega);have c1:(x/4%8*4 != 0)=true:=by simp only[bne_iff_ne];omega
 have d1:(x/4096%16==0)=false:=by simp only[beq_eq_false_iff_ne];omega
 go_enter func201,ntmps201
 go_wp2_with (go_at_call 202;refine(Jg _ h0 h1 _).mono ?_;rintro e w' ⟨rfl,rfl⟩)
 go_ret;exact⟨rfl,rfl⟩
theorem Hk(x:Int)(h0:0<=x)(h1:x<2 ^ 64)(a1:x%2=1)(a2:x/32%128=0)(a3:x/268435456=0)(b:x/2%2=0)(c:x/4%8=0)(w:World):Calls prog 201 #[.int .u64 x] w fun e w'=>e=.returned (.int .i64 4)/\w'=w:=by
 have e1:=IA x h0 (by omega);have e2:=Ph x h0 (by omega);have e3:=Jl x h0 (by omega);have e4:=Dc x h0 (by omega);go_enter func201,ntmps201
 go_wp2
 go_ret;exact⟨rfl,rfl⟩
theorem UX(l f:Int)(h:l<1\/3<l)(w:World):Calls prog 200 #[.int .i64 l,.int .i64 f] w fun e w'=>e=.returned (.int .i64 4)/\w'=w:=by
 rcases h with h|h;all_goals
  go_enter func200,ntmps200
  go_wp2
  go_ret
  exact⟨rfl,rfl⟩
def Mm (l f:Int):Int:=if f=0 then 0 else if f=1/\l<3 then 1 else if f=2/\l=2 then 2 else if f=3/\l=3 then 3 else 4
theorem S3(l f:Int)(hl:l=1\/l=2\/l=3)(hf:f=0\/f=1\/f=2\/f=3\/f=4)(w:World):Calls prog 200 #[.int .i64 l,.int .i64 f] w fun e w'=>e=.returned (.int .i64 (Mm l f))/\w'=w:=by
 rcases hl with rfl|rfl|rfl<;>rcases hf with rfl|rfl|rfl|rfl|rfl;all_goals as_aux_lemma =>
  go_enter func200,ntmps200
  go_wp2
  go_ret;exact⟨rfl,rfl⟩
theorem UJ(l x:Int)(h:l<1\/3<l)(h0:0<=x)(h1:x<2 ^ 64)(f:Int)(hf:∀w,Calls prog 201 #[.int .u64 x] w fun e w'=>e=.returned (.int .i64 f)/\w'=w)(w:World):Calls prog 151 #[.int .i64 l,.int .u64 x] w (AM w (D9 4 0 0)):=by
 go_enter func151,ntmps151
 go_wp2_with (first
  | (go_at_call 201;refine(hf _).mono ?_;rintro e w' ⟨rfl,rfl⟩)
  | (go_at_call 200;refine(UX _ _ h _).mono ?_;rintro e w' ⟨rfl,rfl⟩))
 exact bodyPost_ret (v:=.agg #[.int .i64 4,.int .i64 0,.int .i64 0]) (by simp[results,results151,go_sem]) rfl ⟨rfl,AO⟩
theorem Bx(l x k:Int)(hl:l=1\/l=2\/l=3)(h0:0<=x)(h1:x<2 ^ 64)(f:Int)(hf5:f=0\/f=1\/f=2\/f=3\/f=4)(hk:Mm l f=k)(hk4:k=0\/k=4)(hf:∀w,Calls prog 201 #[.int .u64 x] w fun e w'=>e=.returned (.int .i64 f)/\w'=w)(w:World):Calls prog 151 #[.int .i64 l,.int .u64 x] w (AM w (D9 k 0 0)):=by
 have hc:∀w,Calls prog 200 #[.int .i64 l,.int .i64 f] w fun e w'=>e=.returned (.int .i64 k)/\w'=w:=by
  intro w;rw[<- hk];exact S3 l f hl hf5 w
 clear hl hf5 hk;rcases hk4 with rfl|rfl
 ·go_enter func151,ntmps151
  go_wp2_with (first
   | (go_at_call 201;refine(hf _).mono ?_;rintro e w' ⟨rfl,rfl⟩)
   | (go_at_call 200;refine(hc _).mono ?_;rintro e w' ⟨rfl,rfl⟩))
  exact bodyPost_ret (v:=.agg #[.int .i64 0,.int .i64 0,.int .i64 0]) (by simp[results,results151,go_sem]) rfl ⟨rfl,AO⟩
 ·go_enter func151,ntmps151
  go_wp2_with (first
   | (go_at_call 201;refine(hf _).mono ?_;rintro e w' ⟨rfl,rfl⟩)
   | (go_at_call 200;refine(hc _).mono ?_;rintro e w' ⟨rfl,rfl⟩))
  exact bodyPost_ret (v:=.agg #[.int .i64 4,.int .i64 0,.int .i64 0]) (by simp[results,results151,go_sem]) rfl ⟨rfl,AO⟩
theorem Jp(l x k:Int)(hl:l=1\/l=2\/l=3)(h0:0<=x)(h1:x<2 ^ 64)(f:Int)(hf5:f=0\/f=1\/f=2\/f=3\/f=4)(hk:Mm l f=k)(hk4:k=1\/k=2\/k=3)(hf:∀w,Calls prog 201 #[.int .u64 x] w fun e w'=>e=.returned (.int .i64 f)/\w'=w)(w:World):Calls prog 151 #[.int .i64 l,.int .u64 x] w (AM w (D9 k (x/4096%65536) (x/4%8))):=by
 have hc:∀w,Calls prog 200 #[.int .i64 l,.int .i64 f] w fun e w'=>e=.returned (.int .i64 k)/\w'=w:=by
  intro w;rw[<- hk];exact S3 l f hl hf5 w
 clear hl hf5 hk;rcases hk4 with rfl|rfl|rfl;all_goals
  go_enter func151,ntmps151
  go_wp2_with (first
   | (go_at_call 201;refine(hf _).mono ?_;rintro e w' ⟨rfl,rfl⟩)
   | (go_at_call 200;refine(hc _).mono ?_;rintro e w' ⟨rfl,rfl⟩)
   | (go_at_call 202;refine(Jg _ h0 h1 _).mono ?_;rintro e w' ⟨rfl,rfl⟩)
   | (go_at_call 203;refine(QY _ h0 h1 _).mono ?_;rintro e w' ⟨rfl,rfl⟩))
  exact bodyPost_ret (v:=.agg #[_,.int .i64 (x/4096%65536),.int .i64 (x/4%8)]) (by simp[results,results151,go_sem]) rfl ⟨rfl,AO⟩
theorem Cb(l x:Int)(h0:0<=x)(h1:x<2 ^ 64)(w:World):Calls prog 151 #[.int .i64 l,.int .u64 x] w (AM w (D7 l x)):=by
 rcases Kj l x with⟨a,e⟩|⟨a,b,c,e⟩|⟨a,b,c,d,f,g,e⟩|⟨rfl,b,c,d,f,g,h,e⟩|⟨rfl,b,c,d,f,g,e⟩|⟨a,b,c,d,e⟩<;>rw[e]
 ·have hx:∃f,∀w,Calls prog 201 #[.int .u64 x] w fun e w'=>e=.returned (.int .i64 f)/\w'=w:=by
   by_cases a1:x%2=0
   ·exact⟨0,Pw x h0 h1 a1⟩
   ·by_cases a2:x/32%128=0/\x/268435456=0
    ·by_cases c:x/4%8=0<;>by_cases b:x/2%2=0
     ·exact⟨4,Hk x h0 h1 (by omega) a2.1 a2.2 b c⟩
     ·exact⟨1,IL x h0 h1 (by omega) a2.1 a2.2 (by omega) c⟩
     ·by_cases d:x/4096%65536%16=0
      ·exact⟨2,GM x h0 h1 (by omega) a2.1 a2.2 b (by omega) d⟩
      ·exact⟨4,JA x h0 h1 (by omega) a2.1 a2.2 b (by omega) (by omega)⟩
     ·exact⟨3,Hp x h0 h1 (by omega) a2.1 a2.2 (by omega) (by omega)⟩
    ·exact⟨4,IK x h0 h1 (by omega) (by omega)⟩
  obtain⟨f,hf⟩:=hx;exact UJ l x a h0 h1 f hf w
 ·exact Bx l x 0 (by omega) h0 h1 0 (by omega) (by simp[Mm]) (by omega) (Pw x h0 h1 c) w
 ·have:=Jp l x 1 (by omega) h0 h1 1 (by omega) (by simp[Mm];omega) (by omega) (IL x h0 h1 b c d f g) w;rw[g] at this;exact this
 ·exact Jp 2 x 2 (by omega) h0 h1 2 (by omega) (by simp[Mm]) (by omega) (GM x h0 h1 b c d f g h) w
 ·exact Jp 3 x 3 (by omega) h0 h1 3 (by omega) (by simp[Mm]) (by omega) (Hp x h0 h1 b c d f g) w
 ·have hl:l=1\/l=2\/l=3:=by omega
  rcases d with d|⟨d,d'⟩|⟨d,d',hb⟩
  ·exact Bx l x 4 hl h0 h1 4 (by omega) (by simp[Mm]) (by omega) (IK x h0 h1 c (.inl d)) w
  ·exact Bx l x 4 hl h0 h1 4 (by omega) (by simp[Mm]) (by omega) (IK x h0 h1 c (.inr d')) w
  ·rcases hb with⟨rfl,p,q⟩|⟨rfl,p,q,r⟩|⟨rfl,p,q,r⟩|⟨rfl,p,q⟩|⟨rfl,p,q⟩|⟨rfl,p,q,r⟩|⟨rfl,p,q⟩|⟨rfl,p,q⟩|⟨rfl,p,q⟩|⟨rfl,p,q,r⟩|⟨rfl,p,q,r⟩
   ·exact Bx 1 x 4 hl h0 h1 4 (by omega) (by simp[Mm]) (by omega) (Hk x h0 h1 c d d' p q) w
   ·exact Bx 1 x 4 hl h0 h1 2 (by omega) (by simp[Mm]) (by omega) (GM x h0 h1 c d d' p q r) w
   ·exact Bx 1 x 4 hl h0 h1 4 (by omega) (by simp[Mm]) (by omega) (JA x h0 h1 c d d' p q r) w
   ·exact Bx 1 x 4 hl h0 h1 3 (by omega) (by simp[Mm]) (by omega) (Hp x h0 h1 c d d' p q) w
   ·exact Bx 2 x 4 hl h0 h1 4 (by omega) (by simp[Mm]) (by omega) (Hk x h0 h1 c d d' p q) w
   ·exact Bx 2 x 4 hl h0 h1 4 (by omega) (by simp[Mm]) (by omega) (JA x h0 h1 c d d' p q r) w
   ·exact Bx 2 x 4 hl h0 h1 3 (by omega) (by simp[Mm]) (by omega) (Hp x h0 h1 c d d' p q) w
   ·exact Bx 3 x 4 hl h0 h1 1 (by omega) (by simp[Mm]) (by omega) (IL x h0 h1 c d d' p q) w
   ·exact Bx 3 x 4 hl h0 h1 4 (by omega) (by simp[Mm]) (by omega) (Hk x h0 h1 c d d' p q) w
   ·exact Bx 3 x 4 hl h0 h1 2 (by omega) (by simp[Mm]) (by omega) (GM x h0 h1 c d d' p q r) w
   ·exact Bx 3 x 4 hl h0 h1 4 (by omega) (by simp[Mm]) (by omega) (JA x h0 h1 c d d' p q r) w
theorem Fr{W w1:World}(hb:Bl W w1):(∀b o,b<W.heap.size->w1.cell? ⟨b,o,none⟩=W.cell? ⟨b,o,none⟩)/\(∀b o,b<W.heap.size->w1.frozen? ⟨b,o,none⟩=W.frozen? ⟨b,o,none⟩) :=
 ⟨fun b o h=>hb.cell (p:=⟨b,o,none⟩) h,fun b o h=>hb.frozen (p:=⟨b,o,none⟩) h⟩
def BX (l:Int):Int:=if l=1 then 256 else if l=2 then 16 else 1
theorem Ku(l:Int):0<=BX l/\BX l<=256:=by
 unfold BX;by_cases a:l=1<;>by_cases b:l=2<;>simp[a,b]
def AC (zs:List Int) (f:Int) (i:Nat):Int:=zs.getD ((f*16).toNat+i) 0
def Dq (zs:List Int) (n:Int) (p:P3) (i:Nat):Bool:=decide (AG p.lv (AC zs p.fr i)=1)&&decide (AX p.lv (AC zs p.fr i)<n)
def Af (zs:List Int) (p:P3) (i:Nat):P3:=⟨AX p.lv (AC zs p.fr i),p.lv+1,p.pg+i*BX p.lv⟩
def Ar (zs:List Int) (n:Int) (rec:P3->List P3) (p:P3) (k:Nat):List P3:=p :: (List.range k).flatMap fun i=>if Dq zs n p i then rec (Af zs p i) else []
def Ax (zs:List Int) (n:Int):Nat->P3->List P3
 | 0,p=>[p]
 | d+1,p=>Ar zs n (Ax zs n d) p 16
def Z9:Nat->Nat
 | 0=>1
 | d+1=>1+16*Z9 d
theorem Ke(zs:List Int)(n:Int)(rec:P3->List P3)(p:P3):Ar zs n rec p 0=[p]:=rfl
theorem GJ(zs:List Int)(n:Int)(rec:P3->List P3)(p:P3)(k:Nat):Ar zs n rec p (k+1)=Ar zs n rec p k++(if Dq zs n p k then rec (Af zs p k) else []):=by
 simp[Ar,List.range_succ]
theorem Ez(zs:List Int)(n:Int)(rec:P3->List P3)(p:P3)(B:Nat)(h:∀q,(rec q).length<=B):∀k,(Ar zs n rec p k).length<=1+k*B
 | 0=>by simp[Ar]
 | k+1=>by
  rw[GJ,List.length_append];have:=Ez zs n rec p B h k;have h2:(if Dq zs n p k then rec (Af zs p k) else []).length<=B:=by split<;>simp[h]
  rw[Nat.add_mul];omega
theorem EZ(zs:List Int)(n:Int):∀d p,(Ax zs n d p).length<=Z9 d
 | 0,p=>by simp[Ax,Z9]
 | d+1,p=>Ez zs n _ p (Z9 d) (EZ zs n d) 16
def An (m:Nat):Int:=if m<16\/8192<m\/¬m%16=0 then 0 else (m/16:Nat)
theorem Dv(m:Nat):An m<=512:=by unfold An;split<;>omega
theorem Bz(m:Nat)(h:An m≠0):An m*16=m/\1<=An m:=by unfold An at h ⊢;split<;>simp_all<;>omega
theorem Ci(l x:Int):0<=AX l x/\AX l x<65536:=by unfold AX;split<;>omega
def Cy (zs:List Int) (n:Int) (p:P3) (i:Nat):Bool:=!(decide (AG p.lv (AC zs p.fr i)=4)||(decide (AG p.lv (AC zs p.fr i)=1)&&decide (n<=AX p.lv (AC zs p.fr i))))
def Ct (zs:List Int) (n:Int) (p:P3):Bool:=(List.range 16).all (Cy zs n p)
def EQ (ps:List P3) (i:Nat):Bool:=(List.range i).all fun j=>!decide ((Aq ps i).fr=(Aq ps j).fr)
def C0 (zs:List Int) (n:Int) (ps:List P3) (k:Nat):Bool:=(List.range k).all fun i=>EQ ps i&&Ct zs n (Aq ps i)
section
attribute [local go_sem ↓] wp_at_zero wp_at_succ
structure BQ (w:World) (g:Nat) (zs:List Int):Prop where
 lt:g<w.heap.size
 cells:∀i,i<zs.length->w.cell? ⟨g,i,none⟩=some (.int .u64 (zs.getD i 0))
theorem BQ.cell{w:World}{g:Nat}{zs:List Int}(h:BQ w g zs){i:Nat}(hi:i<zs.length):w.cell? ⟨g,i,none⟩=some (.int .u64 (zs.getD i 0)):=h.cells i hi
theorem BQ.of_block{w w':World}{g:Nat}{zs:List Int}(h:BQ w g zs)(hb:w'.heap[g]?=w.heap[g]?):BQ w' g zs :=
 ⟨by
  have h1:=h.lt
  rw[Array.getElem?_eq_getElem h1] at hb
  exact(Array.getElem?_eq_some_iff.1 hb).1,fun i hi=>(World.cell?_of_block (a:=⟨g,i,none⟩) hb).trans (h.cells i hi)⟩
theorem BQ.below{w w':World}{g B:Nat}{zs:List Int}(h:BQ w g zs)(hb:Below B w w')(hg:g<B):BQ w' g zs:=h.of_block (hb.block g hg)
theorem Ck.c{w:World}{g:Nat}{zs:List Int}(h:Ck w g zs):BQ w g zs:=⟨h.lt,fun i hi=>h.cell hi⟩
theorem ET:(prog.info? 67).map (fun i=>(i.zero,i.size,i.bytes))=some (some (.agg #[.int .i64 0,.int .i64 0,.int .i64 0]),3,24):=by kernel_rfl
theorem DZ(a:Option Addr)(m c:Nat)(hm:m<=17592186044416)(w:World):Calls prog 57 #[.agg #[.slice a m c]] w fun e w'=>e=.returned (.int .i64 (An m))/\Bl w w':=by
 by_cases h1:m<16
 ·have e:An m=0:=by unfold An;rw[if_pos (.inl h1)]
  rw[e];have h1':(m:Int)<16:=by omega
  go_enter func57,ntmps57
  go_wp2
  go_ret;exact⟨rfl,AO⟩
 ·by_cases h2:8192<m
  ·(have e:An m=0:=by unfold An;rw[if_pos (.inr (.inl h2))]);rw[e];(have h1':(16:Int)<=m:=by omega);(have h2':(8192:Int)<m:=by omega);(go_enter func57,ntmps57);(go_wp2);go_ret;exact⟨rfl,AO⟩
  ·(have h1':(16:Int)<=m:=by omega);(have h2':(m:Int)<=8192:=by omega);by_cases h3:m%16=0
   ·(have e:An m=(m:Int)/16:=by unfold An;rw[if_neg (by omega)];simp);rw[e];(have h3':((m:Int)%16 != 0)=false:=by simp;omega);clear e;(go_enter func57,ntmps57);(go_wp2);go_ret;exact⟨rfl,AO⟩
   ·(have e:An m=0:=by unfold An;rw[if_pos (.inr (.inr h3))]);rw[e];(have h3':((m:Int)%16 != 0)=true:=by simp;omega);clear e;(go_enter func57,ntmps57);(go_wp2);go_ret;exact⟨rfl,AO⟩
theorem ED(l:Int)(w:World):Calls prog 79 #[.int .i64 l] w fun e w'=>e=.returned (.int .i64 (BX l))/\w'=w:=by
 by_cases h1:l=1
 ·subst h1;go_enter func79,ntmps79
  go_wp2
  go_ret;exact⟨rfl,rfl⟩
 ·by_cases h2:l=2
  ·subst h2;(go_enter func79,ntmps79);(go_wp2);go_ret;exact⟨rfl,rfl⟩
  ·(have e:BX l=1:=by simp[BX,h1,h2]);rw[e];(have h1':(l==1)=false:=by simpa using h1);(have h2':(l==2)=false:=by simpa using h2);clear e h1 h2;(go_enter func79,ntmps79);(go_wp2);go_ret;exact⟨rfl,rfl⟩
theorem LC(w:World)(base:Nat)(hb:base<=w.heap.size)(p:P3):BE (w.alloc (.cells #[.int .i64 p.fr,.int .i64 p.lv,.int .i64 p.pg] 67)) base (.slice (some ⟨w.heap.size,0,none⟩) 1 1) [p] :=
 ⟨rfl,.inr ⟨w.heap.size,1,_,rfl,hb,heap_alloc_new w _,Nat.le_refl _,by unfold maxLen;omega,rfl,rfl⟩⟩
theorem Qs(g:Nat)(n c:Nat)(p:P3)(hp:p.lv=3)(w:World):Calls prog 61 #[.agg #[.slice (some ⟨g,0,none⟩) n c],.agg #[.int .i64 p.fr,.int .i64 p.lv,.int .i64 p.pg]] w fun e w'=>∃a c,e=.returned (.slice a [p].length c)/\BE w' w.heap.size (.slice a [p].length c) [p]/\Bl w w':=by
 have hn:=LC ((w.alloc (.cells #[.slice (some ⟨g,0,none⟩) n c] 35)).alloc (.cells #[.int .i64 p.fr,.int .i64 p.lv,.int .i64 p.pg] 67)) w.heap.size (by simp;omega) p;rw[hp] at hn ⊢;simp only[World.size_alloc] at hn;have HN:=A5 hn;clear hn;go_enter func61,ntmps61
 go_wp2_with fail
 go_ret;exact⟨_,_,rfl,HN.out,(AO.alloc (by simp) _).alloc (by simp<;>omega) _⟩
theorem Qc(g:Nat)(zs:List Int)(c d:Nat)(p:P3)(F:Nat)(hF:p.fr=F)(hF2:F*16+16<=zs.length)(hlen:zs.length<=8192)(hl1:1<=p.lv)(hl2:p.lv<=2)(hp0:0<=p.pg)(hp1:p.pg<=4096*p.lv)(rec:P3->List P3)(hB:∀q,(rec q).length<=300)(n:Int)(hn:n=An zs.length)(hd:∀i,i<16->∀w,Calls prog 62 #[.int .i64 p.lv,.int .u64 (AC zs p.fr i)] w fun e w'=>e=.returned (.agg #[.int .i64 (AG p.lv (AC zs p.fr i)),.int .i64 (AX p.lv (AC zs p.fr i)),.int .i64 (Ak p.lv (AC zs p.fr i))])/\Bl w w')(ih:∀i w,i<16->Dq zs n p i=true->BQ w g zs->Calls prog 61 #[.agg #[.slice (some ⟨g,0,none⟩) zs.length c],.agg #[.int .i64 (Af zs p i).fr,.int .i64 (Af zs p i).lv,.int .i64 (Af zs p i).pg]] w fun e w'=>∃a c,e=.returned (.slice a (rec (Af zs p i)).length c)/\BE w' w.heap.size (.slice a (rec (Af zs p i)).length c) (rec (Af zs p i))/\Bl w w')(w:World)(hg:BQ w g zs):Calls prog 61 #[.agg #[.slice (some ⟨g,0,none⟩) zs.length c],.agg #[.int .i64 p.fr,.int .i64 p.lv,.int .i64 p.pg]] w fun e w'=>∃a c,e=.returned (.slice a (Ar zs n rec p 16).length c)/\BE w' w.heap.size (.slice a (Ar zs n rec p 16).length c) (Ar zs n rec p 16)/\Bl w w':=by
 obtain⟨w2,hw2⟩:∃w2,w2=(w.alloc (.cells #[.slice (some ⟨g,0,none⟩) zs.length c] 35)).alloc (.cells #[.int .i64 p.fr,.int .i64 p.lv,.int .i64 p.pg] 67):=⟨_,rfl⟩
 have hn0:=LC w2 (w.heap.size+2) (by rw[hw2];simp) p;have hz2:w2.heap.size=w.heap.size+2:=by rw[hw2];simp
 have hb2:Bl w w2:=by rw[hw2];exact AO.alloc (by simp) _
 have q0:w2.cell? ⟨w.heap.size,0,none⟩=some (.slice (some ⟨g,0,none⟩) zs.length c):=by rw[hw2];simp[go_sem]
 have q1:w2.cell? ⟨w.heap.size+1,0,none⟩=some (.int .i64 p.fr):=by rw[hw2];simp[go_sem]
 have q2:w2.cell? ⟨w.heap.size+1,1,none⟩=some (.int .i64 p.lv):=by rw[hw2];simp[go_sem]
 have q3:w2.cell? ⟨w.heap.size+1,2,none⟩=some (.int .i64 p.pg):=by rw[hw2];simp[go_sem]
 have hg2:BQ w2 g zs:=hg.below hb2 hg.lt;have HQ:Hid (w2.cell? ⟨w.heap.size,0,none⟩=some (.slice (some ⟨g,0,none⟩) zs.length c)/\w2.cell? ⟨w.heap.size+1,0,none⟩=some (.int .i64 p.fr)/\w2.cell? ⟨w.heap.size+1,1,none⟩=some (.int .i64 p.lv)/\w2.cell? ⟨w.heap.size+1,2,none⟩=some (.int .i64 p.pg)):=⟨q0,q1,q2,q3⟩;have HN:=A5 hn0;have HZ:=A5 hz2;have HW2:=A5 hw2;have HIH:=A5 ih;have HD:=A5 hd;have HF:=A5 hF;have HNN:=A5 hn;clear hn0 hz2 hw2 q0 q1 q2 q3 ih hd hg hF hn;go_enter func61,ntmps61
 go_wp2_with fail
 go_loopw [5,6] (fun v i wr=>∃k:Nat,k<=16/\i=.int .i64 k/\BE wr (w.heap.size+2) v (Ar zs n rec p k)/\Below (w.heap.size+2) w2 wr) (fun _ i _=>16-(intOf i).toNat)
 case atStart =>
  refine⟨0,by omega,rfl,?_,?_⟩
  ·have h:=HN.out;rw[HZ.out,HW2.out] at h;exact h
  ·rw[HW2.out];exact(Below.refl (w.heap.size+2) _).alloc (by simp) _
 case round =>
  obtain⟨k,hk,rfl,hrow,hb⟩:=hrel;have hBL:=Ez zs n rec p 300 hB k;by_cases hlt:k<16
  ·obtain⟨q0,q1,q2,q3⟩:=HQ.out;have hs:=HZ.out;have hsz:=hb.size;have c0:=(hb.cell (p:=⟨w.heap.size,0,none⟩) (by simp)).trans q0;have c1:=(hb.cell (p:=⟨w.heap.size+1,0,none⟩) (by simp)).trans q1;have c2:=(hb.cell (p:=⟨w.heap.size+1,1,none⟩) (by simp)).trans q2;have c3:=(hb.cell (p:=⟨w.heap.size+1,2,none⟩) (by simp)).trans q3;have hgr:BQ wr g zs:=hg2.below hb (by have:=hg2.lt;omega);have cw:=hgr.cell (i:=F*16+k) (by omega);(have ew:zs.getD (F*16+k) 0=AC zs p.fr k:=by simp[AC,HF.out];congr 1);rw[ew] at cw;rw[HF.out] at c1;have hdk:=HD.out k hlt;(have hn2:w.heap.size+2<=wr.heap.size:=by omega);have hgl:=hgr.lt;have dO:=Ci p.lv (AC zs p.fr k);have hdd:=GJ zs n rec p k;have hih:=HIH.out k;unfold Af at hih;unfold Dq at hih hdd;unfold Af at hdd;have HDD:=A5 hdd;have HIK:=A5 hih;have HRW:=A5 hrow;have HGR:=A5 hgr;have HB:=A5 hb;clear q0 q1 q2 q3 hs hsz ew hdd hih hrow hgr hb hb2 hg2;generalize AC zs p.fr k=X at *;generalize AG p.lv X=K at *;generalize AX p.lv X=O at *;generalize Ak p.lv X=M at *;(have L1:(0:Int)<=(F:Int)*16+(k:Int):=by omega);(have L2:(F:Int)*16+(k:Int)<(zs.length:Int):=by omega);have W1:=AR ((F:Int)*16);have W2:=AR ((F:Int)*16+(k:Int));(have T1:((F:Int)*16+(k:Int)).toNat=F*16+k:=by omega);(go_upto_region 7 with fail);(go_cut [7] (fun d7 wx=>∃D,d7=.pointer (some ⟨D,0,none⟩)/\wx.cell? ⟨D,0,none⟩=some (.int .i64 K)/\wx.cell? ⟨D,1,none⟩=some (.int .i64 O)/\wr.heap.size<=D/\D<wx.heap.size/\Bl wr wx));case first =>
    have HK:Hid (∀wX,Bl wr wX->wX.cell? ⟨w.heap.size,0,none⟩=some (.slice (some ⟨g,0,none⟩) zs.length c)/\wX.cell? ⟨w.heap.size+1,0,none⟩=some (.int .i64 F)/\wX.cell? ⟨w.heap.size+1,1,none⟩=some (.int .i64 p.lv)/\wX.cell? ⟨g,F*16+k,none⟩=some (.int .u64 X)) :=
     fun wX h=>⟨(h.cell (by simp;omega)).trans c0,(h.cell (by simp;omega)).trans c1,(h.cell (by simp;omega)).trans c2,(h.cell (by simpa using hgl)).trans cw⟩
    go_region_held3 (fun w'=>w'.cell? ⟨w.heap.size,0,none⟩=some (.slice (some ⟨g,0,none⟩) zs.length c)/\w'.cell? ⟨w.heap.size+1,0,none⟩=some (.int .i64 F)/\w'.cell? ⟨w.heap.size+1,1,none⟩=some (.int .i64 p.lv)/\w'.cell? ⟨g,F*16+k,none⟩=some (.int .u64 X))
     ((refine HK.out _ ?_;repeat (first|exact AH|with_reducible refine Below.drew ?_|with_reducible refine Below.setCell ?_ (by first|omega|(simp<;>omega)) _|with_reducible refine Below.alloc ?_ (by first|omega|(simp<;>omega)) _|refine Below.trans ?_ (hb1.mono (by first|omega|(simp<;>omega))))))
     (first|(go_at_call 62;refine(hdk _).mono ?_;rintro e w1 ⟨rfl,hb1⟩;obtain⟨hc1,hf1⟩:=Fr hb1;have hz1:=hb1.size;simp at hz1))
    all_goals
     go_wp2_with fail
     go_meet
     case rel =>
      refine⟨_,rfl,?_,?_,?_,?_,?_⟩
      ·simp[go_sem,hc1]
      ·simp[go_sem,hc1]
      ·first|omega|(simp<;>omega)
      ·first|omega|(simp<;>omega)
      ·repeat (first|exact AH|with_reducible refine Below.drew ?_|with_reducible refine Below.setCell ?_ (by first|omega|(simp<;>omega)) _|with_reducible refine Below.alloc ?_ (by first|omega|(simp<;>omega)) _|refine Below.trans ?_ (hb1.mono (by first|omega|(simp<;>omega))))
   case rest =>
    obtain⟨D,rfl,d0,d1,hD1,hD2,hbx⟩:=hcut;have hfr:=DZ (some ⟨g,0,none⟩) zs.length c (by omega);rw[<- HNN.out] at hfr;have e0:=(hbx.cell (p:=⟨w.heap.size,0,none⟩) (by simp;omega)).trans c0;have e2:=(hbx.cell (p:=⟨w.heap.size+1,1,none⟩) (by simp;omega)).trans c2;have e3:=(hbx.cell (p:=⟨w.heap.size+1,2,none⟩) (by simp;omega)).trans c3;have HBX:=A5 hbx;clear c0 c1 c2 c3 cw hdk W1 W2 T1 L1 L2 hbx;by_cases hK:K=1
    ·subst hK;by_cases hO:O<n
     ·(have hO':decide (O<n)=true:=by simpa using hO);have hcov:=ED p.lv;have hC0:=Ku p.lv;have hrec:=HIK.out;simp only[hO',decide_true,Bool.and_true] at hrec;have hx:Ar zs n rec p (k+1)=Ar zs n rec p k++rec ⟨O,p.lv+1,p.pg+k*BX p.lv⟩:=by
       have h:=HDD.out;rw[hO'] at h;simpa using h
      have hRB:=hB ⟨O,p.lv+1,p.pg+k*BX p.lv⟩;have HX:=A5 hx;generalize BX p.lv=C at *;have y0:0<=(k:Int)*C:=Int.mul_nonneg (by omega) hC0.1;have y1:(k:Int)*C<=15*256:=Int.mul_le_mul (by omega) hC0.2 hC0.1 (by omega);have Wy:=AR ((k:Int)*C);have Wz:=AR (p.pg+(k:Int)*C);have Wl:=AR (p.lv+1);have HREC:=A5 hrec;clear hx hrec HDD HIK HIH HD;(go_wp2_with fail);go_region_held3 (fun w'=>w'.cell? ⟨D,0,none⟩=some (.int .i64 1)/\w'.cell? ⟨D,1,none⟩=some (.int .i64 O)/\w'.cell? ⟨w.heap.size,0,none⟩=some (.slice (some ⟨g,0,none⟩) zs.length c))
       (first|go_keep|(go_split_ands;refine⟨?_,?_,?_⟩<;>(rw[hb1.cell (by first|omega|(simp<;>omega))];simp;assumption)))
       (first|(go_at_call 57;refine(hfr _).mono ?_;rintro e w1 ⟨rfl,hb1⟩))
      have hbw1:Bl wc w1:=AH.drew.trans (hb1.mono (by first|omega|(simp<;>omega)));have d1':=(hbw1.cell (p:=⟨D,1,none⟩) (by first|omega|(simp<;>omega))).trans d1;have e0':=(hbw1.cell (p:=⟨w.heap.size,0,none⟩) (by first|omega|(simp<;>omega))).trans e0;have e2':=(hbw1.cell (p:=⟨w.heap.size+1,1,none⟩) (by first|omega|(simp<;>omega))).trans e2;have e3':=(hbw1.cell (p:=⟨w.heap.size+1,2,none⟩) (by first|omega|(simp<;>omega))).trans e3;have HBW:=A5 hbw1;have hs1:=hbw1.size;clear d0 d1 e0 e2 e3 hfr hb1 hbw1;(go_upto_region 9 with fail);(go_cut [8] (fun d8 wx=>∃E,d8=.pointer (some ⟨E,0,none⟩)/\wx.cell? ⟨E,0,none⟩=some (.int .i64 O)/\wx.cell? ⟨E,1,none⟩=some (.int .i64 (p.lv+1))/\wx.cell? ⟨E,2,none⟩=some (.int .i64 (p.pg+(k:Int)*C))/\E<wx.heap.size/\Bl w1 wx));case first =>
       have HK:Hid (∀wX,Bl w1 wX->wX.cell? ⟨D,1,none⟩=some (.int .i64 O)/\wX.cell? ⟨w.heap.size+1,1,none⟩=some (.int .i64 p.lv)/\wX.cell? ⟨w.heap.size+1,2,none⟩=some (.int .i64 p.pg)) :=
        fun wX h=>⟨(h.cell (by first|omega|(simp<;>omega))).trans d1',(h.cell (by first|omega|(simp<;>omega))).trans e2',(h.cell (by first|omega|(simp<;>omega))).trans e3'⟩
       go_region_held3 (fun w'=>w'.cell? ⟨D,1,none⟩=some (.int .i64 O)/\w'.cell? ⟨w.heap.size+1,1,none⟩=some (.int .i64 p.lv)/\w'.cell? ⟨w.heap.size+1,2,none⟩=some (.int .i64 p.pg))
        ((refine HK.out _ ?_;exact BH))
        (first|(go_at_call 79;refine(hcov _).mono ?_;rintro e w3 ⟨rfl,rfl⟩))
       all_goals
        go_wp2_with fail
        go_meet
        case rel =>
         refine⟨_,rfl,?_,?_,?_,?_,?_⟩
         ·simp[go_sem]
         ·simp[go_sem]
         ·simp[go_sem]
         ·first|omega|(simp<;>omega)
         ·exact BH
      case rest =>
       obtain⟨E,rfl,f0,f1,f2,hE,hbE⟩:=hcut;(obtain⟨wd,rfl⟩:∃wd:World,wd=wc:=⟨_,rfl⟩);have e0'':=(hbE.cell (p:=⟨w.heap.size,0,none⟩) (by first|omega|(simp<;>omega))).trans e0';have HBE:=A5 hbE;clear e0' d1' e2' e3' hbE hcov Wy Wz Wl;have hrec:=HREC.out;generalize rec ⟨O,p.lv+1,p.pg+k*C⟩=R at *;have hbwd:Bl wr wd:=HBX.out.trans ((HBW.out.mono (by omega)).trans (HBE.out.mono (by have:=HBX.out.size;omega)));have hgd:BQ wd g zs:=HGR.out.below hbwd hgl;have hrd:BE wd (w.heap.size+2) u5 (Ar zs n rec p k):=HRW.out.below hbwd;clear HREC;(go_wp2_with fail);refine(hrec wd hlt trivial hgd).mono ?_;rintro e we ⟨ab,cb,rfl,hvb,hbe⟩;obtain⟨ab',cb',hab,hform⟩:=hvb.form;have hbwe:Bl wr we:=Ab hbwd hbe;have hre:BE we (w.heap.size+2) u5 (Ar zs n rec p k):=hrd.below hbe;(have hu5:∀q,u5.ownBlock=some q->q<wd.heap.size:=fun q hq=>(World.ownsRow.lt hrd q hq).2);have HFM:Hid (0<R.length->∃gb N f,ab=some ⟨gb,0,none⟩/\wd.heap.size<=gb/\we.rowIs gb 67 N f/\R.length*3<=N/\∀i,i<R.length->f (i*3)=.int .i64 (Aq R i).fr/\f (i*3+1)=.int .i64 (Aq R i).lv/\f (i*3+2)=.int .i64 (Aq R i).pg):=by
        intro h0;obtain⟨gb,N,f,h1,h2,h3,h4,h5⟩:=hform h0;simp only[Value.slice.injEq] at hab;exact⟨gb,N,f,hab.1.trans h1,h2,h3,h4,h5⟩
       have HRE:=A5 hre;have HU5:=A5 hu5;have HBWE:=A5 hbwe;have hwe:=hbwe.size;clear hrec hgd hrd hvb hbe hform hab hre hu5 hbwe hbwd f0 f1 f2 e0'';(go_wp2_with fail);(obtain⟨wro,hwro⟩:∃wro:World,wro=wr:=⟨_,rfl⟩);clear hwro;(go_loopw [5,10] (fun v jv wx=>∃t:Nat,t<=R.length/\jv=.int .i64 t/\BE wx (w.heap.size+2) v (Ar zs n rec p k++R.take t)/\(∀gb,ab=some ⟨gb,0,none⟩->0<R.length->v.ownBlock≠some gb/\wx.heap[gb]?=we.heap[gb]?)/\we.heap.size<=wx.heap.size/\Below (w.heap.size+2) w2 wx) (fun _ jv _=>R.length-(intOf jv).toNat));case atStart =>
        refine⟨0,Nat.zero_le _,rfl,?_,?_,Nat.le_refl _,?_⟩
        ·rw[List.take_zero,List.append_nil];exact HRE.out
        ·intro gb hgb h0;obtain⟨gb',N,f,h1,h2,h3,h4,h5⟩:=HFM.out h0;rw[hgb] at h1;simp only[Option.some.injEq,Addr.mk.injEq] at h1;refine⟨fun hq=>?_,rfl⟩;have:=HU5.out gb hq;omega
        ·exact HB.out.trans (HBWE.out.mono (by omega))
       case round =>
        obtain⟨t,ht,rfl,hpr,hgbk,hszx,hbx2⟩:=hrel;have hlen2:(Ar zs n rec p k++R.take t).length<=10000:=by
         rw[List.length_append,List.length_take];omega
        by_cases hlt2:t<R.length
        ·obtain⟨gb,N,f,rfl,hgb,hrow,hN,hf⟩:=HFM.out (by omega);obtain⟨hne,hblk⟩:=hgbk gb rfl (by omega);have hr1:wr.rowIs gb _ N f:=hrow.of_block hblk;have hgbl:=hr1.lt;obtain⟨x1,x2,x3⟩:=hf t hlt2;have k1:=hr1.cell (i:=t*3) (by omega);have k2:=hr1.cell (i:=t*3+1) (by omega);have k3:=hr1.cell (i:=t*3+2) (by omega);rw[x1] at k1;rw[x2] at k2;rw[x3] at k3;have htk:R.take (t+1)=R.take t++[Aq R t]:=by
          rw[List.take_succ_eq_append_getElem hlt2];simp[Aq,hlt2]
         have HTK:=A5 htk;have HBLK:=A5 hblk;have HPR:=A5 hpr;have HBX2:=A5 hbx2;have HNE:=A5 hne;clear x1 x2 x3 hf htk hr1 hrow hblk hgbk hpr hbx2 hne;generalize Aq R t=q at *;obtain⟨i0,hi,hz0,hz1,hz2⟩:=info_parts ET;(have M1:(0:Int)<=(t:Int):=by omega);(have M2:(t:Int)<(R.length:Int):=by omega);(go_wp2_with (at_builtin;refine wpList_append_lies _ rfl (.tmp 66) (.tmp 71) 61 rfl (w.heap.size+2) 67 i0 _ 3 24 underlying61 hi hz0 hz1 hz2 rfl (by omega) _ _ _ rfl (World.ownsRow.alloc HPR.out _) ⟨wr.heap.size,0,none⟩ 1 1 [.int .i64 q.fr,.int .i64 q.lv,.int .i64 q.pg] rfl rfl ?c1 ?c2 (by omega) ?c3 ?c4 ?c5 (wr.heap.size+1) ?c6 ?_));(case c1=>exact World.news_of_block (heap_alloc_new wr (.cells #[.int .i64 q.fr,.int .i64 q.lv,.int .i64 q.pg] 67)));(case c2=>intro u hu;simp at hu;rcases hu with rfl|rfl|rfl<;>rfl);(case c3=>unfold maxLen;omega);(case c4=>omega);(case c5=>simp;omega);(case c6=>simp);intro g1 cap1 wn hown hgrow hat hlt3;have hnew:BE wn (w.heap.size+2) (.slice (some ⟨g1,0,none⟩) ((Ar zs n rec p k).length+t+1) cap1) (Ar zs n rec p k++R.take (t+1)):=by
          unfold BE;(have e1:(Ar zs n rec p k++R.take (t+1)).length=(Ar zs n rec p k).length+t+1:=by rw[List.length_append,List.length_take];omega);have e2:DJ (Ar zs n rec p k++R.take (t+1))=DJ (Ar zs n rec p k++R.take t)++[.int .i64 q.fr,.int .i64 q.lv,.int .i64 q.pg]:=by
           rw[HTK.out,<- List.append_assoc,EY _ [q]];rfl
          rw[e1,e2];exact hown
         have hbn:Below (w.heap.size+2) w2 wn:=((HBX2.out.alloc (by omega) _).grown hgrow (by simp;omega) (fun q hq=>(World.ownsRow.lt HPR.out q hq).1));(have hszn:we.heap.size<=wn.heap.size:=by have:=hgrow.size;simp at this;omega);have hkeep:∀gb',some (⟨gb,0,none⟩:Addr)=some ⟨gb',0,none⟩->0<R.length->(Value.slice (some ⟨g1,0,none⟩) ((Ar zs n rec p k).length+t+1) cap1).ownBlock≠some gb'/\wn.heap[gb']?=we.heap[gb']?:=by
          intro gb' e0 _;simp only[Option.some.injEq,Addr.mk.injEq,and_true] at e0;subst e0;refine⟨?_,?_⟩
          ·simp only[Value.ownBlock,ne_eq,Option.some.injEq];rcases hat with h|h
           ·intro e0;rw[e0] at h;exact HNE.out h
           ·omega
          ·rw[hgrow.block gb (by simp;omega) (Ne.symm HNE.out),Below.heap_alloc _ _ _ hgbl];exact HBLK.out
         clear hown hgrow hat k1 k2 k3;(go_wp2_with fail);go_roundw;(case rel=>exact⟨t+1,by omega,by go_num,hnew,hkeep,hszn,hbn⟩);case measure=>simp[intOf];omega
        ·(have e:t=R.length:=by omega);have hfin:BE wr (w.heap.size+2) u5 (Ar zs n rec p (k+1)):=by
          rw[HX.out];rw[e,List.take_length] at hpr;exact hpr
         clear hpr hgbk;(go_wp2_with fail);go_roundw;(case rel=>exact⟨k+1,by omega,by go_num,hfin,hbx2⟩);case measure=>simp[intOf];omega
     ·(have hO':decide (O<n)=false:=by simpa using hO);have hx:Ar zs n rec p (k+1)=Ar zs n rec p k:=by
       have h:=HDD.out;rw[hO'] at h;simpa using h
      have HX:=A5 hx;clear hx;(go_wp2_with fail);go_region_held3 (fun w'=>w'.cell? ⟨D,0,none⟩=some (.int .i64 1)/\w'.cell? ⟨D,1,none⟩=some (.int .i64 O)/\w'.cell? ⟨w.heap.size,0,none⟩=some (.slice (some ⟨g,0,none⟩) zs.length c))
       (first|go_keep|(go_split_ands;refine⟨?_,?_,?_⟩<;>(rw[hb1.cell (by first|omega|(simp<;>omega))];simp;assumption)))
       (first|(go_at_call 57;refine(hfr _).mono ?_;rintro e w1 ⟨rfl,hb1⟩))
      (go_wp2_with fail);go_roundw;case rel =>
       refine⟨k+1,by omega,by go_num,?_,?_⟩
       ·rw[HX.out];exact HRW.out.below ((HBX.out.drew).trans (hb1.mono (by first|omega|(simp<;>omega))))
       ·exact HB.out.trans (((HBX.out.drew).trans (hb1.mono (by first|omega|(simp<;>omega)))).mono (by omega))
      case measure=>simp[intOf];omega
    ·(have hK':(K==1)=false:=by simpa using hK);(go_wp2_with fail);(go_quiet (fail));(go_wp2_with fail);go_roundw;case rel =>
      refine⟨k+1,by omega,by go_num,?_,?_⟩
      ·have h:=HDD.out;simp only[hK,decide_false,Bool.false_and] at h;rw[h];simp only[Bool.false_eq_true,if_false,List.append_nil];exact HRW.out.below (CY HBX.out _)
      ·exact HB.out.trans ((CY HBX.out _).mono (by omega))
     case measure=>simp[intOf];omega
  ·(have e:k=16:=by omega);subst e;obtain⟨a5,c5,hv5,_⟩:=hrow.form;have HV:=A5 hv5;clear hv5;(go_wp2_with fail);go_ret;exact⟨a5,c5,congrArg Ending.returned HV.out,by rw[<- HV.out];exact hrow.rebase (by omega),hb2.trans (hb.mono (by omega))⟩
end
end Go.Proofs.YtnmhkgmmpkjjeaaGreat
