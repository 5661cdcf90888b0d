import Derived.Test.YtnmhkgmmpkjjeaaGreatM02
import Derived.Test.YtnmhkgmmpkjjeaaGreatM13
namespace Go.Proofs.YtnmhkgmmpkjjeaaGreat
open ChangeShapes WideShapes ChangeAt RowKit Proofs.Tryz
set_option linter.all false
set_option maxRecDepth 100000
set_option maxHeartbeats 4000000
section
attribute [local go_sem ↓] wp_at_zero wp_at_succ
theorem Kz(k o p:Int)(w:World):Calls prog 176 #[.agg #[.int .i64 k,.int .i64 o,.int .i64 p],.agg #[.int .i64 k,.int .i64 o,.int .i64 p]] w fun e w'=>e=.returned (.bool true)/\Bl w w':=by
 go_enter func176,ntmps176
 go_wp2
 go_ret;exact⟨rfl,AO.alloc (by simp) _⟩
theorem Nn(k o p k' o' p':Int)(h:¬(k=k'/\o=o'/\p=p'))(w:World):Calls prog 176 #[.agg #[.int .i64 k,.int .i64 o,.int .i64 p],.agg #[.int .i64 k',.int .i64 o',.int .i64 p']] w fun e w'=>e=.returned (.bool false)/\Bl w w':=by
 by_cases a:k=k'
 ·by_cases b:o=o'
  ·(have c:(p==p')=false:=by simp;intro c;exact h ⟨a,b,c⟩);subst a b;clear h;(go_enter func176,ntmps176);(go_wp2);go_ret;exact⟨rfl,AO.alloc (by simp) _⟩
  ·(have b':(o==o')=false:=by simpa using b);subst a;clear h b;(go_enter func176,ntmps176);(go_wp2);go_ret;exact⟨rfl,AO.alloc (by simp) _⟩
 ·have a':(k==k')=false:=by simpa using a
  clear h a;go_enter func176,ntmps176
  go_wp2
  go_ret;exact⟨rfl,AO.alloc (by simp) _⟩
def Cs (k o p:Int):Int:=1+p*4+o*4096+(if k=2 then 0 else 2)
abbrev Qo (l k o p:Int):Prop:=AG l (Cs k o p)=k/\AX l (Cs k o p)=o/\Ak l (Cs k o p)=p
theorem Nc(l k o p:Int)(h:¬(k=1\/k=2\/k=3))(w:World):Calls prog 139 #[.int .i64 l,.agg #[.int .i64 k,.int .i64 o,.int .i64 p]] w fun e w'=>e=.returned (.int .u64 0)/\Bl w w':=by
 have a:(k != 1)=true:=by simp;omega
 have b:(k != 2)=true:=by simp;omega
 have c:(k != 3)=true:=by simp;omega
 clear h;go_enter func139,ntmps139
 go_wp2
 go_ret;exact⟨rfl,AO⟩
theorem MD(l k o p:Int)(h:k=1\/k=2\/k=3)(h':¬(0<=o/\o<65536/\0<=p/\p<=7))(w:World):Calls prog 139 #[.int .i64 l,.agg #[.int .i64 k,.int .i64 o,.int .i64 p]] w fun e w'=>e=.returned (.int .u64 0)/\Bl w w':=by
 have r:o<0\/(0<=o/\65536<=o)\/(0<=o/\o<65536/\p<0)\/(0<=o/\o<65536/\0<=p/\7<p):=by omega
 clear h';rcases h with rfl|rfl|rfl<;>rcases r with r|⟨r1,r2⟩|⟨r1,r2,r3⟩|⟨r1,r2,r3,r4⟩;all_goals as_aux_lemma =>
  go_enter func139,ntmps139
  go_wp2
  go_ret;exact⟨rfl,AO⟩
theorem MZ(l o p K O P:Int)(r:Bool)(a:0<=o)(b:o<65536)(c:0<=p)(d:p<=7)(hd:∀w,Calls prog 62 #[.int .i64 l,.int .u64 (1+p*4+o*4096+2)] w fun e w'=>e=.returned (.agg #[.int .i64 K,.int .i64 O,.int .i64 P])/\Bl w w')(hs:∀w,Calls prog 176 #[.agg #[.int .i64 K,.int .i64 O,.int .i64 P],.agg #[.int .i64 1,.int .i64 o,.int .i64 p]] w fun e w'=>e=.returned (.bool r)/\Bl w w')(w:World):Calls prog 139 #[.int .i64 l,.agg #[.int .i64 1,.int .i64 o,.int .i64 p]] w fun e w'=>e=.returned (.int .u64 (bif r then 1+p*4+o*4096+2 else 0))/\Bl w w':=by
 cases r;all_goals as_aux_lemma =>
  go_enter func139,ntmps139
  go_wp2
  go_region_held3 (fun w'=>w'.cell? ⟨w.heap.size,0,none⟩=some (.int .i64 1)/\w'.cell? ⟨w.heap.size,1,none⟩=some (.int .i64 o)/\w'.cell? ⟨w.heap.size,2,none⟩=some (.int .i64 p))
   (first|go_keep|(go_split_ands;refine⟨?_,?_,?_⟩<;>(rw[hb1.cell (by simp)];simp))|(go_split_ands;refine⟨?_,?_,?_⟩<;>(rw[hb2.cell (by have:=hb1.size;simp at this ⊢;omega),hb1.cell (by simp)];simp)))
   (first
    | (go_at_call 62;refine(hd _).mono ?_;rintro e w1 ⟨rfl,hb1⟩)
    | (go_at_call 176;refine(hs _).mono ?_;rintro e w2 ⟨rfl,hb2⟩))
  go_wp2
  go_ret;refine⟨rfl,?_⟩;have s1:=hb1.size;simp at s1;exact(AO.drew.trans (hb1.mono (by simp))).trans (hb2.mono (by omega))
theorem Mc(l o p K O P:Int)(r:Bool)(a:0<=o)(b:o<65536)(c:0<=p)(d:p<=7)(hd:∀w,Calls prog 62 #[.int .i64 l,.int .u64 (1+p*4+o*4096+2)] w fun e w'=>e=.returned (.agg #[.int .i64 K,.int .i64 O,.int .i64 P])/\Bl w w')(hs:∀w,Calls prog 176 #[.agg #[.int .i64 K,.int .i64 O,.int .i64 P],.agg #[.int .i64 3,.int .i64 o,.int .i64 p]] w fun e w'=>e=.returned (.bool r)/\Bl w w')(w:World):Calls prog 139 #[.int .i64 l,.agg #[.int .i64 3,.int .i64 o,.int .i64 p]] w fun e w'=>e=.returned (.int .u64 (bif r then 1+p*4+o*4096+2 else 0))/\Bl w w':=by
 cases r;all_goals as_aux_lemma =>
  go_enter func139,ntmps139
  go_wp2
  go_region_held3 (fun w'=>w'.cell? ⟨w.heap.size,0,none⟩=some (.int .i64 3)/\w'.cell? ⟨w.heap.size,1,none⟩=some (.int .i64 o)/\w'.cell? ⟨w.heap.size,2,none⟩=some (.int .i64 p))
   (first|go_keep|(go_split_ands;refine⟨?_,?_,?_⟩<;>(rw[hb1.cell (by simp)];simp))|(go_split_ands;refine⟨?_,?_,?_⟩<;>(rw[hb2.cell (by have:=hb1.size;simp at this ⊢;omega),hb1.cell (by simp)];simp)))
   (first
    | (go_at_call 62;refine(hd _).mono ?_;rintro e w1 ⟨rfl,hb1⟩)
    | (go_at_call 176;refine(hs _).mono ?_;rintro e w2 ⟨rfl,hb2⟩))
  go_wp2
  go_ret;refine⟨rfl,?_⟩;have s1:=hb1.size;simp at s1;exact(AO.drew.trans (hb1.mono (by simp))).trans (hb2.mono (by omega))
theorem My(l o p K O P:Int)(r:Bool)(a:0<=o)(b:o<65536)(c:0<=p)(d:p<=7)(hd:∀w,Calls prog 62 #[.int .i64 l,.int .u64 (1+p*4+o*4096)] w fun e w'=>e=.returned (.agg #[.int .i64 K,.int .i64 O,.int .i64 P])/\Bl w w')(hs:∀w,Calls prog 176 #[.agg #[.int .i64 K,.int .i64 O,.int .i64 P],.agg #[.int .i64 2,.int .i64 o,.int .i64 p]] w fun e w'=>e=.returned (.bool r)/\Bl w w')(w:World):Calls prog 139 #[.int .i64 l,.agg #[.int .i64 2,.int .i64 o,.int .i64 p]] w fun e w'=>e=.returned (.int .u64 (bif r then 1+p*4+o*4096 else 0))/\Bl w w':=by
 cases r;all_goals as_aux_lemma =>
  go_enter func139,ntmps139
  go_wp2
  go_region_held3 (fun w'=>w'.cell? ⟨w.heap.size,0,none⟩=some (.int .i64 2)/\w'.cell? ⟨w.heap.size,1,none⟩=some (.int .i64 o)/\w'.cell? ⟨w.heap.size,2,none⟩=some (.int .i64 p))
   (first|go_keep|(go_split_ands;refine⟨?_,?_,?_⟩<;>(rw[hb1.cell (by simp)];simp))|(go_split_ands;refine⟨?_,?_,?_⟩<;>(rw[hb2.cell (by have:=hb1.size;simp at this ⊢;omega),hb1.cell (by simp)];simp)))
   (first
    | (go_at_call 62;refine(hd _).mono ?_;rintro e w1 ⟨rfl,hb1⟩)
    | (go_at_call 176;refine(hs _).mono ?_;rintro e w2 ⟨rfl,hb2⟩))
  go_wp2
  go_ret;refine⟨rfl,?_⟩;have s1:=hb1.size;simp at s1;exact(AO.drew.trans (hb1.mono (by simp))).trans (hb2.mono (by omega))
def Aw (l k o p:Int):Int:=if (k=1\/k=2\/k=3)/\0<=o/\o<65536/\0<=p/\p<=7/\Qo l k o p then Cs k o p else 0
theorem Bn(l k o p:Int)(w:World):Calls prog 139 #[.int .i64 l,.agg #[.int .i64 k,.int .i64 o,.int .i64 p]] w fun e w'=>e=.returned (.int .u64 (Aw l k o p))/\Bl w w':=by
 unfold Aw;by_cases hk:k=1\/k=2\/k=3
 ·by_cases hr:0<=o/\o<65536/\0<=p/\p<=7
  ·obtain⟨a,b,c,d⟩:=hr;by_cases hf:Qo l k o p
   ·rw[if_pos ⟨hk,a,b,c,d,hf⟩];by_cases h2:k=2
    ·subst h2;(have e:Cs 2 o p=1+p*4+o*4096:=by simp[Cs]);obtain⟨f1,f2,f3⟩:=hf;rw[e] at f1 f2 f3 ⊢;have hd:=CJ l (1+p*4+o*4096) (by omega) (by omega);unfold D7 D9 at hd;rw[f1,f2,f3] at hd;exact My l o p _ _ _ true a b c d hd (Kz 2 o p) w
    ·(have e:Cs k o p=1+p*4+o*4096+2:=by simp[Cs,h2]);obtain⟨f1,f2,f3⟩:=hf;rw[e] at f1 f2 f3 ⊢;have hd:=CJ l (1+p*4+o*4096+2) (by omega) (by omega);unfold D7 D9 at hd;rw[f1,f2,f3] at hd;rcases(show k=1\/k=3 by omega) with rfl|rfl
     ·exact MZ l o p _ _ _ true a b c d hd (Kz 1 o p) w
     ·exact Mc l o p _ _ _ true a b c d hd (Kz 3 o p) w
   ·rw[if_neg (fun h=>hf h.2.2.2.2.2)];by_cases h2:k=2
    ·subst h2;(have e:Cs 2 o p=1+p*4+o*4096:=by simp[Cs]);unfold Qo at hf;rw[e] at hf;have hd:=CJ l (1+p*4+o*4096) (by omega) (by omega);exact My l o p _ _ _ false a b c d hd (Nn _ _ _ 2 o p hf) w
    ·(have e:Cs k o p=1+p*4+o*4096+2:=by simp[Cs,h2]);unfold Qo at hf;rw[e] at hf;have hd:=CJ l (1+p*4+o*4096+2) (by omega) (by omega);rcases(show k=1\/k=3 by omega) with rfl|rfl
     ·exact MZ l o p _ _ _ false a b c d hd (Nn _ _ _ 1 o p hf) w
     ·exact Mc l o p _ _ _ false a b c d hd (Nn _ _ _ 3 o p hf) w
  ·rw[if_neg (fun h=>hr ⟨h.2.1,h.2.2.1,h.2.2.2.1,h.2.2.2.2.1⟩)];exact MD l k o p hk hr w
 ·rw[if_neg (fun h=>hk h.1)];exact Nc l k o p hk w
end
theorem Ir(l k o p:Int):0<=Aw l k o p/\Aw l k o p<2 ^ 64:=by
 unfold Aw;split
 ·rename_i h;obtain⟨_,h1,h2,h3,h4,_⟩:=h;unfold Cs;split<;>omega
 ·omega
def Pt (zs:List Int):Prop:=∀i,0<=zs.getD i 0/\zs.getD i 0<2 ^ 64
theorem DQ(zs:List Int)(i j:Nat)(v:Int):(zs.set i v).getD j 0=if j=i/\i<zs.length then v else zs.getD j 0:=by
 simp only[List.getD_eq_getElem?_getD,List.getElem?_set];by_cases e:i=j
 ·subst e;by_cases h:i<zs.length
  ·simp[h]
  ·simp[h]
 ·simp[e,Ne.symm e]
theorem Pt.set{zs:List Int}(h:Pt zs)(i:Nat)(v:Int)(h0:0<=v)(h1:v<2 ^ 64):Pt (zs.set i v):=by
 intro j;rw[DQ];split
 ·exact⟨h0,h1⟩
 ·exact h j
theorem LG(l:List Int)(x:Int)(i:Nat):(l++[x]).getD i 0=if i=l.length then x else l.getD i 0:=by
 simp only[List.getD_eq_getElem?_getD];by_cases h:i<l.length
 ·rw[List.getElem?_append_left h,if_neg (by omega)]
 ·by_cases e:i=l.length
  ·subst e;simp
  ·rw[List.getElem?_eq_none (by simp;omega),List.getElem?_eq_none (by omega),if_neg e]
structure DS where
 zs:List Int
 lv:List Int
 fr:List Int
 p:Nat
def dA (cs:List Int) (s:DS):Nat:=(Bh cs s.p s.lv.length).toNat
def Xu (cs:List Int) (s:DS):Nat:=(s.fr.getD (dA cs s) 0*16+Bh cs (s.p+1) 16).toNat
def ZI (cs:List Int) (f:Nat) (s:DS):DS :=
 if s.lv.getD (dA cs s) 0<3/\s.zs.getD (Xu cs s) 0=0 then ⟨s.zs.set (Xu cs s) (Aw (s.lv.getD (dA cs s) 0) 1 f 0),s.lv++[s.lv.getD (dA cs s) 0+1],s.fr++[(f:Int)],s.p+2⟩ else ⟨s.zs,s.lv,s.fr,s.p+2⟩
def LR (cs:List Int) (s:DS):Nat->DS
 | 0=>s
 | k+1=>ZI cs (k+1) (LR cs s k)
structure Tm (N p0 k:Nat) (s:DS):Prop where
 len:s.zs.length=N
 same:s.fr.length=s.lv.length
 pos:1<=s.lv.length
 le:s.lv.length<=k+1
 lev:∀i,i<s.lv.length->1<=s.lv.getD i 0/\s.lv.getD i 0<=3
 frm:∀i,i<s.lv.length->0<=s.fr.getD i 0/\s.fr.getD i 0<=k
 wrd:Pt s.zs
 pl:s.p=p0+2*k
theorem Tm.step{cs:List Int}{N p0 k:Nat}{s:DS}(h:Tm N p0 k s)(hc:Ia cs)(hp:p0+2*k<=900000):Tm N p0 (k+1) (ZI cs (k+1) s):=by
 have hA:=Cf cs s.p s.lv.length (by have:=h.pos;omega) hc (by have:=h.pl;omega);have hA1:dA cs s<s.lv.length:=by unfold dA;omega
 have hl:=h.lev _ hA1;unfold ZI;split
 ·refine⟨by simp[h.len],by simp[h.same],by simp,by have:=h.le;simp;omega,fun i hi=>?_,fun i hi=>?_,h.wrd.set _ _ (Ir _ _ _ _).1 (Ir _ _ _ _).2,by have:=h.pl;show s.p+2=_;omega⟩
  ·show 1<=(s.lv++[s.lv.getD (dA cs s) 0+1]).getD i 0/\(s.lv++[s.lv.getD (dA cs s) 0+1]).getD i 0<=3;rw[LG];split
   ·omega
   ·exact h.lev i (by simp at hi;omega)
  ·show 0<=(s.fr++[((k+1:Nat):Int)]).getD i 0/\(s.fr++[((k+1:Nat):Int)]).getD i 0<=((k+1:Nat):Int);rw[LG];split
   ·omega
   ·have:=h.frm i (by simp at hi;have:=h.same;omega);omega
 ·refine⟨h.len,h.same,h.pos,by have:=h.le;show s.lv.length<=_;omega,h.lev,fun i hi=>?_,h.wrd,by have:=h.pl;show s.p+2=_;omega⟩;have:=h.frm i hi;show 0<=s.fr.getD i 0/\s.fr.getD i 0<=((k+1:Nat):Int);omega
theorem Tm.all{cs:List Int}{N p0:Nat}{s:DS}(h:Tm N p0 0 s)(hc:Ia cs):∀k,p0+2*k<=900000->Tm N p0 k (LR cs s k)
 | 0,_=>h
 | k+1,hp=>(Tm.all h hc k (by omega)).step hc (by omega)
def I8 (l b:Int):Int:=if l=2 then Aw 2 2 (b*16) (b%7+1) else Aw 3 3 (b*3) (b%7+1)
theorem PI(l b:Int):0<=I8 l b/\I8 l b<2 ^ 64:=by
 unfold I8;split<;>exact Ir _ _ _ _
def KO (cs:List Int) (f:Int) (p:Nat):Nat:=(f*16+Bh cs p 16).toNat
def KP (cs:List Int) (l f:Int) (s:List Int×Nat):List Int×Nat :=
 if 1<l/\s.1.getD (KO cs f s.2) 0=0 then (s.1.set (KO cs f s.2) (I8 l (Bh cs (s.2+1) 4096)),s.2+2) else (s.1,s.2+1)
def Gd (cs:List Int) (f:Int) (k p:Nat) (zs:List Int):List Int :=
 if k=4/\zs.getD (KO cs f p) 0=0/\Bh cs p 16%2=0 then zs.set (KO cs f p) (Bh cs p 16*4) else zs
def aO (cs:List Int) (l f:Int) (k:Nat) (s:List Int×Nat):List Int×Nat:=(Gd cs f k s.2 (KP cs l f s).1,(KP cs l f s).2)
def Tg (cs:List Int) (l f:Int) (s:List Int×Nat):Nat->List Int×Nat
 | 0=>s
 | k+1=>aO cs l f k (Tg cs l f s k)
def Tk (cs:List Int) (lv fr:List Int) (s:List Int×Nat):Nat->List Int×Nat
 | 0=>s
 | i+1=>Tg cs (lv.getD i 0) (fr.getD i 0) (Tk cs lv fr s i) 5
structure Oq (N P:Nat) (s:List Int×Nat):Prop where
 len:s.1.length=N
 wrd:Pt s.1
 pl:s.2<=P
theorem Oq.a{cs:List Int}{N P:Nat}{s:List Int×Nat}(l f:Int)(h:Oq N P s):Oq N (P+2) (KP cs l f s):=by
 unfold KP;have:=h.pl;split
 ·exact⟨by simp[h.len],h.wrd.set _ _ (PI _ _).1 (PI _ _).2,by show s.2+2<=_;omega⟩
 ·exact⟨h.len,h.wrd,by show s.2+1<=_;omega⟩
theorem Oq.step{cs:List Int}{N P:Nat}{s:List Int×Nat}(l f:Int)(k:Nat)(hc:Ia cs)(h:Oq N P s)(hP:P<=900000):Oq N (P+2) (aO cs l f k s):=by
 have ha:=h.a (cs:=cs) l f;have hb:=Cf cs s.2 16 (by omega) hc (by have:=h.pl;omega);unfold aO Gd;split
 ·exact⟨by simp[ha.len],ha.wrd.set _ _ (by omega) (by omega),ha.pl⟩
 ·exact⟨ha.len,ha.wrd,ha.pl⟩
theorem Oq.b{cs:List Int}{N P:Nat}{s:List Int×Nat}(l f:Int)(hc:Ia cs)(h:Oq N P s):∀k,P+2*k<=900000->Oq N (P+2*k) (Tg cs l f s k)
 | 0,_=>h
 | k+1,hP=>by
  have:=(Oq.b l f hc h k (by omega)).step l f k hc (by omega);rw[show P+2*(k+1)=P+2*k+2 by omega];exact this
theorem Oq.c{cs:List Int}{N P:Nat}{s:List Int×Nat}(lv fr:List Int)(hc:Ia cs)(h:Oq N P s):∀i,P+10*i<=800000->Oq N (P+10*i) (Tk cs lv fr s i)
 | 0,_=>h
 | i+1,hP=>by
  have:=(Oq.c lv fr hc h i (by omega)).b (lv.getD i 0) (fr.getD i 0) hc 5 (by omega);rw[show P+10*(i+1)=P+10*i+2*5 by omega];exact this
def dN (cs:List Int):Nat:=if 24<3+cs.length/6 then 24 else 3+cs.length/6
theorem Rf(cs:List Int):3<=dN cs/\dN cs<=24:=by unfold dN;split<;>omega
def dX (cs:List Int) (p:Nat):Nat:=(Bh cs p 3).toNat
def d0 (cs:List Int) (p:Nat):DS:=⟨List.replicate (16*(dN cs+dX cs p)) 0,[1],[0],p+1⟩
def d1 (cs:List Int) (p:Nat):DS:=LR cs (d0 cs p) (dN cs-1)
def CF (cs:List Int) (p:Nat):List Int×Nat:=Tk cs (d1 cs p).lv (d1 cs p).fr ((d1 cs p).zs,(d1 cs p).p) (d1 cs p).fr.length
theorem Gz(n i:Nat):(List.replicate n (0:Int)).getD i 0=0:=by
 rw[List.getD_eq_getElem?_getD,List.getElem?_replicate];split<;>rfl
theorem Y2(cs:List Int)(p:Nat):Tm (16*(dN cs+dX cs p)) (p+1) 0 (d0 cs p):=by
 refine⟨by simp[d0],rfl,Nat.le_refl _,Nat.le_refl _,fun i hi=>?_,fun i hi=>?_,fun i=>?_,rfl⟩
 ·have:i=0:=by simp[d0] at hi;exact hi
  subst this;simp[d0]
 ·have:i=0:=by simp[d0] at hi;exact hi
  subst this;simp[d0]
 ·have e:(d0 cs p).zs.getD i 0=0:=Gz _ _;rw[e];omega
theorem Xt(cs:List Int)(p:Nat)(hc:Ia cs)(hp:p<=100000):Tm (16*(dN cs+dX cs p)) (p+1) (dN cs-1) (d1 cs p):=(Y2 cs p).all hc _ (by have:=Rf cs;omega)
theorem Xs(cs:List Int)(p:Nat)(hc:Ia cs)(hp:p<=100000):Bh cs p 3=dX cs p/\dX cs p<3:=by
 have:=Cf cs p 3 (by omega) hc (by omega);unfold dX;omega
theorem Pk(cs:List Int)(p:Nat)(hc:Ia cs)(hp:p<=100000):Oq (16*(dN cs+dX cs p)) (p+400) (CF cs p):=by
 have h1:=Xt cs p hc hp;have hn:=Rf cs;have h:=Oq.c (cs:=cs) (P:=p+49) (s:=((d1 cs p).zs,(d1 cs p).p)) (d1 cs p).lv (d1 cs p).fr hc ⟨h1.len,h1.wrd,by have:=h1.pl;show (d1 cs p).p<=_;omega⟩ (d1 cs p).fr.length (by have:=h1.le;have:=h1.same;omega);exact⟨h.len,h.wrd,by have:=h.pl;have:=h1.le;have:=h1.same;show (CF cs p).2<=_;unfold CF;omega⟩
theorem Ck.set{w:World}{g i:Nat}{zs:List Int}{v:Int}(h:Ck w g zs)(hi:i<zs.length):Ck (w.setCell ⟨g,i,none⟩ (.int .u64 v)) g (zs.set i v):=by
 unfold Ck;rw[List.length_set];refine(World.rowIs.set h i _).congr ?_;intro j hj;rw[DQ];by_cases e:j=i
 ·rw[if_pos e,if_pos ⟨e,hi⟩]
 ·rw[if_neg e,if_neg (by simp[e])]
structure TS (w wr:World) (gw gl cl gf cf:Nat) (zs lv fr:List Int):Prop where
 bel:Bl w wr
 wrd:Ck wr gw zs
 base:w.heap.size<=gw
 rl:A8 Ae wr w.heap.size (.slice (some ⟨gl,0,none⟩) lv.length cl) lv
 rf:A8 Ae wr w.heap.size (.slice (some ⟨gf,0,none⟩) fr.length cf) fr
 n1:gw≠gl
 n2:gw≠gf
 n3:gl≠gf
theorem TS.below{w wr w1:World}{gw gl cl gf cf:Nat}{zs lv fr:List Int}(h:TS w wr gw gl cl gf cf zs lv fr)(hb:Bl wr w1):TS w w1 gw gl cl gf cf zs lv fr :=
 ⟨Ab h.bel hb,h.wrd.below hb h.wrd.lt,h.base,h.rl.below hb,h.rf.below hb,h.n1,h.n2,h.n3⟩
theorem TS.put{w wr:World}{gw gl cl gf cf i:Nat}{zs lv fr:List Int}{v:Int}(h:TS w wr gw gl cl gf cf zs lv fr)(hi:i<zs.length):TS w (wr.setCell ⟨gw,i,none⟩ (.int .u64 v)) gw gl cl gf cf (zs.set i v) lv fr:=by
 have hg:wr.grownBy (wr.setCell ⟨gw,i,none⟩ (.int .u64 v)) (some gw):=B7 (World.grownBy.refl _ _) i _;refine⟨h.bel.setCell h.base _,h.wrd.set hi,h.base,h.rl.kept hg ?_,h.rf.kept hg ?_,h.n1,h.n2,h.n3⟩
 ·intro k hk;have:gl=k:=by simpa [Value.ownBlock] using hk
  have:=h.n1;simp;omega
 ·intro k hk;have:gf=k:=by simpa [Value.ownBlock] using hk
  have:=h.n2;simp;omega
theorem TS.pushL{w wr wn:World}{gw gl cl gf cf g1 c1:Nat}{zs lv fr:List Int}{x:Int}{o:Obj}(h:TS w wr gw gl cl gf cf zs lv fr)(hown:wn.ownsRow w.heap.size Ae.T Ae.sz (.slice (some ⟨g1,0,none⟩) (lv.length+1) c1) (lv.length+1) (AK Ae lv++Ae.enc x))(hgrow:(wr.alloc o).grownBy wn (Value.ownBlock (.slice (some ⟨gl,0,none⟩) lv.length cl)))(hat:Value.ownBlock (.slice (some ⟨gl,0,none⟩) lv.length cl)=some g1\/g1=(wr.alloc o).heap.size):TS w wn gw g1 c1 gf cf zs (lv++[x]) fr:=by
 have e1:Value.ownBlock (.slice (some ⟨gl,0,none⟩) lv.length cl)=some gl:=rfl;have hl:=h.wrd.lt;have hfl:=(h.rf.own gf rfl).2;have hal:Bl wr (wr.alloc o):=AO;have hne:∀q,q<wr.heap.size->q≠gl->q≠g1:=by
  intro q hq hn;rcases hat with e|e
  ·rw[e1] at e;(have:gl=g1:=by simpa using e);omega
  ·rw[World.size_alloc] at e;omega
 refine⟨(h.bel.alloc h.bel.size _).grown hgrow (by have:=h.bel.size;simp;omega) (fun q hq=>(h.rl.own q hq).1),?_,h.base,?_,?_,hne _ hl h.n1,h.n2,(hne _ hfl (Ne.symm h.n3)).symm⟩
 ·refine World.rowIs.of_block (World.rowIs.of_block h.wrd (hal.block _ hl)) (hgrow.block gw (by simp;omega) ?_);rw[e1];simpa using h.n1
 ·have:=F6 rfl hown;rw[List.length_append,List.length_singleton];exact this
 ·refine(h.rf.below hal).kept hgrow (fun q hq=>?_);have:gf=q:=by simpa [Value.ownBlock] using hq
  rw[e1];have:=h.n3;simp;omega
theorem TS.pushF{w wr wn:World}{gw gl cl gf cf g1 c1:Nat}{zs lv fr:List Int}{x:Int}{o:Obj}(h:TS w wr gw gl cl gf cf zs lv fr)(hown:wn.ownsRow w.heap.size Ae.T Ae.sz (.slice (some ⟨g1,0,none⟩) (fr.length+1) c1) (fr.length+1) (AK Ae fr++Ae.enc x))(hgrow:(wr.alloc o).grownBy wn (Value.ownBlock (.slice (some ⟨gf,0,none⟩) fr.length cf)))(hat:Value.ownBlock (.slice (some ⟨gf,0,none⟩) fr.length cf)=some g1\/g1=(wr.alloc o).heap.size):TS w wn gw gl cl g1 c1 zs lv (fr++[x]):=by
 have e1:Value.ownBlock (.slice (some ⟨gf,0,none⟩) fr.length cf)=some gf:=rfl;have hl:=h.wrd.lt;have hll:=(h.rl.own gl rfl).2;have hal:Bl wr (wr.alloc o):=AO;have hne:∀q,q<wr.heap.size->q≠gf->q≠g1:=by
  intro q hq hn;rcases hat with e|e
  ·rw[e1] at e;(have:gf=g1:=by simpa using e);omega
  ·rw[World.size_alloc] at e;omega
 refine⟨(h.bel.alloc h.bel.size _).grown hgrow (by have:=h.bel.size;simp;omega) (fun q hq=>(h.rf.own q hq).1),?_,h.base,?_,?_,h.n1,hne _ hl h.n2,hne _ hll h.n3⟩
 ·refine World.rowIs.of_block (World.rowIs.of_block h.wrd (hal.block _ hl)) (hgrow.block gw (by simp;omega) ?_);rw[e1];simpa using h.n2
 ·refine(h.rl.below hal).kept hgrow (fun q hq=>?_);have:gl=q:=by simpa [Value.ownBlock] using hq
  rw[e1];have:=h.n3;simp;omega
 ·have:=F6 rfl hown;rw[List.length_append,List.length_singleton];exact this
end Go.Proofs.YtnmhkgmmpkjjeaaGreat
