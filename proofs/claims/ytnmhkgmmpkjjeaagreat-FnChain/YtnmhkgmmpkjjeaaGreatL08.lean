import Derived.Test.YtnmhkgmmpkjjeaaGreatL07
import Derived.Deep.Slices
import Derived.ChangeOld
import Derived.Laws.BitsLemmas
namespace Go.Proofs.YtnmhkgmmpkjjeaaGreat
open Go.ChangeShapes Go.WideShapes Go.ChangeAt Go.RowKit
set_option linter.unusedVariables false
theorem UY (x:Int):AJ 3 x≠1:=by
 unfold AJ;rw[if_neg (by omega)];by_cases h1:x%2=0
 ·rw[if_pos h1];omega
 ·rw[if_neg h1];by_cases h2:x/32%128≠0\/x/268435456≠0
  ·rw[if_pos h2];omega
  ·rw[if_neg h2,if_neg (by omega),if_neg (by omega)];by_cases h3:(3:Int)=3/\x/2%2=1/\0<x/4%8
   ·rw[if_pos h3];omega
   ·rw[if_neg h3];omega
theorem J6 (g:Nat) (zs:List Int) (c:Nat) (hz:D3 zs) (hcc:zs.length<=c) (B:Nat) (hgB:g<B):∀(d:Nat),d<=2->∀(p:P3) (v:Value) (qs:List P3) (w:World),Vi zs d p->At w g zs->B<=w.heap.size->qs.length<=100000-10000*d->Ab w B v qs ->
  Calls Tryz.prog 148 #[v,.agg #[.slice (some ⟨g,0,none⟩) zs.length c],.agg #[.int .i64 p.fr,.int .i64 p.lv,.int .i64 p.pg]] w fun e w'=>UE w B v (qs++Ak zs (Ae zs.length) d p) e w'
 | 0,_,p,v,qs,w,hp,hg,hB,hq,hv=>by
  have hm:=BS zs.length hz.n0;have hle:=D9 zs.length;obtain⟨a,b,c1,e,f,g1⟩:=hp;have hl:p.lv=3:=by omega
  exact Sg g zs c p hl B hgB 100000 (by omega) v qs (by omega) w hg hB hv
 | d+1,hd,p,v,qs,w,hp,hg,hB,hq,hv=>by
  have hm:=BS zs.length hz.n0;have hle:=D9 zs.length;have hp':=hp;obtain⟨a,b,c1,e,f,g1⟩:=hp';refine TW g zs c p p.fr.toNat (by omega) (by omega) (by omega) hcc b (by omega) f g1 (Ak zs (Ae zs.length) d) ?_ (Ae zs.length) hm.1
   (fun i hi w=>Cb p.lv (A7 zs p.fr i) (hz.rng _).1 (hz.rng _).2 w) B hgB (100000-10000*(d+1)) (by omega) ?_ v qs hq w hg hB hv
  ·intro q;have:=Dx zs (Ae zs.length) d q;have:WO d<=17:=by
    rcases(show d=0\/d=1 by omega) with rfl|rfl<;>decide
   omega
  ·intro i w v qs hi hl hg hB hq hv;exact J6 g zs c hz hcc B hgB d (by omega) (AT zs p i) v qs w (Iu hp i hi hl) hg hB (by omega) hv
end Go.Proofs.YtnmhkgmmpkjjeaaGreat
namespace Go.Proofs.YtnmhkgmmpkjjeaaGreat
open Go.ChangeShapes Go.WideShapes Go.ChangeAt Go.RowKit
set_option linter.unusedVariables false
attribute [local go_sem ↓] Go.wp_at_zero Go.wp_at_succ
def Aa:Dc Int:=⟨75,1,fun x=>[.int .u64 x],0,by omega,fun _=>rfl⟩
theorem C9.erow {w:World} {g base:Nat} {zs:List Int} (h:C9 w g zs) (hb:base<=g) (hn:zs.length<=1048576):A6 Aa w base (.slice (some ⟨g,0,none⟩) zs.length zs.length) zs:=by
 refine A6.of_row (cap:=zs.length) rfl hb h (by simp[Aa]) (Nat.le_refl _) (by unfold maxLen;omega) ?_;intro i hi j hj;have:j=0:=by simp[Aa] at hj;omega
 subst this;simp[C8,Aa,AI]
theorem Hh {w:World} {base:Nat} {v:Value} {zs:List Int} (h:A6 Aa w base v zs):∃a cap,v=.slice a zs.length cap/\(0<zs.length->∃g N f,a=some ⟨g,0,none⟩/\base<=g/\w.rowIs g 75 N f/\zs.length<=N/\∀i,i<zs.length->f i=.int .u64 (zs.getD i 0)):=by
 obtain⟨a,c,e,ha⟩:=h.form;refine⟨a,c,e,fun h0=>?_⟩;obtain⟨g,N,f,p,q,r,s,t⟩:=ha h0;refine⟨g,N,f,p,q,r,by simpa [Aa] using s,fun i hi=>?_⟩;have:=t i hi 0 (by decide);simpa [C8,Aa,AI] using this
structure B9 where
 addr:Int
 word:Int
def CA:Dc B9:=⟨188,2,fun x=>[.int .i64 x.addr,.int .u64 x.word],⟨0,0⟩,by omega,fun _=>rfl⟩
theorem Li:(Tryz.prog.info? 188).map (fun i=>(i.zero,i.size,i.bytes))=some (some (.agg #[.int .i64 0,.int .u64 0]),2,16):=by kernel_rfl
structure RB where
 page:Int
 size:Int
 out:Int
 perm:Int
 doom:Bool
def X9:Dc RB:=⟨60,5,fun x=>[.int .i64 x.page,.int .i64 x.size,.int .i64 x.out,.int .i64 x.perm,.bool x.doom],⟨0,0,0,0,false⟩,by omega,fun _=>rfl⟩
structure WP where
 level:Int
 page:Int
 table:Int
 doom:Bool
def XM:Dc WP:=⟨65,4,fun x=>[.int .i64 x.level,.int .i64 x.page,.int .i64 x.table,.bool x.doom],⟨0,0,0,false⟩,by omega,fun _=>rfl⟩
structure Ff where
 mem:List Int
 pend:List B9
 tlb:List RB
 wc:List WP
end Go.Proofs.YtnmhkgmmpkjjeaaGreat
namespace Go.Proofs.YtnmhkgmmpkjjeaaGreat
open Go.ChangeShapes Go.WideShapes Go.ChangeAt Go.RowKit
set_option linter.unusedVariables false
def Dp (p:Int):Bool:=decide (0<=p)&&decide (p<4096)
def Pu (c:Int) (b:Nat):Bool:=decide (c/2 ^ b%2=1)
def MR (page level:Int):Int:=if level=1 then page/256 else if level=2 then page/16%16 else page%16
theorem P5 (p:Int) (w:World) : Calls Tryz.prog 58 #[.int .i64 p] w fun e w'=>e=.returned (.bool (Dp p))/\w'=w:=by
 unfold Dp;by_cases h:0<=p
 ·have h':decide (0<=p)=true:=by simpa using h
  rw[h'];by_cases k:p<4096
  ·(have k':decide (p<4096)=true:=by simpa using k);rw[k'];(go_enter Tryz.func58,Tryz.ntmps58);(go_wp2);go_ret;exact⟨rfl,rfl⟩
  ·(have k':decide (p<4096)=false:=by simpa using k);rw[k'];(go_enter Tryz.func58,Tryz.ntmps58);(go_wp2);go_ret;exact⟨rfl,rfl⟩
 ·have h':decide (0<=p)=false:=by simpa using h
  rw[h'];go_enter Tryz.func58,Tryz.ntmps58
  go_wp2
  go_ret;exact⟨rfl,rfl⟩
theorem S7 (p l:Int) (hp0:0<=p) (hp1:p<4096) (w:World) : Calls Tryz.prog 131 #[.int .i64 p,.int .i64 l] w fun e w'=>e=.returned (.int .i64 (MR p l))/\w'=w:=by
 by_cases h1:l=1
 ·subst h1;go_enter Tryz.func131,Tryz.ntmps131
  go_wp2
  go_ret;exact⟨rfl,rfl⟩
 ·by_cases h2:l=2
  ·subst h2;(go_enter Tryz.func131,Tryz.ntmps131);(go_wp2);go_ret;exact⟨rfl,rfl⟩
  ·(have e:MR p l=p%16:=by simp[MR,h1,h2]);rw[e];(have h1':(l==1)=false:=by simpa using h1);(have h2':(l==2)=false:=by simpa using h2);clear e h1 h2;(go_enter Tryz.func131,Tryz.ntmps131);(go_wp2);go_ret;exact⟨rfl,rfl⟩
theorem Vy (p l:Int) (hp0:0<=p) (hp1:p<4096):0<=MR p l/\MR p l<16:=by
 unfold MR;by_cases a:l=1<;>by_cases b:l=2<;>simp[a,b]<;>omega
def Ws (a b:RB):Bool:=decide (a.page=b.page)&&decide (a.size=b.size)&&decide (a.out=b.out)&&decide (a.perm=b.perm)
def Wc (e:WP) (p:Int):Bool:=decide (p-p%Bj (e.level-1)=e.page)
end Go.Proofs.YtnmhkgmmpkjjeaaGreat
namespace Go.Proofs.YtnmhkgmmpkjjeaaGreat
open Go.ChangeShapes Go.WideShapes Go.ChangeAt Go.RowKit
set_option linter.unusedVariables false
attribute [local go_sem ↓] Go.wp_at_zero Go.wp_at_succ

end Go.Proofs.YtnmhkgmmpkjjeaaGreat
namespace Go.Proofs.YtnmhkgmmpkjjeaaGreat
open Go.ChangeShapes Go.WideShapes Go.ChangeAt Go.RowKit
set_option linter.unusedVariables false
def To (M:Ff) (a:Int):Nat->Int
 | 0=>M.mem.getD a.toNat 0
 | k+1=>if (AI CA M.pend k).addr=a then (AI CA M.pend k).word else To M a k
def VU (M:Ff) (a:Int) (late:Bool):Int:=if late then To M a M.pend.length else M.mem.getD a.toNat 0
structure JO where
 kind:Int
 out:Int
 perm:Int
 size:Int
def Nq (h:JO):Value:=.agg #[.int .i64 h.kind,.int .i64 h.out,.int .i64 h.perm,.int .i64 h.size]
def PO (f:Nat->Bool) (n:Nat):Bool:=(List.range n).any f
theorem Rg (f:Nat->Bool) (i n:Nat) (hi:i<n) (h:f i=true):PO f n=true:=by
 unfold PO;rw[List.any_eq_true];exact⟨i,by simpa using hi,h⟩
def XG (a b:WP):Bool:=decide (a.level=b.level)&&decide (a.page=b.page)&&decide (a.table=b.table)&&(a.doom==b.doom)
def We (a b:RB):Bool:=Ws a b&&(a.doom==b.doom)
def Wp (M:Ff) (e:WP):Bool:=PO (fun i=>XG (AI XM M.wc i) e) M.wc.length
def Vw (M:Ff) (e:RB):Bool:=PO (fun i=>We (AI X9 M.tlb i) e) M.tlb.length
def Vf (M:Ff) (e:WP):Ff:=if Wp M e||decide (256<=M.wc.length) then M else ⟨M.mem,M.pend,M.tlb,M.wc++[e]⟩
def US (M:Ff) (e:RB):Ff:=if Vw M e||decide (256<=M.tlb.length) then M else ⟨M.mem,M.pend,M.tlb++[e],M.wc⟩
def Bx (M:Ff) (page choice level frame:Int):Int:=VU M (frame*16+MR page level) (Pu choice level.toNat)
def Ni (level x:Int):Int:=if AJ level x=2 then 16 else 1
def TU (page choice:Int) (M:Ff) (level x:Int) (doom:Bool):Ff×JO :=
 if AJ level x=0 then (M,⟨0,0,0,0⟩)
 else if AJ level x=2\/AJ level x=3 then
  (if Pu choice 6 then US M ⟨page-page%Ni level x,Ni level x,AV level x,B6 level x,doom⟩ else M,⟨1,AV level x+page%Ni level x,B6 level x,Ni level x⟩)
 else (M,⟨3,0,0,0⟩)
def Tg (M:Ff) (level x:Int):Bool:=decide (AJ level x=1)&&decide (AV level x<Ae M.mem.length)
def SU (page choice:Int) (M:Ff) (level x:Int) (doom:Bool):Ff :=
 if Pu choice (level+3).toNat then Vf M ⟨level+1,page-page%Bj level,AV level x,doom⟩ else M
def VD (page choice:Int):Nat->Ff->Int->Int->Bool->Ff×JO
 | 0,M,level,frame,doom=>TU page choice M level (Bx M page choice level frame) doom
 | d+1,M,level,frame,doom =>
  if Tg M level (Bx M page choice level frame) then
   VD page choice d (SU page choice M level (Bx M page choice level frame) doom) (level+1) (AV level (Bx M page choice level frame)) doom
  else TU page choice M level (Bx M page choice level frame) doom
def XD (M:Ff) (page level:Int) (i:Nat):Bool:=decide ((AI XM M.wc i).level=level)&&Wc (AI XM M.wc i) page
end Go.Proofs.YtnmhkgmmpkjjeaaGreat
namespace Go.Proofs.YtnmhkgmmpkjjeaaGreat
open Go.ChangeShapes Go.WideShapes Go.ChangeAt Go.RowKit
set_option linter.unusedVariables false
attribute [local go_sem ↓] Go.wp_at_zero Go.wp_at_succ
theorem Kp (p:Int) (w:World) : Calls Tryz.prog 90 #[.int .i64 p] w fun e w'=>e=.returned (.bool (Dp p))/\w'=w:=by
 unfold Dp;by_cases h1:0<=p
 ·have h1':decide (0<=p)=true:=by simpa using h1
  by_cases h2:p<4096
  ·(have h2':decide (p<4096)=true:=by simpa using h2);rw[h1',h2'];clear h1 h2;(go_enter Tryz.func90,Tryz.ntmps90);(go_wp2);go_ret;exact⟨rfl,rfl⟩
  ·(have h2':decide (p<4096)=false:=by simpa using h2);rw[h1',h2'];clear h1 h2;(go_enter Tryz.func90,Tryz.ntmps90);(go_wp2);go_ret;exact⟨rfl,rfl⟩
 ·have h1':decide (0<=p)=false:=by simpa using h1
  rw[h1'];clear h1;go_enter Tryz.func90,Tryz.ntmps90
  go_wp2
  go_ret;exact⟨by simp,rfl⟩
end Go.Proofs.YtnmhkgmmpkjjeaaGreat
namespace Go.Proofs.YtnmhkgmmpkjjeaaGreat
open Go.ChangeShapes Go.WideShapes Go.ChangeAt Go.RowKit
set_option linter.unusedVariables false
def Ie (a:Option Addr):Option Nat:=(Value.slice a 0 0).ownBlock
theorem IZ (a:Option Addr) (n c:Nat):(Value.slice a n c).ownBlock=Ie a:=by
 unfold Ie;rcases a with _|⟨b,o,sp⟩
 ·rfl
 ·cases o<;>cases sp<;>rfl
theorem A6.ownA {α:Type} {E:Dc α} {w:World} {base:Nat} {a:Option Addr} {n c:Nat} {xs:List α} (h:A6 E w base (.slice a n c) xs):∀k,Ie a=some k->base<=k/\k<w.heap.size :=
 fun k hk=>h.own k (by rw[IZ a n c];exact hk)
end Go.Proofs.YtnmhkgmmpkjjeaaGreat
namespace Go.Proofs.YtnmhkgmmpkjjeaaGreat
open Go.ChangeShapes Go.WideShapes Go.ChangeAt Go.RowKit
set_option linter.unusedVariables false
attribute [local go_sem ↓] Go.wp_at_zero Go.wp_at_succ
theorem CW {P:Program} (w:World) (t e:TypeId) (a:Option Addr) (l c:Nat) (h:P.underlying t=some (.slice e)):(binOp .eql t (.slice a l c) (.slice none 0 0)).run P w=.ok (.bool a.isNone) w:=by
 simp[binOp,go_sem,run_equal_slice_nil w t e a l c h]
theorem I4 (g j:Nat):(⟨g,0,none⟩:Addr).add j=⟨g,j,none⟩:=by
 unfold Addr.add;split
 ·rename_i h;subst h;rfl
 ·simp
theorem A6.news {α:Type} {E:Dc α} {w:World} {base g n c:Nat} {xs:List α} (h:A6 E w base (.slice (some ⟨g,0,none⟩) n c) xs):n=xs.length/\∀j u,(AE E xs)[j]?=some u->w.cell? ((⟨g,0,none⟩:Addr).add j)=some u:=by
 rcases h.2 with⟨e,_⟩|⟨g',cap,cur,e,hb,hg,hn,hm,hs,ht⟩
 ·cases e
 ·simp only[Value.slice.injEq,Option.some.injEq,Addr.mk.injEq,and_true] at e;obtain⟨rfl,rfl,rfl⟩:=e;refine⟨rfl,fun j u hj=>?_⟩;rw[<- ht,List.getElem?_take] at hj;split at hj
  ·simp only[Array.getElem?_toList] at hj;rw[I4];simp[World.cell?,hg,hj]
  ·cases hj
set_option maxRecDepth 100000 in
theorem Ol (a:Option Addr) (c b:Nat) (xs:List Int) (w:World) (hn:xs.length<=1048576) (h:A6 Aa w b (.slice a xs.length c) xs) : Calls Tryz.prog 112 #[.slice a xs.length c] w fun r w'=>∃a' c',r=.returned (.slice a' xs.length c')/\A6 Aa w' w.heap.size (.slice a' xs.length c') xs/\Below w.heap.size w w':=by
 obtain⟨iE,hiE,hz0,hz1,hz2⟩:=info_parts Hx;have h1:∀u∈AE Aa xs,u.oneCell'=true:=by
  intro u hu;simp only[AE,List.mem_flatMap] at hu;obtain⟨x,_,hx⟩:=hu;simp[Aa] at hx;subst hx;rfl
 have hl:=Dv Aa xs;have hl':(AE Aa xs).length=xs.length*1:=hl;rcases h.2 with⟨e,h0⟩|⟨g,cap,cur,e,hb,hg,hm,hmm,hs,ht⟩
 ·simp only[Value.slice.injEq] at e;obtain⟨rfl,_,rfl⟩:=e;have hx:xs=[]:=List.length_eq_zero_iff.1 h0;subst hx;have heq:∀w,(binOp .eql 33 (.slice none 0 0) (.slice none 0 0)).run Tryz.prog w=.ok (.bool true) w:=fun w=>CW w _ _ _ _ _ Tryz.underlying33
  clear h h1 hl hl';go_enter Tryz.func112,Tryz.ntmps112
  go_wp2_with fail
  go_ret;exact⟨none,0,rfl,⟨by simp[AE],.inl ⟨rfl,rfl⟩⟩,Below.refl _ _⟩
 ·simp only[Value.slice.injEq] at e;obtain⟨rfl,_,rfl⟩:=e;obtain⟨_,hnews⟩:=h.news;have hgl:=(h.ownA g rfl).2;have HN:Hid (∀j u,(AE Aa xs)[j]?=some u->(w.alloc (.cells #[] 75)).cell? ((⟨g,0,none⟩:Addr).add j)=some u):=fun j u hj=>by
   have h3:=hnews j u hj;rw[I4] at h3 ⊢;rw[World.cell?_alloc_lt _ _ _ (by simpa using hgl)];exact h3
  have H1:Hid _:=h1;have HL:Hid ((AE Aa xs).length=xs.length*1):=hl';have HOWN:Hid ((w.alloc (.cells #[] 75)).ownsRow w.heap.size 75 1 (.slice (some ⟨w.heap.size,0,none⟩) 0 0) 0 []):=⟨rfl,.inr ⟨w.heap.size,0,#[],rfl,Nat.le_refl _,heap_alloc_new w _,Nat.le_refl _,by unfold maxLen;omega,rfl,rfl⟩⟩;have heq:∀w,(binOp .eql 33 (.slice (some ⟨g,0,none⟩) xs.length c) (.slice none 0 0)).run Tryz.prog w=.ok (.bool false) w:=fun w=>CW w _ _ _ _ _ Tryz.underlying33
  clear h h1 hl hl' hnews hg ht hs hmm hm hb;go_enter Tryz.func112,Tryz.ntmps112
  go_wp2_with (at_builtin;refine wpList_append_own _ rfl (.tmp 5) (.tmp 6) 33 rfl w.heap.size 75 iE _ 1 8 Tryz.underlying33 hiE hz0 hz1 hz2 rfl (by omega) _ 0 [] rfl HOWN.out ⟨g,0,none⟩ xs.length c (AE Aa xs) rfl HL.out HN.out H1.out (by unfold maxLen;omega) (by omega) (by simp) ?_)
  intro v' wn hown hgrow _;have hnew:A6 Aa wn w.heap.size v' xs:=hown;have hbn:Below w.heap.size w wn:=((Below.refl _ _).alloc (Nat.le_refl _) _).grown hgrow (by simp) (fun q hq=>by simp[Value.ownBlock] at hq;omega);obtain⟨a',c',rfl,_⟩:=hnew.form;have HNEW:Hid _:=hnew;have HBN:Hid _:=hbn;clear hown hgrow hnew hbn;go_wp2_with fail
  go_ret;exact⟨a',c',rfl,HNEW.out,HBN.out⟩
set_option maxRecDepth 100000 in
theorem PI (a:Option Addr) (c b:Nat) (xs:List B9) (w:World) (hn:xs.length<=1048576) (h:A6 CA w b (.slice a xs.length c) xs) : Calls Tryz.prog 113 #[.slice a xs.length c] w fun r w'=>∃a' c',r=.returned (.slice a' xs.length c')/\A6 CA w' w.heap.size (.slice a' xs.length c') xs/\Below w.heap.size w w':=by
 obtain⟨iE,hiE,hz0,hz1,hz2⟩:=info_parts Li;have h1:∀u∈AE CA xs,u.oneCell'=true:=by
  intro u hu;simp only[AE,List.mem_flatMap] at hu;obtain⟨x,_,hx⟩:=hu;simp[CA] at hx;rcases hx with rfl|rfl<;>rfl
 have hl:=Dv CA xs;have hl':(AE CA xs).length=xs.length*2:=hl;rcases h.2 with⟨e,h0⟩|⟨g,cap,cur,e,hb,hg,hm,hmm,hs,ht⟩
 ·simp only[Value.slice.injEq] at e;obtain⟨rfl,_,rfl⟩:=e;have hx:xs=[]:=List.length_eq_zero_iff.1 h0;subst hx;have heq:∀w,(binOp .eql 42 (.slice none 0 0) (.slice none 0 0)).run Tryz.prog w=.ok (.bool true) w:=fun w=>CW w _ _ _ _ _ Tryz.underlying42
  clear h h1 hl hl';go_enter Tryz.func113,Tryz.ntmps113
  go_wp2_with fail
  go_ret;exact⟨none,0,rfl,⟨by simp[AE],.inl ⟨rfl,rfl⟩⟩,Below.refl _ _⟩
 ·simp only[Value.slice.injEq] at e;obtain⟨rfl,_,rfl⟩:=e;obtain⟨_,hnews⟩:=h.news;have hgl:=(h.ownA g rfl).2;have HN:Hid (∀j u,(AE CA xs)[j]?=some u->(w.alloc (.cells #[] 188)).cell? ((⟨g,0,none⟩:Addr).add j)=some u):=fun j u hj=>by
   have h3:=hnews j u hj;rw[I4] at h3 ⊢;rw[World.cell?_alloc_lt _ _ _ (by simpa using hgl)];exact h3
  have H1:Hid _:=h1;have HL:Hid ((AE CA xs).length=xs.length*2):=hl';have HOWN:Hid ((w.alloc (.cells #[] 188)).ownsRow w.heap.size 188 2 (.slice (some ⟨w.heap.size,0,none⟩) 0 0) 0 []):=⟨rfl,.inr ⟨w.heap.size,0,#[],rfl,Nat.le_refl _,heap_alloc_new w _,Nat.le_refl _,by unfold maxLen;omega,rfl,rfl⟩⟩;have heq:∀w,(binOp .eql 42 (.slice (some ⟨g,0,none⟩) xs.length c) (.slice none 0 0)).run Tryz.prog w=.ok (.bool false) w:=fun w=>CW w _ _ _ _ _ Tryz.underlying42
  clear h h1 hl hl' hnews hg ht hs hmm hm hb;go_enter Tryz.func113,Tryz.ntmps113
  go_wp2_with (at_builtin;refine wpList_append_own _ rfl (.tmp 5) (.tmp 6) 42 rfl w.heap.size 188 iE _ 2 16 Tryz.underlying42 hiE hz0 hz1 hz2 rfl (by omega) _ 0 [] rfl HOWN.out ⟨g,0,none⟩ xs.length c (AE CA xs) rfl HL.out HN.out H1.out (by unfold maxLen;omega) (by omega) (by simp) ?_)
  intro v' wn hown hgrow _;have hnew:A6 CA wn w.heap.size v' xs:=hown;have hbn:Below w.heap.size w wn:=((Below.refl _ _).alloc (Nat.le_refl _) _).grown hgrow (by simp) (fun q hq=>by simp[Value.ownBlock] at hq;omega);obtain⟨a',c',rfl,_⟩:=hnew.form;have HNEW:Hid _:=hnew;have HBN:Hid _:=hbn;clear hown hgrow hnew hbn;go_wp2_with fail
  go_ret;exact⟨a',c',rfl,HNEW.out,HBN.out⟩
end Go.Proofs.YtnmhkgmmpkjjeaaGreat
namespace Go.Proofs.YtnmhkgmmpkjjeaaGreat
open Go.ChangeShapes Go.WideShapes Go.ChangeAt Go.RowKit
set_option linter.unusedVariables false
theorem GG {w:World} {b c:Nat} {a:Option Addr} {zs:List Int} (h:A6 Aa w b (.slice a zs.length c) zs) (h0:0<zs.length):∃g,a=some ⟨g,0,none⟩/\b<=g/\zs.length<=c/\At w g zs:=by
 have h':=h;rcases h.2 with⟨e,h0'⟩|⟨g,cap,cur,e,hb,hg,hn,hm,hs,ht⟩
 ·omega
 ·simp only[Value.slice.injEq] at e;obtain⟨rfl,_,rfl⟩:=e;obtain⟨a',c',e,ha⟩:=Hh h';obtain⟨g',N,f,e1,_,hr,hN,hf⟩:=ha h0;simp only[Value.slice.injEq] at e;rw[<- e.1] at e1;cases e1;refine⟨g,rfl,hb,hn,hr.lt,fun i hi=>?_⟩;have:=hr.cell (i:=i) (by omega);rwa [hf i hi] at this
end Go.Proofs.YtnmhkgmmpkjjeaaGreat
