import Derived.Test.YtnmhkgmmpkjjeaaGreatK31
import Derived.Test.YtnmhkgmmpkjjeaaGreatK34
namespace Go.Proofs.YtnmhkgmmpkjjeaaGreat
open Go.ChangeShapes Go.WideShapes Go.ChangeAt Go.RowKit
set_option linter.unusedVariables false
set_option maxRecDepth 100000
attribute [local go_sem ↓] Go.wp_at_zero Go.wp_at_succ
theorem UF (x:Int) (h0:0<=x) (h1:x<18446744073709551616) (w:World) : Calls Tryz.prog 78 #[.int .u64 x,.int .i64 0] w fun e w'=>e=.returned (.int .i64 (x%2))/\w'=w:=by
 have hfl:∀w:World,Calls Tryz.prog 133 #[.int .u64 x,.int .i64 0,.int .i64 1] w fun e w'=>e=.returned (.int .u64 (x%2))/\w'=w:=fun w=>by
  go_enter Tryz.func133,Tryz.ntmps133
  go_wp2_with fail
  go_ret;exact⟨rfl,rfl⟩
 have hm:0<=x%2/\x%2<2:=by omega
 go_enter Tryz.func78,Tryz.ntmps78
 go_wp2_with (go_at_call 133;refine(hfl _).mono ?_;rintro e w1 ⟨rfl,hw1⟩;obtain rfl:=hw1.symm)
 go_ret;exact⟨rfl,rfl⟩
def Bt (zs:List Int) (xs:List A9):List BP×Int :=
 if BM zs=false then ([],1) else if FE xs=false then ([],2) else if An zs.length<((AC (lay xs) 256).length:Nat) then ([],3)
 else (C8 zs (An zs.length).toNat (lay xs) (A8 zs),0)
theorem IK {zs:List Int} {xs:List A9} (h:BM zs=false):Bt zs xs=([],1):=by unfold Bt;rw[if_pos h]
theorem Iq {zs:List Int} {xs:List A9} (h:BM zs=true) (h2:FE xs=false):Bt zs xs=([],2):=by unfold Bt;rw[if_neg (by rw[h];decide),if_pos h2]
theorem IR {zs:List Int} {xs:List A9} (h:BM zs=true) (h2:FE xs=true) (h3:An zs.length<((AC (lay xs) 256).length:Nat)):Bt zs xs=([],3):=by unfold Bt;rw[if_neg (by rw[h];decide),if_neg (by rw[h2];decide),if_pos h3]
theorem Ff {zs:List Int} {xs:List A9} (h:BM zs=true) (h2:FE xs=true) (h3:¬An zs.length<((AC (lay xs) 256).length:Nat)):Bt zs xs=(C8 zs (An zs.length).toNat (lay xs) (A8 zs),0):=by unfold Bt;rw[if_neg (by rw[h];decide),if_neg (by rw[h2];decide),if_neg h3]
def DB (w:World) (r:List BP×Int) (e:Ending) (w':World):Prop :=
 ∃a c,e=.returned (.tuple #[.slice a r.1.length c,.int .i64 r.2])/\A6 Ba w' w.heap.size (.slice a r.1.length c) r.1/\Below w.heap.size w w'
theorem Rq {H:Nat->Ht} {n:Nat} {ps:List P3} (hn:0<n) (h:BO n ps) (hw:(AC H 256).length<=n) (k:Nat) (hk:k<=(AC H 256).length):(AA H ps++BK (AA H ps) (AC H 256) k).length<=1100:=by
 have h1:=Qs (H:=H) (n:=n) (by omega) h;have h2:=List.countP_le_length (p:=Qf (AA H ps)) (l:=AC H 256);have h3:=Gn (AA H ps) (AC H 256) k hk;have h4:=Ie H 256;rw[List.length_append];omega
theorem Xe (s:List (Nat×Nat)) (k:Nat) (hk:k<s.length):Ai (PQ s) k=⟨-1,(s[k]).1,(s[k]).2⟩:=by
 unfold Ai PQ;rw[List.getD_eq_getElem?_getD,List.getElem?_map,List.getElem?_eq_getElem hk];rfl
structure II (w wr:World) (v1 v2:Value) (l1 l2:List BP) (gm:Nat) (mk:Nat->Bool):Prop where
 two:GJ Ba Ba w wr v1 v2 l1 l2
 ne:∀g n c,(v1=.slice (some ⟨g,0,none⟩) n c\/v2=.slice (some ⟨g,0,none⟩) n c)->gm≠g
 mark:wr.rowIs gm 4 4096 (fun p=>.bool (mk p))
 lo:w.heap.size<=gm
theorem II.below {w wr w1:World} {v1 v2:Value} {l1 l2:List BP} {gm:Nat} {mk:Nat->Bool} (h:II w wr v1 v2 l1 l2 gm mk) (hb:Below wr.heap.size wr w1):II w w1 v1 v2 l1 l2 gm mk :=
 ⟨h.two.below hb,h.ne,h.mark.of_block (hb.block gm h.mark.lt),h.lo⟩
theorem II.push1 {w w1 wn:World} {g1 c1 g1' c1':Nat} {v2:Value} {l1 l2:List BP} {x:BP} {o:Obj} {gm:Nat} {mk:Nat->Bool} (h:II w w1 (.slice (some ⟨g1,0,none⟩) l1.length c1) v2 l1 l2 gm mk) (hown:wn.ownsRow w.heap.size Ba.T Ba.sz (.slice (some ⟨g1',0,none⟩) (l1.length+1) c1') (l1.length+1) (AK Ba l1++Ba.enc x)) (hgrow:(w1.alloc o).grownBy wn (Value.ownBlock (.slice (some ⟨g1,0,none⟩) l1.length c1))) (hat:Value.ownBlock (.slice (some ⟨g1,0,none⟩) l1.length c1)=some g1'\/g1'=w1.heap.size+1) : II w wn (.slice (some ⟨g1',0,none⟩) (l1.length+1) c1') v2 (l1++[x]) l2 gm mk:=by
 have hl:=h.mark.lt;refine⟨GJ.push1 h.two hown hgrow hat,?_,?_,h.lo⟩
 ·intro g n c hh;rcases hh with hh|hh
  ·simp only[Value.slice.injEq,Option.some.injEq,Addr.mk.injEq,and_true] at hh;obtain⟨rfl,_⟩:=hh;rcases hat with e|e
   ·have e':some g1=some g1':=e;simp only[Option.some.injEq] at e';rw[<- e'];exact h.ne g1 _ _ (.inl rfl)
   ·omega
  ·exact h.ne g n c (.inr hh)
 ·have hne:some gm≠Value.ownBlock (.slice (some ⟨g1,0,none⟩) l1.length c1):=fun e=>h.ne g1 _ _ (.inl rfl) (by have e':some gm=some g1:=e;simpa using e')
  exact h.mark.of_block ((hgrow.block gm (by simp;omega) hne).trans (Below.heap_alloc _ _ _ hl))
theorem II.swap {w wr:World} {v1 v2:Value} {l1 l2:List BP} {gm:Nat} {mk:Nat->Bool} (h:II w wr v1 v2 l1 l2 gm mk):II w wr v2 v1 l2 l1 gm mk:=⟨h.two.swap,fun g n c hh=>h.ne g n c hh.symm,h.mark,h.lo⟩
theorem II.push2 {w w1 wn:World} {g2 c2 g2' c2':Nat} {v1:Value} {l1 l2:List BP} {x:BP} {o:Obj} {gm:Nat} {mk:Nat->Bool} (h:II w w1 v1 (.slice (some ⟨g2,0,none⟩) l2.length c2) l1 l2 gm mk) (hown:wn.ownsRow w.heap.size Ba.T Ba.sz (.slice (some ⟨g2',0,none⟩) (l2.length+1) c2') (l2.length+1) (AK Ba l2++Ba.enc x)) (hgrow:(w1.alloc o).grownBy wn (Value.ownBlock (.slice (some ⟨g2,0,none⟩) l2.length c2))) (hat:Value.ownBlock (.slice (some ⟨g2,0,none⟩) l2.length c2)=some g2'\/g2'=w1.heap.size+1) :
  II w wn v1 (.slice (some ⟨g2',0,none⟩) (l2.length+1) c2') l1 (l2++[x]) gm mk:=(II.push1 h.swap hown hgrow hat).swap
theorem II.set {w wr:World} {v1 v2:Value} {l1 l2:List BP} {gm:Nat} {mk mk':Nat->Bool} {p:Nat} (h:II w wr v1 v2 l1 l2 gm mk) (hm:∀q,mk' q=(mk q||decide (q=p))):II w (wr.setCell ⟨gm,p,none⟩ (.bool true)) v1 v2 l1 l2 gm mk':=by
 obtain⟨⟨⟨g1,c1,g2,c2,e1,e2,h1,h2,hne⟩,hbel⟩,hn,hmk,hlo⟩:=h;have n1:gm≠g1:=hn g1 _ _ (.inl e1);have n2:gm≠g2:=hn g2 _ _ (.inr e2);have hg:wr.grownBy (wr.setCell ⟨gm,p,none⟩ (.bool true)) (some gm):=Au (World.grownBy.refl _ _) _ _;refine⟨⟨⟨g1,c1,g2,c2,e1,e2,h1.kept hg ?_,h2.kept hg ?_,hne⟩,hbel.setCell hlo _⟩,hn,?_,hlo⟩
 ·intro k hk e;have hk':some g1=some k:=hk;rw[<- hk'] at e;simp only[Option.some.injEq] at e;exact n1 e.symm
 ·intro k hk e;have hk':some g2=some k:=hk;rw[<- hk'] at e;simp only[Option.some.injEq] at e;exact n2 e.symm
 ·have h5:=hmk.set p (.bool true);refine(show (wr.setCell ⟨gm,p,none⟩ (.bool true)).rowIs gm 4 4096 (fun q=>.bool (mk' q)) from ?_);have e:(fun q=>Value.bool (mk' q))=(fun q=>if q=p then Value.bool true else Value.bool (mk q)):=by
   funext q;rw[hm q];by_cases hq:q=p
   ·rw[if_pos hq,decide_eq_true hq,Bool.or_true]
   ·rw[if_neg hq,decide_eq_false hq,Bool.or_false]
  rw[e];exact h5
theorem Jl (zs:List Int) (H:Nat->Ht) (all:List P3) (es:List En) (e:En):AX zs H all (es++[e])=AX zs H all es++(if GZ zs H all e then [⟨1,e.ad,0,0⟩] else []):=by
 unfold AX;rw[List.filter_append,List.map_append];cases h:GZ zs H all e<;>simp[h]
theorem Jb (zs:List Int) (H:Nat->Ht) (all:List P3) (es:List En) (e:En):Af zs H all (es++[e])=Af zs H all es++(if Lt zs H all e then [⟨1,e.ad,0,C6 H all e.lv e.pg⟩] else []):=by
 unfold Af;rw[List.filter_append,List.map_append];cases h:Lt zs H all e<;>simp[h]
theorem O9 (zs:List Int) (H:Nat->Ht) (all:List P3) (es:List En) (e:En) (p:Nat):Ez zs H all (es++[e]) p=(Ez zs H all es p||(GZ zs H all e&&decide (e.pg<=p/\(p:Int)<e.pg+CH e.lv))):=by
 unfold Ez;rw[List.any_append];simp
theorem Fp (zs:List Int) (H:Nat->Ht) (all:List P3) (es:List En):(AX zs H all es).length<=es.length:=by
 unfold AX;rw[List.length_map];exact List.length_filter_le _ _
theorem GA (zs:List Int) (H:Nat->Ht) (all:List P3) (es:List En):(Af zs H all es).length<=es.length:=by
 unfold Af;rw[List.length_map];exact List.length_filter_le _ _
theorem N7 {n:Nat} {ps:List P3} (H:Nat->Ht) (hn:0<n) (h:BO n ps) (lv pg:Int):AE (AA H ps) lv pg<n:=by
 by_cases h0:0<=AE (AA H ps) lv pg
 ·obtain⟨q,hq,_,_,e⟩:=CI h0;rw[<- e];exact(h.fr (by omega) (BN.1 hq).1).2
 ·omega
theorem Xj {n:Nat} {ps:List P3} (H:Nat->Ht) (hn:0<n) (h:BO n ps) (i:Nat) (hi:i<(Bc (AA H ps) 4096).length):∃lv pg ad:Nat,AI O7 (Bc (AA H ps) 4096) i=⟨lv,pg,ad⟩/\1<=lv/\lv<=3/\pg+Ao lv<=4096/\ad<n*16:=by
 have hm:AI O7 (Bc (AA H ps) 4096) i∈Bc (AA H ps) 4096:=by
  unfold AI;rw[List.getD_eq_getElem?_getD,List.getElem?_eq_getElem hi];exact List.getElem_mem hi
 obtain⟨page,lv,hp,h1,h3,hmod,e1,e2,h0,e3⟩:=GR hm;have hf:=N7 H hn h lv (page-page%(Ao lv*16):Nat);obtain⟨F,hF⟩:∃F:Nat,AE (AA H ps) lv (page-page%(Ao lv*16):Nat)=F:=⟨(AE (AA H ps) lv (page-page%(Ao lv*16):Nat)).toNat,by omega⟩
 rw[hF] at e3 hf;refine⟨lv,page,F*16+page/Ao lv%16,?_,h1,h3,?_,?_⟩
 ·rcases hx:AI O7 (Bc (AA H ps) 4096) i with⟨a,b,c⟩;rw[hx] at e1 e2 e3;dsimp only at e1 e2 e3;rw[e1,e2,e3];simp
 ·rcases(show lv=1\/lv=2\/lv=3 by omega) with rfl|rfl|rfl
  ·have:page%256=0:=hmod;show page+256<=4096;omega
  ·have:page%16=0:=hmod;show page+16<=4096;omega
  ·show page+1<=4096;omega
 ·have:page/Ao lv%16<16:=Nat.mod_lt _ (by decide);omega
theorem WP (w:World) (x:BP):A6 Ba (w.alloc (.cells #[.int .i64 x.kind,.int .i64 x.a,.int .i64 x.b,.int .u64 x.word] 77)) w.heap.size (.slice (some ⟨w.heap.size,0,none⟩) 1 1) [x] :=
 ⟨by simp[AK,Ba],.inr ⟨w.heap.size,1,#[.int .i64 x.kind,.int .i64 x.a,.int .i64 x.b,.int .u64 x.word],rfl,Nat.le_refl _,heap_alloc_new w _,Nat.le_refl _,by unfold maxLen;omega,by simp[Ba],by simp[AK,Ba]⟩⟩
theorem Pg (w wr:World) (v:Value) (l:List BP) (a2:Option Addr) (c2 b2:Nat) (ys:List BP) (hlen:l.length+ys.length<=100000) (h:Ex Ba w wr v l) (h2:A6 Ba wr b2 (.slice a2 ys.length c2) ys) (hne:∀k,Value.ownBlock (.slice a2 ys.length c2)=some k->∀g n c,v=.slice (some ⟨g,0,none⟩) n c->k≠g) : Calls Tryz.prog 80 #[v,.slice a2 ys.length c2] wr fun e w'=>∃v',e=.returned v'/\Ex Ba w w' v' (l++ys)/\(∀k,k<wr.heap.size->(∀g n c,v=.slice (some ⟨g,0,none⟩) n c->k≠g)->w'.heap[k]?=wr.heap[k]?)/\wr.heap.size<=w'.heap.size/\(∀g n c,v'=.slice (some ⟨g,0,none⟩) n c->wr.heap.size<=g\/∃n c,v=.slice (some ⟨g,0,none⟩) n c):=by
 obtain⟨⟨g,c,rfl,hr⟩,hbel⟩:=h;refine(NK g c w.heap.size l a2 c2 b2 ys wr hlen hbel.size hr h2 (fun k hk=>hne k hk g _ _ rfl)).mono fun e w' ⟨v',he,hg⟩=>?_
 obtain⟨⟨g',c',e',hr',hg'⟩,hgr⟩:=hg;have hgl:=(hr.own g rfl).1;refine⟨v',he,⟨⟨g',c',e',hr'⟩,⟨hgr.os.trans hbel.os,hgr.tape.trans hbel.tape,hgr.output.trans hbel.output,Nat.le_trans hbel.size hgr.size,fun k hk=>?_⟩⟩,fun k hk hn=>hgr.block k hk (fun e=>hn g _ _ rfl (by simpa using e)),hgr.size,fun g0 n0 c0 e0=>?_⟩
 ·have h1:=hbel.size;exact(hgr.block k (by omega) (fun e=>by have h9:k=g:=(by simpa using e);omega)).trans (hbel.block k hk)
 ·rw[e'] at e0;simp only[Value.slice.injEq,Option.some.injEq,Addr.mk.injEq,and_true] at e0;obtain⟨rfl,_⟩:=e0;rcases hg' with e|e
  ·exact .inr ⟨_,_,by rw[e]⟩
  ·exact .inl e
theorem PD (gone:List P3) (t:Nat):Al (t+1) gone=Al t gone++(if B5 gone (t:Nat) then [⟨4,(t:Nat),0,0⟩] else []):=by
 unfold Al;rw[List.range_succ,List.filter_append,List.map_append];cases h:B5 gone (t:Nat)<;>simp[h]
theorem PA (gone:List P3) (t:Nat):(Al t gone).length<=t:=by
 unfold Al;rw[List.length_map];exact Nat.le_trans (List.length_filter_le _ _) (by rw[List.length_range];omega)
theorem Ix (H:Nat->Ht) (all:List P3) (t:P3) (k:Nat):Ak H all t (k+1)=Ak H all t k++[⟨1,t.fr*16+(k:Nat),0,C6 H all t.lv (t.pg+(k:Nat)*CH t.lv)⟩]:=by
 unfold Ak;rw[List.range_succ,List.map_append];rfl
theorem Gi (H:Nat->Ht) (all:List P3) (t:P3) (k:Nat):(Ak H all t k).length=k:=by unfold Ak;simp
theorem Jj (H:Nat->Ht) (all fs:List P3) (t:Nat) (ht:t<fs.length):AM H all (fs.take (t+1))=AM H all (fs.take t)++Ak H all (Ai fs t) 16:=by
 unfold AM;rw[G8 fs t ht,List.flatMap_append];simp
theorem FD (H:Nat->Ht) (all fs:List P3):(AM H all fs).length=fs.length*16:=by
 unfold AM;induction fs with
 | nil=>rfl
 | cons p r ih=>rw[List.flatMap_cons,List.length_append,ih,Gi,List.length_cons];omega
theorem Jk (H:Nat->Ht) (all fs:List P3):AM H all fs=[]↔fs=[]:=by
 constructor
 ·intro h;have:=FD H all fs;rw[h] at this;simp at this;exact List.eq_nil_of_length_eq_zero (by omega)
 ·intro h;rw[h];rfl
theorem YU {BR T:List BP} (h:¬BR=[]):(if BR.isEmpty then [] else ((BR++[Cz])++T)++[Cz])=(([]++BR++[Cz])++T)++[Cz]:=by
 rw[if_neg (by rw[List.isEmpty_iff];exact h),List.nil_append]
theorem Y4 {α:Type} {BR:List α} (h:¬BR=[]):decide ((0:Int)<(BR.length:Int))=true:=decide_eq_true (by have:=List.length_pos_iff.2 h;omega)
theorem U7 {α:Type} {BR:List α} (h:¬BR=[]):decide (0<BR.length)=true:=decide_eq_true (List.length_pos_iff.2 h)
theorem Z2 {α:Type} {BR:List α} (h:BR=[]):decide ((0:Int)<(BR.length:Int))=false/\decide (0<BR.length)=false:=by subst h;exact⟨rfl,rfl⟩
theorem XN (H:Nat->Ht) (AL FR:List P3) (O2:List BP) (h:FR=[]):O2++BG (AM H AL FR)=O2++AM H AL FR:=by rw[(Jk H AL FR).2 h,JB]
theorem Xb (H:Nat->Ht) (AL FR:List P3) (O2:List BP) (h:¬FR=[]):O2++BG (AM H AL FR)=(O2++AM H AL FR)++[Cz]:=by rw[Ef (fun e=>h ((Jk H AL FR).1 e)),List.append_assoc]
def Yk (zs:List Int) (e:En):Prop:=∃lv pg ad:Nat,e=⟨lv,pg,ad⟩/\1<=lv/\lv<=3/\pg+Ao lv<=4096/\ad<zs.length
structure It (V C:Nat) (zs:List Int) (H:Nat->Ht) (all:List P3) (wp:World) (Inv:(Nat->Prop)->List En->World->Prop):Prop where
 run:∀(a b:Value) (w:World),(callFunc V #[a,b]).run Tryz.prog w=.ok (.enter V #[a,b]) w
 visit:∀S es e wX,Inv S es wX->Yk zs e->es.length<=100000->Calls Tryz.prog V #[GP zs H all e.lv e.pg e.ad,.pointer (some ⟨C,0,none⟩)] wX fun r w'=>r=.returned (.tuple #[])/\∃S',Inv S' (es++[e]) w'/\BJ S wX w'/\(∀k,k<wX.heap.size->S' k->S k)
 below:∀S es wX wY,Inv S es wX->Below wX.heap.size wX wY->Inv S es wY
 pl:∀S es wX,Inv S es wX->Below wp.heap.size wp wX
 lt:∀S es wX,Inv S es wX->∀k,S k->k<wX.heap.size
def F8 (Inv:(Nat->Prop)->List En->World->Prop) (S:Nat->Prop) (es:List En) (w:World) (r:Ending) (w':World):Prop :=
 r=.returned (.tuple #[])/\∃S',Inv S' es w'/\BJ S w w'/\(∀k,k<w.heap.size->S' k->S k)
def JI (kept:List P3) (f:Nat) (t:P3) (i:Nat):List En:=Cc t i :: (if 0<=(DF kept t i).fr then KV kept f (DF kept t i) else [])
def DU (kept:List P3) (f:Nat) (t:P3) (n:Nat):List En:=(List.range n).flatMap (JI kept f t)
theorem IB (kept:List P3) (f:Nat) (t:P3) (n:Nat):DU kept f t (n+1)=DU kept f t n++JI kept f t n:=by
 unfold DU;rw[List.range_succ,List.flatMap_append];simp
theorem VC (kept:List P3) (f:Nat) (t:P3):KV kept (f+1) t=DU kept f t 16:=rfl
def GN:Nat->Nat
 | 0=>0
 | f+1=>16*(1+GN f)
theorem Rk (kept:List P3):∀(f:Nat) (t:P3),(KV kept f t).length<=GN f
 | 0,t=>Nat.le_refl _
 | f+1,t=>by
  have h:∀n,(DU kept f t n).length<=n*(1+GN f):=by
   intro n;induction n with
   | zero=>exact Nat.zero_le _
   | succ n ih =>
    rw[IB,List.length_append,Nat.add_mul,Nat.one_mul];have:(JI kept f t n).length<=1+GN f:=by
     unfold JI;rw[List.length_cons];split
     ·have:=Rk kept f (DF kept t n);omega
     ·simp
    omega
  exact h 16
theorem MC (kept:List P3) (f:Nat) (t:P3):∀n,(DU kept f t n).length<=n*(1+GN f)
 | 0=>Nat.zero_le _
 | n+1=>by
  have ih:=MC kept f t n;rw[IB,List.length_append,Nat.add_mul,Nat.one_mul];have:(JI kept f t n).length<=1+GN f:=by
   unfold JI;rw[List.length_cons];split
   ·have:=Rk kept f (DF kept t n);omega
   ·simp
  omega
theorem SV {kept fs:List P3} {lv pg:Int} (h0:∀q∈kept,0<=q.fr):∃a,FO (BF kept fs) lv pg=hV a (decide (0<=AE kept lv pg))/\(0<=AE kept lv pg->a=AE kept lv pg):=by
 by_cases h:0<=AE kept lv pg
 ·refine⟨AE kept lv pg,?_,fun _=>rfl⟩;unfold FO;rw[Ro h,decide_eq_true h]
 ·rw[decide_eq_false h];unfold FO;cases hg:F5 (BF kept fs) lv pg with
  | none=>exact⟨0,rfl,fun hh=>absurd hh h⟩
  | some x =>
   have:=Xf h0 (Int.not_le.1 h) x hg;exact⟨x.fr,by dsimp only;rw[this],fun hh=>absurd hh h⟩
set_option maxHeartbeats 8000000 in
theorem Hx (V C gp gz cz gl B:Nat) (zs:List Int) (H:Nat->Ht) (kept fs:List P3) (wp:World) (Inv:(Nat->Prop)->List En->World->Prop) (hI:It V C zs H (kept++fs) wp Inv) (hP:Iu wp gp gz cz gl B zs H (BF kept fs)) (hO:Te zs H kept fs) (hzl:zs.length<=1048576) (f lv p fr:Nat) (h1:1<=lv) (h3:lv<=3) (hp:p+ID lv<=4096) (hfr:fr*16+16<=zs.length) (hrec:∀(i:Nat) (S:Nat->Prop) (es:List En) wX,es.length+GN f<=100000->i<16->0<=AE kept ((lv:Int)+1) (p+i*Ao lv:Nat)->Inv S es wX->Calls Tryz.prog 226 #[.pointer (some ⟨gp,0,none⟩),.agg #[.int .i64 (AE kept ((lv:Int)+1) (p+i*Ao lv:Nat)),.int .i64 ((lv:Int)+1),.int .i64 (p+i*Ao lv:Nat)],.func (.func V) #[] #[.pointer (some ⟨C,0,none⟩)]] wX (F8 Inv S (es++KV kept f ⟨AE kept ((lv:Int)+1) (p+i*Ao lv:Nat),(lv:Int)+1,(p+i*Ao lv:Nat)⟩) wX)) : ∀(S:Nat->Prop) (es:List En) w,es.length+GN (f+1)<=100000->Inv S es w->Calls Tryz.prog 226 #[.pointer (some ⟨gp,0,none⟩),.agg #[.int .i64 fr,.int .i64 lv,.int .i64 p],.func (.func V) #[] #[.pointer (some ⟨C,0,none⟩)]] w (F8 Inv S (es++KV kept (f+1) ⟨fr,lv,p⟩) w):=by
 intro S es w hes hw;have HLB:Hid (∀i,i<16->(es++DU kept f ⟨fr,lv,p⟩ i).length+(1+GN f)<=100000):=fun i hi=>by
  have h1:=MC kept f ⟨fr,lv,p⟩ i;have h2:(i+1)*(1+GN f)<=16*(1+GN f):=Nat.mul_le_mul_right _ (by omega);have h3:GN (f+1)=16*(1+GN f):=rfl;rw[h3] at hes;rw[Nat.add_mul,Nat.one_mul] at h2;rw[List.length_append];omega
 rw[VC];unfold F8;obtain⟨wb,hwb⟩:∃wb,wb=(w.alloc (.cells #[.int .i64 fr,.int .i64 lv,.int .i64 p] 67)).alloc (.cells #[.int .i64 lv,.int .i64 p] 223):=⟨_,rfl⟩
 have hbb:Below w.heap.size w wb:=by rw[hwb];exact((Below.refl _ _).alloc (Nat.le_refl _) _).alloc (by simp) _
 have hzb:wb.heap.size=w.heap.size+2:=by rw[hwb];simp
 have q0:wb.cell? ⟨w.heap.size,0,none⟩=some (.int .i64 fr):=by rw[hwb];simp[go_sem]
 have q1:wb.cell? ⟨w.heap.size,1,none⟩=some (.int .i64 lv):=by rw[hwb];simp[go_sem]
 have q2:wb.cell? ⟨w.heap.size,2,none⟩=some (.int .i64 p):=by rw[hwb];simp[go_sem]
 have s0:wb.cell? ⟨w.heap.size+1,0,none⟩=some (.int .i64 lv):=by rw[hwb];simp[go_sem]
 have s1:wb.cell? ⟨w.heap.size+1,1,none⟩=some (.int .i64 p):=by rw[hwb];simp[go_sem]
 have HQ:Hid (∀wX:World,wX.heap[w.heap.size]?=wb.heap[w.heap.size]?->wX.heap[w.heap.size+1]?=wb.heap[w.heap.size+1]?->(wX.cell? ⟨w.heap.size,0,none⟩=some (.int .i64 fr)/\wX.cell? ⟨w.heap.size,1,none⟩=some (.int .i64 lv)/\wX.cell? ⟨w.heap.size,2,none⟩=some (.int .i64 p))/\(wX.cell? ⟨w.heap.size+1,0,none⟩=some (.int .i64 lv)/\wX.cell? ⟨w.heap.size+1,1,none⟩=some (.int .i64 p))):=fun wX e1 e2=>⟨⟨(EY e1).trans q0,(EY e1).trans q1,(EY e1).trans q2⟩,(EY e2).trans s0,(EY e2).trans s1⟩
 have HST:Hid (Inv S (es++DU kept f ⟨fr,lv,p⟩ 0) wb/\BJ S w wb/\¬S w.heap.size/\¬S (w.heap.size+1)):=A5 <| by
  have e0:DU kept f ⟨fr,lv,p⟩ 0=[]:=rfl;rw[e0,List.append_nil];exact⟨hI.below S es w wb hw hbb,BJ.of_below hbb,fun h=>by have:=hI.lt S es w hw _ h;omega,fun h=>by have:=hI.lt S es w hw _ h;omega⟩
 have HVI:Hid (It V C zs H (kept++fs) wp Inv):=hI;have HPS:Hid (∀S es wX,Inv S es wX->Iu wX gp gz cz gl B zs H (BF kept fs)):=fun S es wX h=>hP.below (hI.pl S es wX h)
 have HEN:Hid (∀(i:Nat) wX,i<16->Iu wX gp gz cz gl B zs H (BF kept fs)->Calls Tryz.prog 193 #[.pointer (some ⟨gp,0,none⟩),.agg #[.int .i64 fr,.int .i64 lv,.int .i64 p],.int .i64 i] wX fun e w'=>e=.returned (GP zs H (kept++fs) lv (p+i*Ao lv:Nat) (fr*16+i:Nat))/\Below wX.heap.size wX w'):=fun i wX hi hX=>Je gp gz cz gl B zs H kept fs fr lv p i wX hzl h1 h3 hi hp hfr hO hX
 have HREC:Hid _:=hrec;have HX:Hid (∀i:Nat,i<16->p+i*Ao lv+Ao lv<=4096/\Yk zs (Cc ⟨fr,lv,p⟩ i)/\Cc ⟨fr,lv,p⟩ i=⟨lv,(p+i*Ao lv:Nat),(fr*16+i:Nat)⟩/\DF kept ⟨fr,lv,p⟩ i=⟨AE kept ((lv:Int)+1) (p+i*Ao lv:Nat),(lv:Int)+1,(p+i*Ao lv:Nat)⟩):=fun i hi=>by
  have hm:p+i*Ao lv+Ao lv<=4096:=by
   have h16:ID lv=16*Ao lv:=by
    rcases(show lv=1\/lv=2\/lv=3 by omega) with rfl|rfl|rfl<;>rfl
   have:i*Ao lv<=15*Ao lv:=Nat.mul_le_mul_right _ (by omega);omega
  have ec:=Ci lv;have e1:(p:Int)+(i:Int)*CH (lv:Int)=((p+i*Ao lv:Nat):Int):=by rw[ec];simp
  have e2:Cc ⟨fr,lv,p⟩ i=⟨lv,(p+i*Ao lv:Nat),(fr*16+i:Nat)⟩:=by
   unfold Cc;dsimp only;rw[e1];simp
  refine⟨hm,⟨lv,p+i*Ao lv,fr*16+i,e2,h1,h3,by omega,by omega⟩,e2,?_⟩;unfold DF;dsimp only;rw[e1]
 have HK0:Hid (∀q∈kept,0<=q.fr):=fun q hq=>hO.fr q (List.mem_append_left _ hq)
 have HSB:Hid (∀(i:Nat) wX,i<16->Calls Tryz.prog 180 #[.agg #[.int .i64 lv,.int .i64 p],.int .i64 i] wX fun e w'=>e=.returned (.agg #[.int .i64 ((lv:Int)+1),.int .i64 (p+i*Ao lv:Nat)])/\Below wX.heap.size wX w'):=fun i wX hi=>by
  have:=Hg lv p i (by omega) (by omega) (by omega) (by omega) (by omega) (by omega) wX;have e1:(p:Int)+(i:Int)*CH (lv:Int)=((p+i*Ao lv:Nat):Int):=by rw[Ci lv];simp
  rw[e1] at this;exact this
 have HWB:Hid (wb=_):=hwb;have HBB:Hid (Below w.heap.size w wb):=hbb;have HZB:Hid (wb.heap.size=w.heap.size+2):=hzb;have HWL:Hid (∀S es wX,Inv S es wX->∀k,S k->k<wX.heap.size):=hI.lt;clear hw hI hP hO hrec hwb hbb hzb q0 q1 q2 s0 s1 hp hfr;go_enter Tryz.func226,Tryz.ntmps226
 go_wp2_with fail
 rw[<- HWB.out];go_loopw [15] (fun iv wr=>∃i:Nat,i<=16/\iv=.int .i64 i/\∃S':Nat->Prop,Inv S' (es++DU kept f ⟨fr,lv,p⟩ i) wr/\BJ S w wr/\(∀k,k<w.heap.size->S' k->S k)/\wr.heap[w.heap.size]?=wb.heap[w.heap.size]?/\wr.heap[w.heap.size+1]?=wb.heap[w.heap.size+1]?/\w.heap.size+2<=wr.heap.size/\¬S' w.heap.size/\¬S' (w.heap.size+1)) (fun iv _=>16-(intOf iv).toNat)
 case atStart=>exact⟨0,Nat.zero_le _,rfl,S,HST.out.1,HST.out.2.1,fun k _ h=>h,rfl,rfl,by have:=HZB.out;omega,HST.out.2.2⟩
 case round =>
  obtain⟨i,hi,rfl,S1,hinv,htch,hS1,hz1,hz2,hz3,hn1,hn2⟩:=hrel;by_cases hlt:i<16
  ·obtain⟨hpg,heok,hen,hund⟩:=HX.out i hlt;have hent:=HEN.out i wr hlt (HPS.out _ _ _ hinv);obtain⟨⟨q0,q1,q2⟩,s0,s1⟩:=HQ.out wr hz1 hz2;have HSTEP:Hid (DU kept f ⟨fr,lv,p⟩ (i+1)=DU kept f ⟨fr,lv,p⟩ i++(Cc ⟨fr,lv,p⟩ i :: (if 0<=(DF kept ⟨fr,lv,p⟩ i).fr then KV kept f (DF kept ⟨fr,lv,p⟩ i) else []))):=IB kept f _ i;have HVIS:Hid (∀wX,Below wr.heap.size wr wX->Calls Tryz.prog V #[GP zs H (kept++fs) lv (p+i*Ao lv:Nat) (fr*16+i:Nat),.pointer (some ⟨C,0,none⟩)] wX (F8 Inv S1 ((es++DU kept f ⟨fr,lv,p⟩ i)++[Cc ⟨fr,lv,p⟩ i]) wX)):=fun wX hX=>by
    have:=HVI.out.visit S1 _ (Cc ⟨fr,lv,p⟩ i) wX (HVI.out.below _ _ _ _ hinv hX) heok (by have:=HLB.out i hlt;omega);rw[hen] at this ⊢;exact this
   have HSB1:Hid _:=HSB.out i;(have HR1:Hid (∀(S:Nat->Prop) (es:List En) wX,es.length+GN f<=100000->0<=AE kept ((lv:Int)+1) (p+i*Ao lv:Nat)->Inv S es wX->_):=fun S es wX hl h=>HREC.out i S es wX hl hlt h);rw[hund] at HSTEP;dsimp only at HSTEP;(obtain⟨X,hX⟩:∃X,p+i*Ao lv=X:=⟨_,rfl⟩);(obtain⟨AD,hAD⟩:∃AD,fr*16+i=AD:=⟨_,rfl⟩);rw[hX] at hent HSTEP HVIS hpg hund;rw[hAD] at hent HVIS;have HSB2:Hid (∀wX,Calls Tryz.prog 180 #[.agg #[.int .i64 lv,.int .i64 p],.int .i64 i] wX fun e w'=>e=.returned (.agg #[.int .i64 ((lv:Int)+1),.int .i64 X])/\Below wX.heap.size wX w'):=fun wX=>by
    have:=HSB1.out wX hlt;rw[hX] at this;exact this
   have HR2:Hid (∀(S:Nat->Prop) (es:List En) wX,es.length+GN f<=100000->0<=AE kept ((lv:Int)+1) X->Inv S es wX->Calls Tryz.prog 226 #[.pointer (some ⟨gp,0,none⟩),.agg #[.int .i64 (AE kept ((lv:Int)+1) X),.int .i64 ((lv:Int)+1),.int .i64 X],.func (.func V) #[] #[.pointer (some ⟨C,0,none⟩)]] wX (F8 Inv S (es++KV kept f ⟨AE kept ((lv:Int)+1) X,(lv:Int)+1,X⟩) wX)):=fun S es wX hl h1 h2=>by
    have:=HR1.out S es wX hl (by rw[hX];exact h1) h2;rw[hX] at this;exact this
   generalize GP zs H (kept++fs) lv X AD=EV at hent HVIS;generalize Cc ⟨fr,lv,p⟩ i=EE at HSTEP HVIS heok hen;obtain⟨la,hlook,hla⟩:=SV (kept:=kept) (fs:=fs) (lv:=(lv:Int)+1) (pg:=X) HK0.out;have HLA:Hid (0<=AE kept ((lv:Int)+1) X->la=AE kept ((lv:Int)+1) X):=hla;(obtain⟨kb,hkb⟩:∃kb,decide (0<=AE kept ((lv:Int)+1) X)=kb:=⟨_,rfl⟩);have HKB:Hid (decide (0<=AE kept ((lv:Int)+1) X)=kb):=hkb;rw[hkb] at hlook;have HLK:Hid (∀wX,Iu wX gp gz cz gl B zs H (BF kept fs)->(Instr.lookup 158 (.map (some B)) (kV ((lv:Int)+1) X) false).run Tryz.prog wX=.ok (.agg #[.int .i64 la,.bool kb]) wX):=fun wX h=>by
    have:=GY B (BF kept fs) ((lv:Int)+1) X false wX h.map;rw[hlook] at this;exact this
   have HINV:Hid (Inv S1 (es++DU kept f ⟨fr,lv,p⟩ i) wr):=hinv;have HTCH:Hid (BJ S w wr):=htch;have HS1:Hid (∀k,k<w.heap.size->S1 k->S k):=hS1;have HZ1:Hid (wr.heap[w.heap.size]?=wb.heap[w.heap.size]?/\wr.heap[w.heap.size+1]?=wb.heap[w.heap.size+1]?):=⟨hz1,hz2⟩;have HNS:Hid (¬S1 w.heap.size/\¬S1 (w.heap.size+1)):=⟨hn1,hn2⟩;clear HSB1 HR1 hX hAD hund hla hlook hkb hinv htch hS1 hz1 hz2 hn1 hn2 heok hen;(go_wp2_with fail);refine hent.mono ?_;rintro e w1 ⟨rfl,hb1⟩;have hvis:=HVIS.out w1 hb1;have HB1:Hid (Below wr.heap.size wr w1):=hb1;clear hent hb1;(go_wp2_with fail);rw[HVI.out.run,Oper.upon_enter];refine hvis.mono ?_;rintro e w2 ⟨rfl,S2,hinv2,htc2,hs2⟩;have hw1:w.heap.size+2<=w1.heap.size:=Nat.le_trans hz3 HB1.out.size;have bz1:w2.heap[w.heap.size]?=wb.heap[w.heap.size]?:=(htc2.block _ (by omega) HNS.out.1).trans ((HB1.out.block _ (by omega)).trans HZ1.out.1);have bz2:w2.heap[w.heap.size+1]?=wb.heap[w.heap.size+1]?:=(htc2.block _ (by omega) HNS.out.2).trans ((HB1.out.block _ (by omega)).trans HZ1.out.2);have HZ2:Hid (w2.heap[w.heap.size]?=wb.heap[w.heap.size]?/\w2.heap[w.heap.size+1]?=wb.heap[w.heap.size+1]?):=⟨bz1,bz2⟩;have HNS2:Hid (¬S2 w.heap.size/\¬S2 (w.heap.size+1)):=⟨fun h=>HNS.out.1 (hs2 _ (by omega) h),fun h=>HNS.out.2 (hs2 _ (by omega) h)⟩;have HT2:Hid (BJ S w w2):=(HTCH.out.then (BJ.of_below (S:=fun _=>False) HB1.out) (fun k _ h=>h.elim)).then htc2 (fun k hk h=>HS1.out k hk h);(have HS2:Hid (∀k,k<w.heap.size->S2 k->S k):=fun k hk h=>HS1.out k hk (hs2 k (by omega) h));have HI2:Hid (Inv S2 ((es++DU kept f ⟨fr,lv,p⟩ i)++[EE]) w2):=hinv2;have hw2:w.heap.size+2<=w2.heap.size:=Nat.le_trans hw1 htc2.size;obtain⟨_,s0,s1⟩:=HQ.out w2 bz1 bz2;have hsb:=HSB2.out w2;clear hvis hinv2 htc2 hs2 bz1 bz2 q0 q1 q2;(go_wp2_with fail);refine hsb.mono ?_;rintro e w3 ⟨rfl,hb3⟩;(obtain⟨w4,hw4⟩:∃w4,w4=w3.alloc (.cells #[.int .i64 ((lv:Int)+1),.int .i64 X] 223):=⟨_,rfl⟩);(have hb4:Below w3.heap.size w3 w4:=by rw[hw4];exact Ax);have hb24:Below w2.heap.size w2 w4:=hb3.trans (hb4.mono hb3.size);(have r0:w4.cell? ⟨w3.heap.size,0,none⟩=some (.int .i64 ((lv:Int)+1)):=by rw[hw4];simp[go_sem]);(have r1:w4.cell? ⟨w3.heap.size,1,none⟩=some (.int .i64 X):=by rw[hw4];simp[go_sem]);(have N4:w3.heap.size<w4.heap.size:=by rw[hw4];simp);have hp4:=HPS.out _ _ _ (HVI.out.below _ _ _ _ HI2.out hb24);have HW4:Hid (w4=_):=hw4;have HB24:Hid (Below w2.heap.size w2 w4):=hb24;(have HL4:Hid (∀wX,Below w4.heap.size w4 wX->wX.cell? ⟨gp,2,none⟩=some (.map (some B))/\wX.cell? ⟨w3.heap.size,0,none⟩=some (.int .i64 ((lv:Int)+1))/\wX.cell? ⟨w3.heap.size,1,none⟩=some (.int .i64 X)/\(Instr.lookup 158 (.map (some B)) (kV ((lv:Int)+1) X) false).run Tryz.prog wX=.ok (.agg #[.int .i64 la,.bool kb]) wX):=fun wX hX=>⟨(hX.cell (p:=⟨gp,2,none⟩) hp4.lt).trans hp4.c2,(hX.cell (p:=⟨w3.heap.size,0,none⟩) N4).trans r0,(hX.cell (p:=⟨w3.heap.size,1,none⟩) N4).trans r1,HLK.out wX (hp4.below hX)⟩);clear hsb hb3 hb4 hb24 hp4 hw4 r0 r1;(go_wp2_with fail);rw[<- HW4.out];refine wp_region_held_drew (S:=fun wX:World=>wX.cell? ⟨gp,2,none⟩=some (.map (some B))/\wX.cell? ⟨w3.heap.size,0,none⟩=some (.int .i64 ((lv:Int)+1))/\wX.cell? ⟨w3.heap.size,1,none⟩=some (.int .i64 X)/\(Instr.lookup 158 (.map (some B)) (kV ((lv:Int)+1) X) false).run Tryz.prog wX=.ok (.agg #[.int .i64 la,.bool kb]) wX) (by kernel_rfl) (HL4.out _ (Below.refl _ _).drew) (fun hHeld=>?_);refine tk 0 ?_;refine tk 1 ?_;refine tk 2 ?_;refine tk 3 ?_;refine tk 4 ?_;refine tk 5 ?_;refine wpAnyH_ready (rs:=[6]) (by kernel_rfl) (by simp) ?_;refine AllReadyH.cons rfl (fun K hK=>?_) AllReadyH.nil;go_simp;refine hK.out _ _ (HL4.out _ (Ax.drew)) (fun hHeld2=>?_);clear hK K;refine wpAnyH_ready (rs:=[7]) (by kernel_rfl) (by simp) ?_;refine AllReadyH.cons rfl (fun K hK=>?_) AllReadyH.nil;go_simp;refine hK.out _ _ (HL4.out _ (Ax.drew)) (fun hHeld3=>?_);clear hK K;refine wpAnyH_done (by kernel_rfl) ?_ _;clear hHeld hHeld2 hHeld3;(obtain⟨w5,hw5⟩:∃w5,w5=w4.alloc (.cells #[.int .i64 la,.bool kb] 227):=⟨_,rfl⟩);rw[<- hw5];(have hb5:Below w4.heap.size w4 w5:=by rw[hw5];exact Ax);(have t0:w5.cell? ⟨w4.heap.size,0,none⟩=some (.int .i64 la):=by rw[hw5];simp[go_sem]);(have t1:w5.cell? ⟨w4.heap.size,1,none⟩=some (.bool kb):=by rw[hw5];simp[go_sem]);obtain⟨_,r0,r1,_⟩:=HL4.out w5 hb5;have HB25:Hid (Below w2.heap.size w2 w5.drew):=A5 <| (HB24.out.trans (hb5.mono HB24.out.size)).drew;have HI5:Hid (Inv S2 ((es++DU kept f ⟨fr,lv,p⟩ i)++[EE]) w5.drew):=HVI.out.below _ _ _ _ HI2.out HB25.out;(have N5:w4.heap.size<w5.heap.size:=by rw[hw5];simp);clear hw5 hb5 HL4;cases kb
   ·have HF0:Hid (¬0<=AE kept ((lv:Int)+1) X):=A5 <| of_decide_eq_false HKB.out;(have HE1:Hid (es++DU kept f ⟨fr,lv,p⟩ (i+1)=(es++DU kept f ⟨fr,lv,p⟩ i)++[EE]):=A5 <| by rw[HSTEP.out,if_neg HF0.out,List.append_assoc]);clear HSTEP;(go_wp2_with fail);go_roundw;case rel =>
     refine⟨i+1,by omega,by go_num,S2,by rw[HE1.out];exact HI5.out,HT2.out.then (BJ.of_below (S:=fun _=>False) HB25.out) (fun k _ h=>h.elim),HS2.out,(HB25.out.block _ (by omega)).trans HZ2.out.1,(HB25.out.block _ (by omega)).trans HZ2.out.2,Nat.le_trans hw2 HB25.out.size,HNS2.out.1,HNS2.out.2⟩
    case measure=>simp[intOf];omega
   ·have hF0:0<=AE kept ((lv:Int)+1) X:=of_decide_eq_true HKB.out;(have HE1:Hid (es++DU kept f ⟨fr,lv,p⟩ (i+1)=((es++DU kept f ⟨fr,lv,p⟩ i)++[EE])++KV kept f ⟨AE kept ((lv:Int)+1) X,(lv:Int)+1,X⟩):=A5 <| by rw[HSTEP.out,if_pos hF0,List.append_assoc,List.append_assoc];rfl);have hla:=HLA.out hF0;have hrec:=HR2.out S2 _ w5.drew (by have:=HLB.out i hlt;rw[List.length_append,List.length_singleton];omega) hF0 HI5.out;generalize KV kept f ⟨AE kept ((lv:Int)+1) X,(lv:Int)+1,X⟩=EL at HE1 hrec;rw[<- hla] at hrec;clear HSTEP HR2 hla hF0 HLA HKB HLK;(go_wp2_with fail);refine hrec.mono ?_;rintro e w6 ⟨rfl,S6,hinv6,htc6,hs6⟩;clear hrec;(go_wp2_with fail);go_roundw;case rel =>
     have hw5:w.heap.size+2<=w5.drew.heap.size:=Nat.le_trans hw2 HB25.out.size;refine⟨i+1,by omega,by go_num,S6,by rw[HE1.out];exact hinv6,(HT2.out.then (BJ.of_below (S:=fun _=>False) HB25.out) (fun k _ h=>h.elim)).then htc6 (fun k hk h=>HS2.out k hk h),fun k hk h=>HS2.out k hk (hs6 k (by omega) h),(htc6.block _ (by omega) HNS2.out.1).trans ((HB25.out.block _ (by omega)).trans HZ2.out.1),(htc6.block _ (by omega) HNS2.out.2).trans ((HB25.out.block _ (by omega)).trans HZ2.out.2),Nat.le_trans hw5 htc6.size,fun h=>HNS2.out.1 (hs6 _ (by omega) h),fun h=>HNS2.out.2 (hs6 _ (by omega) h)⟩
    case measure=>simp[intOf];omega
  ·(have ei:i=16:=by omega);subst ei;(go_wp2_with fail);refine bodyPost_end (v:=.tuple #[]) (by simp[results,Tryz.results226,go_sem]) rfl ?_;exact⟨rfl,S1,hinv,htch,hS1⟩
end Go.Proofs.YtnmhkgmmpkjjeaaGreat
