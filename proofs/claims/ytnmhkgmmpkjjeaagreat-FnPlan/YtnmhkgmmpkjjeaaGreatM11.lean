import Derived.Test.YtnmhkgmmpkjjeaaGreatM10
namespace Go.Proofs.YtnmhkgmmpkjjeaaGreat
open ChangeShapes WideShapes ChangeAt RowKit Proofs.Tryz
set_option linter.all false
set_option maxRecDepth 100000
theorem S5(x:Int):AG 3 x≠1:=by
 unfold AG;rw[if_neg (by omega)];by_cases h1:x%2=0
 ·rw[if_pos h1];omega
 ·rw[if_neg h1];by_cases h2:x/32%128≠0\/x/268435456≠0
  ·rw[if_pos h2];omega
  ·rw[if_neg h2,if_neg (by omega),if_neg (by omega)];by_cases h3:(3:Int)=3/\x/2%2=1/\0<x/4%8
   ·rw[if_pos h3];omega
   ·rw[if_neg h3];omega
theorem K6(g:Nat)(zs:List Int)(c:Nat)(hz:Cu zs)(hcc:zs.length<=c)(B:Nat)(hgB:g<B):∀(d:Nat),d<=2->∀(p:P3) (v:Value) (qs:List P3) (w:World),Yd zs d p->BQ w g zs->B<=w.heap.size->qs.length<=100000-10000*d->BE w B v qs ->
  Calls prog 148 #[v,.agg #[.slice (some ⟨g,0,none⟩) zs.length c],.agg #[.int .i64 p.fr,.int .i64 p.lv,.int .i64 p.pg]] w fun e w'=>Wc w B v (qs++Ax zs (An zs.length) d p) e w'
 | 0,_,p,v,qs,w,hp,hg,hB,hq,hv=>by
  obtain⟨a,b,c1,e,f,g1⟩:=hp;have hl:p.lv=3:=by omega
  exact U9 g zs c p hl B hgB 100000 (by omega) v qs (by omega) w hg hB hv
 | d+1,hd,p,v,qs,w,hp,hg,hB,hq,hv=>by
  have hm:=Bz zs.length hz.n0;have hle:=Dv zs.length;have hp':=hp;obtain⟨a,b,c1,e,f,g1⟩:=hp';refine UL g zs c p p.fr.toNat (by omega) (by omega) (by omega) hcc b (by omega) f g1 (Ax zs (An zs.length) d) ?_ (An zs.length) hm.1
   (fun i hi w=>Cb p.lv (AC zs p.fr i) (hz.rng _).1 (hz.rng _).2 w) B hgB (100000-10000*(d+1)) (by omega) ?_ v qs hq w hg hB hv
  ·intro q;have:=EZ zs (An zs.length) d q;have:Z9 d<=17:=by
    rcases(show d=0\/d=1 by omega) with rfl|rfl<;>decide
   omega
  ·intro i w v qs hi hl hg hB hq hv;exact K6 g zs c hz hcc B hgB d (by omega) (Af zs p i) v qs w (JR hp i hi hl) hg hB (by omega) hv
section
attribute [local go_sem ↓] wp_at_zero wp_at_succ
theorem Kt(b o:Nat)(page pages:Int)(doom:Bool)(hp0:0<=page)(hp1:page<100000)(hs:pages=1\/pages=16\/pages=256)(w:World)(hb:b<w.heap.size)(hc:w.cell? ⟨b,o+2,none⟩=some (.bool doom)):Calls prog 157 #[.pointer (some ⟨b,o,none⟩),.int .i64 page,.int .i64 pages] w fun e w'=>e=.returned (.agg #[.int .i64 (page-page%pages),.int .i64 pages,.bool doom])/\Bl w w':=by
 have HK:Hid (∀wX,Bl w wX->wX.cell? ⟨b,o+2,none⟩=some (.bool doom)):=fun wX hX=>(hX.cell (by simpa using hb)).trans hc
 have hwp:=AR page;rcases hs with rfl|rfl|rfl
 ·have e1:page-page%1=page:=by omega
  rw[e1];clear e1;go_enter func157,ntmps157
  go_wp2_with fail
  go_region_held3 (fun w'=>w'.cell? ⟨b,o+2,none⟩=some (.bool doom)) ((refine HK.out _ ?_;repeat (first|exact AH|with_reducible refine Below.drew ?_|refine Below.alloc ?_ (by first|omega|(simp<;>omega)) _))) (fail)
  go_wp2
  exact bodyPost_ret (v:=.agg #[.int .i64 page,.int .i64 1,.bool doom]) (by simp[results,results157,go_sem]) rfl ⟨rfl,AO.drew⟩
 ·clear hwp;go_enter func157,ntmps157
  go_wp2_with fail
  go_region_held3 (fun w'=>w'.cell? ⟨b,o+2,none⟩=some (.bool doom)) ((refine HK.out _ ?_;repeat (first|exact AH|with_reducible refine Below.drew ?_|refine Below.alloc ?_ (by first|omega|(simp<;>omega)) _))) (fail)
  go_wp2
  exact bodyPost_ret (v:=.agg #[.int .i64 (page-page%16),.int .i64 16,.bool doom]) (by simp[results,results157,go_sem,Int.tmod_eq_emod_of_nonneg hp0,show IntKind.i64.wrap (page-page%16)=page-page%16 by rw[IntKind.wrap_i64];omega]) rfl ⟨rfl,AO.drew⟩
 ·clear hwp;go_enter func157,ntmps157
  go_wp2_with fail
  go_region_held3 (fun w'=>w'.cell? ⟨b,o+2,none⟩=some (.bool doom)) ((refine HK.out _ ?_;repeat (first|exact AH|with_reducible refine Below.drew ?_|refine Below.alloc ?_ (by first|omega|(simp<;>omega)) _))) (fail)
  go_wp2
  exact bodyPost_ret (v:=.agg #[.int .i64 (page-page%256),.int .i64 256,.bool doom]) (by simp[results,results157,go_sem,Int.tmod_eq_emod_of_nonneg hp0,show IntKind.i64.wrap (page-page%256)=page-page%256 by rw[IntKind.wrap_i64];omega]) rfl ⟨rfl,AO.drew⟩
theorem U5(b:Nat)(page level table:Int)(hp0:0<=page)(hp1:page<4096)(hl:level=1\/level=2\/level=3)(ht0:0<=table)(ht1:table<100000)(w:World)(hl3:w.cell? ⟨b,3,none⟩=some (.int .i64 level))(ht4:w.cell? ⟨b,4,none⟩=some (.int .i64 table)):Calls prog 153 #[.pointer (some ⟨b,0,none⟩),.int .i64 page] w fun e w'=>e=.returned (.int .i64 (table*16+JM page level))/\Bl w w':=by
 rcases hl with rfl|rfl|rfl
 ·have hc:∀w,Calls prog 168 #[.int .i64 1] w fun e w'=>e=.returned (.int .i64 256)/\w'=w:=BJ 1
  have e1:JM page 1=page/256%16:=by simp[JM];omega
  rw[e1];clear e1;go_enter func153,ntmps153
  go_wp2_with fail
  go_quiet ((go_at_call 168;exact Calls.quiet_of_same (hc _)))
  go_wp2
  go_ret;exact⟨rfl,CY AH _⟩
 ·have hc:∀w,Calls prog 168 #[.int .i64 2] w fun e w'=>e=.returned (.int .i64 16)/\w'=w:=BJ 2
  have e1:JM page 2=page/16%16:=by simp[JM]
  rw[e1];clear e1;go_enter func153,ntmps153
  go_wp2_with fail
  go_quiet ((go_at_call 168;exact Calls.quiet_of_same (hc _)))
  go_wp2
  go_ret;exact⟨rfl,CY AH _⟩
 ·have hc:∀w,Calls prog 168 #[.int .i64 3] w fun e w'=>e=.returned (.int .i64 1)/\w'=w:=BJ 3
  have e1:JM page 3=page%16:=by simp[JM]
  have hwp:=AR page;rw[e1];clear e1;go_enter func153,ntmps153
  go_wp2_with fail
  go_quiet ((go_at_call 168;exact Calls.quiet_of_same (hc _)))
  go_wp2
  go_ret;exact⟨rfl,CY AH _⟩
theorem Vr(b o:Nat)(page ep pages out perm:Int)(hp0:0<=page)(hp1:page<100000)(he0:0<=ep)(he1:ep<100000)(ho0:0<=out)(ho1:out<100000)(w:World)(hb:b<w.heap.size)(h0:w.cell? ⟨b,o,none⟩=some (.int .i64 ep))(h1:w.cell? ⟨b,o+1,none⟩=some (.int .i64 pages))(h3:w.cell? ⟨b,o+3,none⟩=some (.int .i64 out))(h4:w.cell? ⟨b,o+4,none⟩=some (.int .i64 perm)):Calls prog 205 #[.pointer (some ⟨b,o,none⟩),.int .i64 page] w fun e w'=>e=.returned (.agg #[.int .i64 1,.int .i64 (out+page-ep),.int .i64 perm,.int .i64 pages])/\Bl w w':=by
 have HK:Hid (∀wX,Bl w wX->wX.cell? ⟨b,o,none⟩=some (.int .i64 ep)/\wX.cell? ⟨b,o+1,none⟩=some (.int .i64 pages)/\wX.cell? ⟨b,o+3,none⟩=some (.int .i64 out)/\wX.cell? ⟨b,o+4,none⟩=some (.int .i64 perm)):=fun wX hX=>⟨(hX.cell (by simpa using hb)).trans h0,(hX.cell (by simpa using hb)).trans h1,(hX.cell (by simpa using hb)).trans h3,(hX.cell (by simpa using hb)).trans h4⟩
 go_enter func205,ntmps205
 go_wp2_with fail
 go_region_held3 (fun wX=>wX.cell? ⟨b,o,none⟩=some (.int .i64 ep)/\wX.cell? ⟨b,o+1,none⟩=some (.int .i64 pages)/\wX.cell? ⟨b,o+3,none⟩=some (.int .i64 out)/\wX.cell? ⟨b,o+4,none⟩=some (.int .i64 perm)) ((refine HK.out _ ?_;repeat (first|exact AH|with_reducible refine Below.drew ?_|refine Below.alloc ?_ (by first|omega|(simp<;>omega)) _))) (fail)
 go_wp2
 exact bodyPost_ret (v:=.agg #[.int .i64 1,.int .i64 (out+page-ep),.int .i64 perm,.int .i64 pages]) (by simp[results,results205,go_sem,show IntKind.i64.wrap (out+page)=out+page by rw[IntKind.wrap_i64];omega,show IntKind.i64.wrap (out+page-ep)=out+page-ep by rw[IntKind.wrap_i64];omega]) rfl ⟨rfl,AO.drew⟩
theorem So(gu:Nat)(g1 g2:Nat)(n1 c1 n2 c2:Nat)(A:Nat)(late:Bool)(x:Int)(w:World)(h0:late=false->w.cell? ⟨gu,0,none⟩=some (.slice (some ⟨g1,0,none⟩) n1 c1)/\A<n1/\w.cell? ⟨g1,A,none⟩=some (.int .u64 x))(h1:late=true->w.cell? ⟨gu,1,none⟩=some (.slice (some ⟨g2,0,none⟩) n2 c2)/\A<n2/\w.cell? ⟨g2,A,none⟩=some (.int .u64 x)):Calls prog 152 #[.pointer (some ⟨gu,0,none⟩),.int .i64 A,.bool late] w fun e w'=>e=.returned (.int .u64 x)/\Bl w w':=by
 have A1:(0:Int)<=(A:Int):=by omega
 cases late
 ·obtain⟨a,b,c⟩:=h0 rfl;have A2:(A:Int)<(n1:Int):=by omega
  clear h0 h1 b;go_enter func152,ntmps152
  go_wp2
  go_ret;exact⟨rfl,AH⟩
 ·obtain⟨a,b,c⟩:=h1 rfl;have A2:(A:Int)<(n2:Int):=by omega
  clear h0 h1 b;go_enter func152,ntmps152
  go_wp2
  go_ret;exact⟨rfl,AH⟩
end
def Jn (a:Option Addr):Option Nat:=(Value.slice a 0 0).ownBlock
theorem Jd(a:Option Addr)(n c:Nat):(Value.slice a n c).ownBlock=Jn a:=by
 unfold Jn;rcases a with _|⟨b,o,sp⟩
 ·rfl
 ·cases o<;>cases sp<;>rfl
theorem A8.ownA{α:Type}{E:Dw α}{w:World}{base:Nat}{a:Option Addr}{n c:Nat}{xs:List α}(h:A8 E w base (.slice a n c) xs):∀k,Jn a=some k->base<=k/\k<w.heap.size :=
 fun k hk=>h.own k (by rw[Jd a n c];exact hk)
theorem A8.snocL{α:Type}{E:Dw α}{w:World}{B:Nat}{v:Value}{ys:List α}{x:α}{m:Nat}(hm:m=ys.length+1)(h:w.ownsRow B E.T E.sz v m (AK E ys++E.enc x)):A8 E w B v (ys++[x]):=by
 unfold A8;have e2:AK E (ys++[x])=AK E ys++E.enc x:=by
  rw[CC];simp[AK]
 rw[List.length_append,e2];rw[hm] at h;exact h
def OQ (ps:List P3) (f:Int):Bool:=Q6 (fun i=>decide ((Aq ps i).fr=f)) ps.length
theorem Ko(f:Nat->Bool)(n:Nat)(h:∀j,j<n->f j=false):Q6 f n=false:=by
 rw[Q6,List.any_eq_false];intro x hx;simp[h x (List.mem_range.1 hx)]
section
attribute [local go_sem ↓] wp_at_zero wp_at_succ
theorem Cv{P:Program}(w:World)(t e:TypeId)(a:Option Addr)(l c:Nat)(h:P.underlying t=some (.slice e)):(binOp .eql t (.slice a l c) (.slice none 0 0)).run P w=.ok (.bool a.isNone) w:=by
 simp[binOp,go_sem,run_equal_slice_nil w t e a l c h]
theorem JC(g j:Nat):(⟨g,0,none⟩:Addr).add j=⟨g,j,none⟩:=by
 unfold Addr.add;split
 ·rename_i h;subst h;rfl
 ·simp
theorem A8.news{α:Type}{E:Dw α}{w:World}{base g n c:Nat}{xs:List α}(h:A8 E w base (.slice (some ⟨g,0,none⟩) n c) xs):n=xs.length/\∀j u,(AK E xs)[j]?=some u->w.cell? ((⟨g,0,none⟩:Addr).add j)=some u:=by
 rcases h.2 with⟨e,_⟩|⟨g',cap,cur,e,hb,hg,hn,hm,hs,ht⟩
 ·cases e
 ·simp only[Value.slice.injEq,Option.some.injEq,Addr.mk.injEq,and_true] at e;obtain⟨rfl,rfl,rfl⟩:=e;refine⟨rfl,fun j u hj=>?_⟩;rw[<- ht,List.getElem?_take] at hj;split at hj
  ·simp only[Array.getElem?_toList] at hj;rw[JC];simp[World.cell?,hg,hj]
  ·cases hj
set_option maxRecDepth 100000 in
theorem Qx(a:Option Addr)(c b:Nat)(xs:List Int)(w:World)(hn:xs.length<=1048576)(h:A8 AY w b (.slice a xs.length c) xs):Calls prog 112 #[.slice a xs.length c] w fun r w'=>∃a' c',r=.returned (.slice a' xs.length c')/\A8 AY w' w.heap.size (.slice a' xs.length c') xs/\Bl w w':=by
 obtain⟨iE,hiE,hz0,hz1,hz2⟩:=info_parts Fp;have h1:∀u∈AK AY xs,u.oneCell'=true:=by
  intro u hu;simp only[AK,List.mem_flatMap] at hu;obtain⟨x,_,hx⟩:=hu;simp[AY] at hx;subst hx;rfl
 have hl:=Eb AY xs;have hl':(AK AY xs).length=xs.length*1:=hl;rcases h.2 with⟨e,h0⟩|⟨g,cap,cur,e,hb,hg,hm,hmm,hs,ht⟩
 ·simp only[Value.slice.injEq] at e;obtain⟨rfl,_,rfl⟩:=e;have hx:xs=[]:=List.length_eq_zero_iff.1 h0;subst hx;have heq:∀w,(binOp .eql 33 (.slice none 0 0) (.slice none 0 0)).run prog w=.ok (.bool true) w:=fun w=>Cv w _ _ _ _ _ underlying33
  clear h h1 hl hl';go_enter func112,ntmps112
  go_wp2_with fail
  go_ret;exact⟨none,0,rfl,⟨by simp[AK],.inl ⟨rfl,rfl⟩⟩,AH⟩
 ·simp only[Value.slice.injEq] at e;obtain⟨rfl,_,rfl⟩:=e;obtain⟨_,hnews⟩:=h.news;have hgl:=(h.ownA g rfl).2;have HN:Hid (∀j u,(AK AY xs)[j]?=some u->(w.alloc (.cells #[] 75)).cell? ((⟨g,0,none⟩:Addr).add j)=some u):=fun j u hj=>by
   have h3:=hnews j u hj;rw[JC] at h3 ⊢;rw[World.cell?_alloc_lt _ _ _ (by simpa using hgl)];exact h3
  have H1:=A5 h1;have HL:=A5 hl';have HOWN:Hid ((w.alloc (.cells #[] 75)).ownsRow w.heap.size 75 1 (.slice (some ⟨w.heap.size,0,none⟩) 0 0) 0 []):=⟨rfl,.inr ⟨w.heap.size,0,#[],rfl,Nat.le_refl _,heap_alloc_new w _,Nat.le_refl _,by unfold maxLen;omega,rfl,rfl⟩⟩;have heq:∀w,(binOp .eql 33 (.slice (some ⟨g,0,none⟩) xs.length c) (.slice none 0 0)).run prog w=.ok (.bool false) w:=fun w=>Cv w _ _ _ _ _ underlying33
  clear h h1 hl hl' hnews hg ht hs hmm hm hb;go_enter func112,ntmps112
  go_wp2_with (at_builtin;refine wpList_append_own _ rfl (.tmp 5) (.tmp 6) 33 rfl w.heap.size 75 iE _ 1 8 underlying33 hiE hz0 hz1 hz2 rfl (by omega) _ 0 [] rfl HOWN.out ⟨g,0,none⟩ xs.length c (AK AY xs) rfl HL.out HN.out H1.out (by unfold maxLen;omega) (by omega) (by simp) ?_)
  intro v' wn hown hgrow _;have hnew:A8 AY wn w.heap.size v' xs:=hown;have hbn:Bl w wn:=AO.grown hgrow (by simp) (fun q hq=>by simp[Value.ownBlock] at hq;omega);obtain⟨a',c',rfl,_⟩:=hnew.form;have HNEW:=A5 hnew;have HBN:=A5 hbn;clear hown hgrow hnew hbn;go_wp2_with fail
  go_ret;exact⟨a',c',rfl,HNEW.out,HBN.out⟩
set_option maxRecDepth 100000 in
theorem RA(a:Option Addr)(c b:Nat)(xs:List BS)(w:World)(hn:xs.length<=1048576)(h:A8 Cz w b (.slice a xs.length c) xs):Calls prog 113 #[.slice a xs.length c] w fun r w'=>∃a' c',r=.returned (.slice a' xs.length c')/\A8 Cz w' w.heap.size (.slice a' xs.length c') xs/\Bl w w':=by
 obtain⟨iE,hiE,hz0,hz1,hz2⟩:=info_parts Mw;have h1:∀u∈AK Cz xs,u.oneCell'=true:=by
  intro u hu;simp only[AK,List.mem_flatMap] at hu;obtain⟨x,_,hx⟩:=hu;simp[Cz] at hx;rcases hx with rfl|rfl<;>rfl
 have hl:=Eb Cz xs;have hl':(AK Cz xs).length=xs.length*2:=hl;rcases h.2 with⟨e,h0⟩|⟨g,cap,cur,e,hb,hg,hm,hmm,hs,ht⟩
 ·simp only[Value.slice.injEq] at e;obtain⟨rfl,_,rfl⟩:=e;have hx:xs=[]:=List.length_eq_zero_iff.1 h0;subst hx;have heq:∀w,(binOp .eql 42 (.slice none 0 0) (.slice none 0 0)).run prog w=.ok (.bool true) w:=fun w=>Cv w _ _ _ _ _ underlying42
  clear h h1 hl hl';go_enter func113,ntmps113
  go_wp2_with fail
  go_ret;exact⟨none,0,rfl,⟨by simp[AK],.inl ⟨rfl,rfl⟩⟩,AH⟩
 ·simp only[Value.slice.injEq] at e;obtain⟨rfl,_,rfl⟩:=e;obtain⟨_,hnews⟩:=h.news;have hgl:=(h.ownA g rfl).2;have HN:Hid (∀j u,(AK Cz xs)[j]?=some u->(w.alloc (.cells #[] 188)).cell? ((⟨g,0,none⟩:Addr).add j)=some u):=fun j u hj=>by
   have h3:=hnews j u hj;rw[JC] at h3 ⊢;rw[World.cell?_alloc_lt _ _ _ (by simpa using hgl)];exact h3
  have H1:=A5 h1;have HL:=A5 hl';have HOWN:Hid ((w.alloc (.cells #[] 188)).ownsRow w.heap.size 188 2 (.slice (some ⟨w.heap.size,0,none⟩) 0 0) 0 []):=⟨rfl,.inr ⟨w.heap.size,0,#[],rfl,Nat.le_refl _,heap_alloc_new w _,Nat.le_refl _,by unfold maxLen;omega,rfl,rfl⟩⟩;have heq:∀w,(binOp .eql 42 (.slice (some ⟨g,0,none⟩) xs.length c) (.slice none 0 0)).run prog w=.ok (.bool false) w:=fun w=>Cv w _ _ _ _ _ underlying42
  clear h h1 hl hl' hnews hg ht hs hmm hm hb;go_enter func113,ntmps113
  go_wp2_with (at_builtin;refine wpList_append_own _ rfl (.tmp 5) (.tmp 6) 42 rfl w.heap.size 188 iE _ 2 16 underlying42 hiE hz0 hz1 hz2 rfl (by omega) _ 0 [] rfl HOWN.out ⟨g,0,none⟩ xs.length c (AK Cz xs) rfl HL.out HN.out H1.out (by unfold maxLen;omega) (by omega) (by simp) ?_)
  intro v' wn hown hgrow _;have hnew:A8 Cz wn w.heap.size v' xs:=hown;have hbn:Bl w wn:=AO.grown hgrow (by simp) (fun q hq=>by simp[Value.ownBlock] at hq;omega);obtain⟨a',c',rfl,_⟩:=hnew.form;have HNEW:=A5 hnew;have HBN:=A5 hbn;clear hown hgrow hnew hbn;go_wp2_with fail
  go_ret;exact⟨a',c',rfl,HNEW.out,HBN.out⟩
end
end Go.Proofs.YtnmhkgmmpkjjeaaGreat
