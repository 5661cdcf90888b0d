import Derived.Test.YtnmhkgmmpkjjeaaGreatK30
import Derived.Test.YtnmhkgmmpkjjeaaGreatK04
namespace Go.Proofs.YtnmhkgmmpkjjeaaGreat
open Go.ChangeShapes Go.WideShapes Go.ChangeAt Go.RowKit
set_option linter.unusedVariables false
theorem VW (x:Int):AF 3 x≠1:=by
 unfold AF;rw[if_neg (by omega)];by_cases h1:x%2=0
 ·rw[if_pos h1];omega
 ·rw[if_neg h1];by_cases h2:x/32%128≠0\/x/268435456≠0
  ·rw[if_pos h2];omega
  ·rw[if_neg h2,if_neg (by omega),if_neg (by omega)];by_cases h3:(3:Int)=3/\x/2%2=1/\0<x/4%8
   ·rw[if_pos h3];omega
   ·rw[if_neg h3];omega
theorem Jp (g:Nat) (zs:List Int) (c:Nat) (hz:Hf zs) (hcc:zs.length<=c) (B:Nat) (hgB:g<B):∀(d:Nat),d<=2->∀(p:P3) (v:Value) (qs:List P3) (w:World),XL zs d p->Ar w g zs->B<=w.heap.size->qs.length<=100000-10000*d->Aa w B v qs ->
  Calls Tryz.prog 148 #[v,.agg #[.slice (some ⟨g,0,none⟩) zs.length c],.agg #[.int .i64 p.fr,.int .i64 p.lv,.int .i64 p.pg]] w fun e w'=>W9 w B v (qs++As zs (An zs.length) d p) e w'
 | 0,_,p,v,qs,w,hp,hg,hB,hq,hv=>by
  have hm:=C5 zs.length hz.n0;have hle:=Ek zs.length;obtain⟨a,b,c1,e,f,g1⟩:=hp;have hl:p.lv=3:=by omega
  exact Tl g zs c p hl B hgB 100000 (by omega) v qs (by omega) w hg hB hv
 | d+1,hd,p,v,qs,w,hp,hg,hB,hq,hv=>by
  have hm:=C5 zs.length hz.n0;have hle:=Ek zs.length;have hp':=hp;obtain⟨a,b,c1,e,f,g1⟩:=hp';refine TQ g zs c p p.fr.toNat (by omega) (by omega) (by omega) hcc b (by omega) f g1 (As zs (An zs.length) d) ?_ (An zs.length) hm.1
   (fun i hi w=>Cl p.lv (AG zs p.fr i) (hz.rng _).1 (hz.rng _).2 w) B hgB (100000-10000*(d+1)) (by omega) ?_ v qs hq w hg hB hv
  ·intro q;have:=E4 zs (An zs.length) d q;have:YI d<=17:=by
    rcases(show d=0\/d=1 by omega) with rfl|rfl<;>decide
   omega
  ·intro i w v qs hi hl hg hB hq hv;exact Jp g zs c hz hcc B hgB d (by omega) (Aq zs p i) v qs w (JG hp i hi hl) hg hB (by omega) hv
theorem Hz (zs:List Int) (hz:Hf zs):SD zs (A8 zs):=by
 have hm:=C5 zs.length hz.n0;refine⟨Cy zs,?_,?_⟩
 ·unfold A8;rw[if_neg hz.n0];simp[As,Ah]
 ·intro i hi;have hmem:Ai (A8 zs) i∈A8 zs:=by
   unfold Ai;rw[List.getD_eq_getElem?_getD,List.getElem?_eq_getElem hi];exact List.getElem_mem hi
  have e:A8 zs=As zs (An zs.length) 2 ⟨0,1,0⟩:=by unfold A8;rw[if_neg hz.n0]
  rw[e] at hmem;obtain⟨d',h⟩:=MS 2 ⟨0,1,0⟩ ⟨rfl,by simp,by simp,by show (0:Int)<_;omega,by simp,by simp⟩ _ hmem;obtain⟨_,_,a,b,_,_⟩:=h;refine⟨(Ai (A8 zs) i).fr.toNat,?_,?_⟩
  ·rw[e];omega
  ·rw[e];omega
theorem Tj (zs:List Int) (hz:Hf zs):XL zs 2 ⟨0,1,0⟩:=by
 have hm:=C5 zs.length hz.n0;exact⟨rfl,by simp,by simp,by show (0:Int)<_;omega,by simp,by simp⟩
def Bi (zs:List Int) (w:World) (e:Ending) (w':World):Prop :=
 ∃a c',e=.returned (.tuple #[.slice a (A8 zs).length c',.bool (BM zs)])/\Aa w' w.heap.size (.slice a (A8 zs).length c') (A8 zs)/\Below w.heap.size w w'
theorem Da (g:Nat) (zs:List Int) (c:Nat) (hn:zs.length<=1048576) (hr:∀i,0<=zs.getD i 0/\zs.getD i 0<2 ^ 64) (w:World) (hg:Ar w g zs) : Calls Tryz.prog 21 #[.agg #[.slice (some ⟨g,0,none⟩) zs.length c]] w fun e w'=>Bi zs w e w':=by
 unfold Bi BM;by_cases h0:An zs.length=0
 ·have e:A8 zs=[]:=by unfold A8;rw[if_pos h0]
  rw[e];simp only[h0,decide_true,Bool.not_true,Bool.false_and];exact Lf g zs.length c hn h0 w
 ·have hz:Hf zs:=⟨h0,hr⟩;have hm:=C5 zs.length h0;have hle:=Ek zs.length;have e:A8 zs=As zs (An zs.length) 2 ⟨0,1,0⟩:=by unfold A8;rw[if_neg h0]
  simp only[h0,decide_false,Bool.not_false,Bool.true_and];refine KI g zs c (An zs.length) (A8 zs) rfl h0 (by omega) (Hz zs hz) ?_ ?_ w hg
  ·intro i k hi hk w;exact C0 _ _ (hr _).1 (hr _).2 w
  ·intro w hg;have:=Ho g zs c hz 2 (by omega) ⟨0,1,0⟩ w (Tj zs hz) hg;rw[<- e] at this;exact this
theorem Nn (g:Nat) (zs:List Int) (c:Nat) (hz:Hf zs) (hcc:zs.length<=c) (w:World) (hg:Ar w g zs) : Calls Tryz.prog 88 #[.agg #[.slice (some ⟨g,0,none⟩) zs.length c]] w fun e w'=>∃g' c',e=.returned (.slice (some ⟨g',0,none⟩) (A8 zs).length c')/\Aa w' w.heap.size (.slice (some ⟨g',0,none⟩) (A8 zs).length c') (A8 zs)/\Below w.heap.size w w':=by
 have e:A8 zs=As zs (An zs.length) 2 ⟨0,1,0⟩:=by unfold A8;rw[if_neg hz.n0]
 have hadd:=Jp g zs c hz hcc w.heap.size hg.lt 2 (by omega) ⟨0,1,0⟩ (.slice none 0 0) [];rw[<- e] at hadd;have hok:=Tj zs hz;generalize A8 zs=ps at *;obtain⟨wb,hwb⟩:∃wb,wb=w.alloc (.cells #[.slice (some ⟨g,0,none⟩) zs.length c] 35):=⟨_,rfl⟩
 have hbb:Below w.heap.size w wb:=by rw[hwb];exact(Below.refl _ _).alloc (Nat.le_refl _) _
 have hzb:wb.heap.size=w.heap.size+1:=by rw[hwb];simp
 have h1:=hadd wb hok (hg.below hbb hg.lt) (by omega) (by simp) (World.ownsRow_nil _ _ _ _);have HBB:Hid (Below _ _ _):=hbb;have HWB:Hid (wb=_):=hwb;rw[hwb] at h1;clear hadd hbb hwb e hok hz;go_enter Tryz.func88,Tryz.ntmps88
 go_wp2_with fail
 refine h1.mono ?_;rintro e w2 ⟨g2,c2,rfl,hp2,hgr2,_⟩;have hgr2':wb.grownBy w2 none:=by rw[HWB.out];exact hgr2
 have hb2:Below wb.heap.size wb w2:=⟨hgr2'.os,hgr2'.tape,hgr2'.output,hgr2'.size,fun k hk=>hgr2'.block k hk (by simp)⟩;have HP2:Hid (Aa _ _ _ _):=hp2;have HB2:Hid (Below w.heap.size w w2):=HBB.out.trans (hb2.mono (by omega));clear hgr2 hgr2' hb2 hp2 h1;go_wp2_with fail
 go_ret;exact⟨g2,c2,rfl,HP2.out,HB2.out⟩
end Go.Proofs.YtnmhkgmmpkjjeaaGreat
namespace Go.Proofs.YtnmhkgmmpkjjeaaGreat
open Go.ChangeShapes Go.WideShapes Go.ChangeAt Go.RowKit
set_option linter.unusedVariables false
set_option maxRecDepth 100000
attribute [local go_sem ↓] Go.wp_at_zero Go.wp_at_succ
def FL:E8 P3:=⟨67,3,fun p=>[.int .i64 p.fr,.int .i64 p.lv,.int .i64 p.pg],⟨0,0,0⟩,by omega,fun _=>rfl⟩
theorem Aa.e {w:World} {b:Nat} {v:Value} {ps:List P3} (h:Aa w b v ps):A6 FL w b v ps:=h
theorem A6.p {w:World} {b:Nat} {v:Value} {ps:List P3} (h:A6 FL w b v ps):Aa w b v ps:=h
theorem Gx {w:World} {b g c:Nat} {ps:List P3} (h:A6 FL w b (.slice (some ⟨g,0,none⟩) ps.length c) ps) (i:Nat) (hi:i<ps.length):g<w.heap.size/\w.cell? ⟨g,i*3,none⟩=some (.int .i64 (Ai ps i).fr)/\w.cell? ⟨g,i*3+1,none⟩=some (.int .i64 (Ai ps i).lv)/\w.cell? ⟨g,i*3+2,none⟩=some (.int .i64 (Ai ps i).pg):=by
 obtain⟨a,c',e,h1⟩:=h.form;obtain⟨g',N,f,e2,_,hr,hN,hf⟩:=h1 (by omega);have hN':ps.length*3<=N:=hN;simp only[Value.slice.injEq] at e;obtain⟨e,_,_⟩:=e;rw[e2] at e;simp only[Option.some.injEq,Addr.mk.injEq,and_true] at e;subst e;refine⟨hr.lt,?_,?_,?_⟩
 ·rw[hr.cell (i:=i*3) (by omega)];exact congrArg some (hf i hi 0 (by decide))
 ·rw[hr.cell (i:=i*3+1) (by omega)];exact congrArg some (hf i hi 1 (by decide))
 ·rw[hr.cell (i:=i*3+2) (by omega)];exact congrArg some (hf i hi 2 (by decide))
theorem Rz {w:World} {b g c:Nat} {es:List En} (h:A6 O7 w b (.slice (some ⟨g,0,none⟩) es.length c) es) (i:Nat) (hi:i<es.length):g<w.heap.size/\w.cell? ⟨g,i*3,none⟩=some (.int .i64 (AI O7 es i).lv)/\w.cell? ⟨g,i*3+1,none⟩=some (.int .i64 (AI O7 es i).pg)/\w.cell? ⟨g,i*3+2,none⟩=some (.int .i64 (AI O7 es i).ad):=by
 obtain⟨a,c',e,h1⟩:=h.form;obtain⟨g',N,f,e2,_,hr,hN,hf⟩:=h1 (by omega);have hN':es.length*3<=N:=hN;simp only[Value.slice.injEq] at e;obtain⟨e,_,_⟩:=e;rw[e2] at e;simp only[Option.some.injEq,Addr.mk.injEq,and_true] at e;subst e;refine⟨hr.lt,?_,?_,?_⟩
 ·rw[hr.cell (i:=i*3) (by omega)];exact congrArg some (hf i hi 0 (by decide))
 ·rw[hr.cell (i:=i*3+1) (by omega)];exact congrArg some (hf i hi 1 (by decide))
 ·rw[hr.cell (i:=i*3+2) (by omega)];exact congrArg some (hf i hi 2 (by decide))
theorem PC (g c b:Nat) (Hs:List Ht) (lv p:Nat) (w:World) (hl:Hs.length=4096) (h1:1<=lv) (h3:lv<=3) (hp:p+ID lv<=4096) (h:A6 Dj w b (.slice (some ⟨g,0,none⟩) Hs.length c) Hs) : Calls Tryz.prog 73 #[.slice (some ⟨g,0,none⟩) 4096 c,.int .i64 lv,.int .i64 p] w fun e w'=>e=.returned (.bool (nd (hF Hs) lv p))/\Below w.heap.size w w':=by
 rcases(show lv=1\/lv=2\/lv=3 by omega) with rfl|rfl|rfl
 ·rw[Gc];exact P7 _ _ w
 ·exact M6 g c b Hs p w hl hp h
 ·exact MY g c b Hs p w hl hp h
structure GJ {α β:Type} (E:E8 α) (F:E8 β) (w wr:World) (v1 v2:Value) (l1:List α) (l2:List β):Prop where
 rows:∃g1 c1 g2 c2:Nat,v1=.slice (some ⟨g1,0,none⟩) l1.length c1/\v2=.slice (some ⟨g2,0,none⟩) l2.length c2/\A6 E wr w.heap.size (.slice (some ⟨g1,0,none⟩) l1.length c1) l1/\A6 F wr w.heap.size (.slice (some ⟨g2,0,none⟩) l2.length c2) l2/\g1≠g2
 bel:Below w.heap.size w wr
theorem GJ.below {α β:Type} {E:E8 α} {F:E8 β} {w wr w1:World} {v1 v2:Value} {l1:List α} {l2:List β} (h:GJ E F w wr v1 v2 l1 l2) (hb:Below wr.heap.size wr w1):GJ E F w w1 v1 v2 l1 l2:=by
 obtain⟨⟨g1,c1,g2,c2,e1,e2,h1,h2,hne⟩,hbel⟩:=h;exact⟨⟨g1,c1,g2,c2,e1,e2,h1.below hb,h2.below hb,hne⟩,hbel.trans (hb.mono hbel.size)⟩
theorem GJ.swap {α β:Type} {E:E8 α} {F:E8 β} {w wr:World} {v1 v2:Value} {l1:List α} {l2:List β} (h:GJ E F w wr v1 v2 l1 l2):GJ F E w wr v2 v1 l2 l1:=by
 obtain⟨⟨g1,c1,g2,c2,e1,e2,h1,h2,hne⟩,hbel⟩:=h;exact⟨⟨g2,c2,g1,c1,e2,e1,h2,h1,fun e=>hne e.symm⟩,hbel⟩
theorem GJ.second {α β:Type} {E:E8 α} {F:E8 β} {w wr:World} {v1:Value} {l1:List α} (h:Ex E w wr v1 l1):GJ E F w (wr.alloc (.cells #[] F.T)) v1 (.slice (some ⟨wr.heap.size,0,none⟩) 0 0) l1 []:=by
 obtain⟨⟨g1,c1,e1,h1⟩,hbel⟩:=h;have hb:Below wr.heap.size wr (wr.alloc (.cells #[] F.T)):=Ax;refine⟨⟨g1,c1,wr.heap.size,0,e1,rfl,h1.below hb,?_,?_⟩,hbel.trans (hb.mono hbel.size)⟩
 ·exact(A6.empty F wr wr.heap.size (Nat.le_refl _)).rebase hbel.size
 ·have:=(h1.own g1 rfl).2;omega
theorem Ex.new {α:Type} (E:E8 α) (w:World):Ex E w (w.alloc (.cells #[] E.T)) (.slice (some ⟨w.heap.size,0,none⟩) 0 0) []:=⟨⟨w.heap.size,0,rfl,A6.empty E w w.heap.size (Nat.le_refl _)⟩,Ax⟩
theorem GJ.push1 {α β:Type} {E:E8 α} {F:E8 β} {w w1 wn:World} {g1 c1 g1' c1':Nat} {v2:Value} {l1:List α} {l2:List β} {x:α} {o:Obj} (h:GJ E F w w1 (.slice (some ⟨g1,0,none⟩) l1.length c1) v2 l1 l2) (hown:wn.ownsRow w.heap.size E.T E.sz (.slice (some ⟨g1',0,none⟩) (l1.length+1) c1') (l1.length+1) (AK E l1++E.enc x)) (hgrow:(w1.alloc o).grownBy wn (Value.ownBlock (.slice (some ⟨g1,0,none⟩) l1.length c1))) (hat:Value.ownBlock (.slice (some ⟨g1,0,none⟩) l1.length c1)=some g1'\/g1'=w1.heap.size+1) : GJ E F w wn (.slice (some ⟨g1',0,none⟩) (l1.length+1) c1') v2 (l1++[x]) l2:=by
 obtain⟨⟨g,c,g2,c2,e1,e2,h1,h2,hne⟩,hbel⟩:=h;simp only[Value.slice.injEq,Option.some.injEq,Addr.mk.injEq,and_true,true_and] at e1;obtain⟨rfl,rfl⟩:=e1;have hg2:=(h2.own g2 rfl).2;have h2a:A6 F (w1.alloc o) w.heap.size (.slice (some ⟨g2,0,none⟩) l2.length c2) l2:=h2.below Ax
 have h2n:=h2a.kept hgrow (fun k hk e=>by
  have hk':some g2=some k:=hk
  have e':some k=some g1:=e
  rw[<- hk'] at e'
  simp only[Option.some.injEq] at e'
  exact hne e'.symm)
 refine⟨⟨g1',c1',g2,c2,by simp,e2,?_,h2n,?_⟩,?_⟩
 ·have:=A6.push rfl hown;rw[List.length_append,List.length_singleton];exact this
 ·rcases hat with e|e
  ·have e':some g1=some g1':=e;simp only[Option.some.injEq] at e';rw[<- e'];exact hne
  ·omega
 ·exact(hbel.alloc hbel.size _).grown hgrow (by have:=hbel.size;simp;omega) (fun q hq=>(h1.own q hq).1)
theorem GJ.push2 {α β:Type} {E:E8 α} {F:E8 β} {w w1 wn:World} {g2 c2 g2' c2':Nat} {v1:Value} {l1:List α} {l2:List β} {x:β} {o:Obj} (h:GJ E F w w1 v1 (.slice (some ⟨g2,0,none⟩) l2.length c2) l1 l2) (hown:wn.ownsRow w.heap.size F.T F.sz (.slice (some ⟨g2',0,none⟩) (l2.length+1) c2') (l2.length+1) (AK F l2++F.enc x)) (hgrow:(w1.alloc o).grownBy wn (Value.ownBlock (.slice (some ⟨g2,0,none⟩) l2.length c2))) (hat:Value.ownBlock (.slice (some ⟨g2,0,none⟩) l2.length c2)=some g2'\/g2'=w1.heap.size+1) :
  GJ E F w wn v1 (.slice (some ⟨g2',0,none⟩) (l2.length+1) c2') l1 (l2++[x]):=(GJ.push1 h.swap hown hgrow hat).swap
theorem GJ.open1 {α β:Type} {E:E8 α} {F:E8 β} {w wr:World} {v1 v2:Value} {l1:List α} {l2:List β} (h:GJ E F w wr v1 v2 l1 l2):∃g c:Nat,v1=.slice (some ⟨g,0,none⟩) l1.length c/\A6 E wr w.heap.size (.slice (some ⟨g,0,none⟩) l1.length c) l1:=by
 obtain⟨⟨g1,c1,g2,c2,e1,e2,h1,h2,hne⟩,hbel⟩:=h;exact⟨g1,c1,e1,h1⟩
theorem GJ.open2 {α β:Type} {E:E8 α} {F:E8 β} {w wr:World} {v1 v2:Value} {l1:List α} {l2:List β} (h:GJ E F w wr v1 v2 l1 l2):∃g c:Nat,v2=.slice (some ⟨g,0,none⟩) l2.length c/\A6 F wr w.heap.size (.slice (some ⟨g,0,none⟩) l2.length c) l2:=h.swap.open1
def Ay (H:Nat->Ht) (ps:List P3) (k:Nat):List P3:=AA H (ps.take k)
def BS (H:Nat->Ht) (ps:List P3) (k:Nat):List P3:=Cr H (ps.take k)
theorem G8 (ps:List P3) (t:Nat) (h:t<ps.length):ps.take (t+1)=ps.take t++[Ai ps t]:=CV FL ps t h
theorem Jm (H:Nat->Ht) (ps:List P3) (k:Nat) (hk:k<ps.length):Ay H ps (k+1)=Ay H ps k++(if SJ H (Ai ps k) then [Ai ps k] else []):=by
 unfold Ay AA;rw[G8 ps k hk,List.filter_append];congr 1;cases h:SJ H (Ai ps k)<;>simp[h]
theorem Jh (H:Nat->Ht) (ps:List P3) (k:Nat) (hk:k<ps.length):BS H ps (k+1)=BS H ps k++(if SJ H (Ai ps k) then [] else [Ai ps k]):=by
 unfold BS Cr;rw[G8 ps k hk,List.filter_append];congr 1;cases h:SJ H (Ai ps k)<;>simp[h]
theorem Qh (H:Nat->Ht) (ps:List P3) (k:Nat):(Ay H ps k).length<=ps.length:=by
 unfold Ay AA;exact Nat.le_trans (List.length_filter_le _ _) (by rw[List.length_take];omega)
theorem QO (H:Nat->Ht) (ps:List P3) (k:Nat):(BS H ps k).length<=ps.length:=by
 unfold BS Cr;exact Nat.le_trans (List.length_filter_le _ _) (by rw[List.length_take];omega)
theorem Hv (H:Nat->Ht) (ps:List P3):Ay H ps ps.length=AA H ps:=by unfold Ay;rw[List.take_length]
theorem KQ (H:Nat->Ht) (ps:List P3):BS H ps ps.length=Cr H ps:=by unfold BS;rw[List.take_length]
theorem BO.nat {n:Int} {ps:List P3} (h:BO n ps) {q:P3} (hq:q∈ps):∃lv pg:Nat,q.lv=lv/\q.pg=pg/\1<=lv/\lv<=3/\pg+ID lv<=4096:=by
 rcases h.mem q hq with e|⟨i,hi,e,hp,_⟩|⟨i,j,hi,hj,e,hp,_⟩
 ·exact⟨1,0,by rw[e];rfl,by rw[e];rfl,by decide,by decide,by decide⟩
 ·exact⟨2,i*256,e,hp,by decide,by decide,show i*256+256<=4096 by omega⟩
 ·exact⟨3,i*256+j*16,e,hp,by decide,by decide,show i*256+j*16+16<=4096 by omega⟩
theorem GW (zs:List Int) (h:An zs.length≠0):BO (An zs.length) (A8 zs):=by
 unfold A8;rw[if_neg h];exact Gr zs (An zs.length)
theorem EZ {zs:List Int} (h:BM zs=true):An zs.length≠0:=by
 unfold BM at h;simp at h;exact h.1
end Go.Proofs.YtnmhkgmmpkjjeaaGreat
namespace Go.Proofs.YtnmhkgmmpkjjeaaGreat
open Go.ChangeShapes Go.WideShapes Go.ChangeAt Go.RowKit
set_option linter.unusedVariables false
theorem IU (l k o p:Int):0<=Am l k o p/\Am l k o p<2 ^ 64:=by
 unfold Am;split
 ·rename_i h;obtain⟨_,h1,h2,h3,h4,_⟩:=h;unfold Cf;split<;>omega
 ·omega
def O5 (zs:List Int):Prop:=∀i,0<=zs.getD i 0/\zs.getD i 0<2 ^ 64
theorem DG (zs:List Int) (i j:Nat) (v:Int):(zs.set i v).getD j 0=if j=i/\i<zs.length then v else zs.getD j 0:=by
 simp only[List.getD_eq_getElem?_getD,List.getElem?_set];by_cases e:i=j
 ·subst e;by_cases h:i<zs.length
  ·simp[h]
  ·simp[h]
 ·simp[e,Ne.symm e]
theorem O5.set {zs:List Int} (h:O5 zs) (i:Nat) (v:Int) (h0:0<=v) (h1:v<2 ^ 64):O5 (zs.set i v):=by
 intro j;rw[DG];split
 ·exact⟨h0,h1⟩
 ·exact h j
theorem LF (l:List Int) (x:Int) (i:Nat):(l++[x]).getD i 0=if i=l.length then x else l.getD i 0:=by
 simp only[List.getD_eq_getElem?_getD];by_cases h:i<l.length
 ·rw[List.getElem?_append_left h,if_neg (by omega)]
 ·by_cases e:i=l.length
  ·subst e;simp
  ·rw[List.getElem?_eq_none (by simp;omega),List.getElem?_eq_none (by omega),if_neg e]
structure DS where
 zs:List Int
 lv:List Int
 fr:List Int
 p:Nat
def dA (cs:List Int) (s:DS):Nat:=(Az cs s.p s.lv.length).toNat
def Ws (cs:List Int) (s:DS):Nat:=(s.fr.getD (dA cs s) 0*16+Az cs (s.p+1) 16).toNat
def YH (cs:List Int) (f:Nat) (s:DS):DS :=
 if s.lv.getD (dA cs s) 0<3/\s.zs.getD (Ws cs s) 0=0 then ⟨s.zs.set (Ws cs s) (Am (s.lv.getD (dA cs s) 0) 1 f 0),s.lv++[s.lv.getD (dA cs s) 0+1],s.fr++[(f:Int)],s.p+2⟩ else ⟨s.zs,s.lv,s.fr,s.p+2⟩
def Kr (cs:List Int) (s:DS):Nat->DS
 | 0=>s
 | k+1=>YH cs (k+1) (Kr cs s k)
structure SF (N p0 k:Nat) (s:DS):Prop where
 len:s.zs.length=N
 same:s.fr.length=s.lv.length
 pos:1<=s.lv.length
 le:s.lv.length<=k+1
 lev:∀i,i<s.lv.length->1<=s.lv.getD i 0/\s.lv.getD i 0<=3
 frm:∀i,i<s.lv.length->0<=s.fr.getD i 0/\s.fr.getD i 0<=k
 wrd:O5 s.zs
 pl:s.p=p0+2*k
theorem SF.step {cs:List Int} {N p0 k:Nat} {s:DS} (h:SF N p0 k s) (hc:GQ cs) (hp:p0+2*k<=900000):SF N p0 (k+1) (YH cs (k+1) s):=by
 have hA:=Bz cs s.p s.lv.length (by have:=h.pos;omega) hc (by have:=h.pl;omega);have hA1:dA cs s<s.lv.length:=by unfold dA;omega
 have hl:=h.lev _ hA1;unfold YH;split
 ·refine⟨by simp[h.len],by simp[h.same],by simp,by have:=h.le;simp;omega,fun i hi=>?_,fun i hi=>?_,h.wrd.set _ _ (IU _ _ _ _).1 (IU _ _ _ _).2,by have:=h.pl;show s.p+2=_;omega⟩
  ·show 1<=(s.lv++[s.lv.getD (dA cs s) 0+1]).getD i 0/\(s.lv++[s.lv.getD (dA cs s) 0+1]).getD i 0<=3;rw[LF];split
   ·omega
   ·exact h.lev i (by simp at hi;omega)
  ·show 0<=(s.fr++[((k+1:Nat):Int)]).getD i 0/\(s.fr++[((k+1:Nat):Int)]).getD i 0<=((k+1:Nat):Int);rw[LF];split
   ·omega
   ·have:=h.frm i (by simp at hi;have:=h.same;omega);omega
 ·refine⟨h.len,h.same,h.pos,by have:=h.le;show s.lv.length<=_;omega,h.lev,fun i hi=>?_,h.wrd,by have:=h.pl;show s.p+2=_;omega⟩;have:=h.frm i hi;show 0<=s.fr.getD i 0/\s.fr.getD i 0<=((k+1:Nat):Int);omega
theorem SF.all {cs:List Int} {N p0:Nat} {s:DS} (h:SF N p0 0 s) (hc:GQ cs):∀k,p0+2*k<=900000->SF N p0 k (Kr cs s k)
 | 0,_=>h
 | k+1,hp=>(SF.all h hc k (by omega)).step hc (by omega)
def Hn (l b:Int):Int:=if l=2 then Am 2 2 (b*16) (b%7+1) else Am 3 3 (b*3) (b%7+1)
theorem OG (l b:Int):0<=Hn l b/\Hn l b<2 ^ 64:=by
 unfold Hn;split<;>exact IU _ _ _ _
def Jx (cs:List Int) (f:Int) (p:Nat):Nat:=(f*16+Az cs p 16).toNat
def Jy (cs:List Int) (l f:Int) (s:List Int×Nat):List Int×Nat :=
 if 1<l/\s.1.getD (Jx cs f s.2) 0=0 then (s.1.set (Jx cs f s.2) (Hn l (Az cs (s.2+1) 4096)),s.2+2) else (s.1,s.2+1)
def GL (cs:List Int) (f:Int) (k p:Nat) (zs:List Int):List Int :=
 if k=4/\zs.getD (Jx cs f p) 0=0/\Az cs p 16%2=0 then zs.set (Jx cs f p) (Az cs p 16*4) else zs
def Yz (cs:List Int) (l f:Int) (k:Nat) (s:List Int×Nat):List Int×Nat:=(GL cs f k s.2 (Jy cs l f s).1,(Jy cs l f s).2)
def T9 (cs:List Int) (l f:Int) (s:List Int×Nat):Nat->List Int×Nat
 | 0=>s
 | k+1=>Yz cs l f k (T9 cs l f s k)
def TC (cs:List Int) (lv fr:List Int) (s:List Int×Nat):Nat->List Int×Nat
 | 0=>s
 | i+1=>T9 cs (lv.getD i 0) (fr.getD i 0) (TC cs lv fr s i) 5
structure NJ (N P:Nat) (s:List Int×Nat):Prop where
 len:s.1.length=N
 wrd:O5 s.1
 pl:s.2<=P
theorem NJ.a {cs:List Int} {N P:Nat} {s:List Int×Nat} (l f:Int) (h:NJ N P s):NJ N (P+2) (Jy cs l f s):=by
 unfold Jy;have:=h.pl;split
 ·exact⟨by simp[h.len],h.wrd.set _ _ (OG _ _).1 (OG _ _).2,by show s.2+2<=_;omega⟩
 ·exact⟨h.len,h.wrd,by show s.2+1<=_;omega⟩
theorem NJ.step {cs:List Int} {N P:Nat} {s:List Int×Nat} (l f:Int) (k:Nat) (hc:GQ cs) (h:NJ N P s) (hP:P<=900000):NJ N (P+2) (Yz cs l f k s):=by
 have ha:=h.a (cs:=cs) l f;have hb:=Bz cs s.2 16 (by omega) hc (by have:=h.pl;omega);unfold Yz GL;split
 ·exact⟨by simp[ha.len],ha.wrd.set _ _ (by omega) (by omega),ha.pl⟩
 ·exact⟨ha.len,ha.wrd,ha.pl⟩
theorem NJ.b {cs:List Int} {N P:Nat} {s:List Int×Nat} (l f:Int) (hc:GQ cs) (h:NJ N P s):∀k,P+2*k<=900000->NJ N (P+2*k) (T9 cs l f s k)
 | 0,_=>h
 | k+1,hP=>by
  have:=(NJ.b l f hc h k (by omega)).step l f k hc (by omega);rw[show P+2*(k+1)=P+2*k+2 by omega];exact this
theorem NJ.c {cs:List Int} {N P:Nat} {s:List Int×Nat} (lv fr:List Int) (hc:GQ cs) (h:NJ N P s):∀i,P+10*i<=800000->NJ N (P+10*i) (TC cs lv fr s i)
 | 0,_=>h
 | i+1,hP=>by
  have:=(NJ.c lv fr hc h i (by omega)).b (lv.getD i 0) (fr.getD i 0) hc 5 (by omega);rw[show P+10*(i+1)=P+10*i+2*5 by omega];exact this
def dN (cs:List Int):Nat:=if 24<3+cs.length/6 then 24 else 3+cs.length/6
theorem Qt (cs:List Int):3<=dN cs/\dN cs<=24:=by unfold dN;split<;>omega
def dX (cs:List Int) (p:Nat):Nat:=(Az cs p 3).toNat
def d0 (cs:List Int) (p:Nat):DS:=⟨List.replicate (16*(dN cs+dX cs p)) 0,[1],[0],p+1⟩
def d1 (cs:List Int) (p:Nat):DS:=Kr cs (d0 cs p) (dN cs-1)
def Bk (cs:List Int) (p:Nat):List Int×Nat:=TC cs (d1 cs p).lv (d1 cs p).fr ((d1 cs p).zs,(d1 cs p).p) (d1 cs p).fr.length
theorem GV (n i:Nat):(List.replicate n (0:Int)).getD i 0=0:=by
 rw[List.getD_eq_getElem?_getD,List.getElem?_replicate];split<;>rfl
theorem Wv (cs:List Int) (p:Nat):SF (16*(dN cs+dX cs p)) (p+1) 0 (d0 cs p):=by
 refine⟨by simp[d0],rfl,Nat.le_refl _,Nat.le_refl _,fun i hi=>?_,fun i hi=>?_,fun i=>?_,rfl⟩
 ·have:i=0:=by simp[d0] at hi;exact hi
  subst this;simp[d0]
 ·have:i=0:=by simp[d0] at hi;exact hi
  subst this;simp[d0]
 ·have e:(d0 cs p).zs.getD i 0=0:=GV _ _;rw[e];omega
theorem Wi (cs:List Int) (p:Nat) (hc:GQ cs) (hp:p<=100000):SF (16*(dN cs+dX cs p)) (p+1) (dN cs-1) (d1 cs p):=(Wv cs p).all hc _ (by have:=Qt cs;omega)
theorem Wg (cs:List Int) (p:Nat) (hc:GQ cs) (hp:p<=100000):Az cs p 3=dX cs p/\dX cs p<3:=by
 have:=Bz cs p 3 (by omega) hc (by omega);unfold dX;omega
theorem PK (cs:List Int) (p:Nat) (hc:GQ cs) (hp:p<=100000):NJ (16*(dN cs+dX cs p)) (p+400) (Bk cs p):=by
 have h1:=Wi cs p hc hp;have hn:=Qt cs;have h:=NJ.c (cs:=cs) (P:=p+49) (s:=((d1 cs p).zs,(d1 cs p).p)) (d1 cs p).lv (d1 cs p).fr hc ⟨h1.len,h1.wrd,by have:=h1.pl;show (d1 cs p).p<=_;omega⟩ (d1 cs p).fr.length (by have:=h1.le;have:=h1.same;omega);exact⟨h.len,h.wrd,by have:=h.pl;have:=h1.le;have:=h1.same;show (Bk cs p).2<=_;unfold Bk;omega⟩
theorem CQ.set {w:World} {g i:Nat} {zs:List Int} {v:Int} (h:CQ w g zs) (hi:i<zs.length):CQ (w.setCell ⟨g,i,none⟩ (.int .u64 v)) g (zs.set i v):=by
 unfold CQ;rw[List.length_set];refine(World.rowIs.set h i _).congr ?_;intro j hj;rw[DG];by_cases e:j=i
 ·rw[if_pos e,if_pos ⟨e,hi⟩]
 ·rw[if_neg e,if_neg (by simp[e])]
structure TS (w wr:World) (gw gl cl gf cf:Nat) (zs lv fr:List Int):Prop where
 bel:Below w.heap.size w wr
 wrd:CQ wr gw zs
 base:w.heap.size<=gw
 rl:A6 AW wr w.heap.size (.slice (some ⟨gl,0,none⟩) lv.length cl) lv
 rf:A6 AW wr w.heap.size (.slice (some ⟨gf,0,none⟩) fr.length cf) fr
 n1:gw≠gl
 n2:gw≠gf
 n3:gl≠gf
theorem TS.below {w wr w1:World} {gw gl cl gf cf:Nat} {zs lv fr:List Int} (h:TS w wr gw gl cl gf cf zs lv fr) (hb:Below wr.heap.size wr w1):TS w w1 gw gl cl gf cf zs lv fr :=
 ⟨h.bel.trans (hb.mono h.bel.size),h.wrd.below hb h.wrd.lt,h.base,h.rl.below hb,h.rf.below hb,h.n1,h.n2,h.n3⟩
theorem TS.put {w wr:World} {gw gl cl gf cf i:Nat} {zs lv fr:List Int} {v:Int} (h:TS w wr gw gl cl gf cf zs lv fr) (hi:i<zs.length):TS w (wr.setCell ⟨gw,i,none⟩ (.int .u64 v)) gw gl cl gf cf (zs.set i v) lv fr:=by
 have hg:wr.grownBy (wr.setCell ⟨gw,i,none⟩ (.int .u64 v)) (some gw):=Au (World.grownBy.refl _ _) i _;refine⟨h.bel.setCell h.base _,h.wrd.set hi,h.base,h.rl.kept hg ?_,h.rf.kept hg ?_,h.n1,h.n2,h.n3⟩
 ·intro k hk;have:gl=k:=by simpa [Value.ownBlock] using hk
  have:=h.n1;simp;omega
 ·intro k hk;have:gf=k:=by simpa [Value.ownBlock] using hk
  have:=h.n2;simp;omega
theorem TS.pushL {w wr wn:World} {gw gl cl gf cf g1 c1:Nat} {zs lv fr:List Int} {x:Int} {o:Obj} (h:TS w wr gw gl cl gf cf zs lv fr) (hown:wn.ownsRow w.heap.size AW.T AW.sz (.slice (some ⟨g1,0,none⟩) (lv.length+1) c1) (lv.length+1) (AK AW lv++AW.enc x)) (hgrow:(wr.alloc o).grownBy wn (Value.ownBlock (.slice (some ⟨gl,0,none⟩) lv.length cl))) (hat:Value.ownBlock (.slice (some ⟨gl,0,none⟩) lv.length cl)=some g1\/g1=(wr.alloc o).heap.size) : TS w wn gw g1 c1 gf cf zs (lv++[x]) fr:=by
 have e1:Value.ownBlock (.slice (some ⟨gl,0,none⟩) lv.length cl)=some gl:=rfl;have hl:=h.wrd.lt;have hfl:=(h.rf.own gf rfl).2;have hal:Below wr.heap.size wr (wr.alloc o):=Ax;have hne:∀q,q<wr.heap.size->q≠gl->q≠g1:=by
  intro q hq hn;rcases hat with e|e
  ·rw[e1] at e;(have:gl=g1:=by simpa using e);omega
  ·rw[World.size_alloc] at e;omega
 refine⟨(h.bel.alloc h.bel.size _).grown hgrow (by have:=h.bel.size;simp;omega) (fun q hq=>(h.rl.own q hq).1),?_,h.base,?_,?_,hne _ hl h.n1,h.n2,(hne _ hfl (Ne.symm h.n3)).symm⟩
 ·refine World.rowIs.of_block (World.rowIs.of_block h.wrd (hal.block _ hl)) (hgrow.block gw (by simp;omega) ?_);rw[e1];simpa using h.n1
 ·have:=Ea rfl hown;rw[List.length_append,List.length_singleton];exact this
 ·refine(h.rf.below hal).kept hgrow (fun q hq=>?_);have:gf=q:=by simpa [Value.ownBlock] using hq
  rw[e1];have:=h.n3;simp;omega
theorem TS.pushF {w wr wn:World} {gw gl cl gf cf g1 c1:Nat} {zs lv fr:List Int} {x:Int} {o:Obj} (h:TS w wr gw gl cl gf cf zs lv fr) (hown:wn.ownsRow w.heap.size AW.T AW.sz (.slice (some ⟨g1,0,none⟩) (fr.length+1) c1) (fr.length+1) (AK AW fr++AW.enc x)) (hgrow:(wr.alloc o).grownBy wn (Value.ownBlock (.slice (some ⟨gf,0,none⟩) fr.length cf))) (hat:Value.ownBlock (.slice (some ⟨gf,0,none⟩) fr.length cf)=some g1\/g1=(wr.alloc o).heap.size) : TS w wn gw gl cl g1 c1 zs lv (fr++[x]):=by
 have e1:Value.ownBlock (.slice (some ⟨gf,0,none⟩) fr.length cf)=some gf:=rfl;have hl:=h.wrd.lt;have hll:=(h.rl.own gl rfl).2;have hal:Below wr.heap.size wr (wr.alloc o):=Ax;have hne:∀q,q<wr.heap.size->q≠gf->q≠g1:=by
  intro q hq hn;rcases hat with e|e
  ·rw[e1] at e;(have:gf=g1:=by simpa using e);omega
  ·rw[World.size_alloc] at e;omega
 refine⟨(h.bel.alloc h.bel.size _).grown hgrow (by have:=h.bel.size;simp;omega) (fun q hq=>(h.rf.own q hq).1),?_,h.base,?_,?_,h.n1,hne _ hl h.n2,hne _ hll h.n3⟩
 ·refine World.rowIs.of_block (World.rowIs.of_block h.wrd (hal.block _ hl)) (hgrow.block gw (by simp;omega) ?_);rw[e1];simpa using h.n2
 ·refine(h.rl.below hal).kept hgrow (fun q hq=>?_);have:gl=q:=by simpa [Value.ownBlock] using hq
  rw[e1];have:=h.n3;simp;omega
 ·have:=Ea rfl hown;rw[List.length_append,List.length_singleton];exact this
end Go.Proofs.YtnmhkgmmpkjjeaaGreat
namespace Go.Proofs.YtnmhkgmmpkjjeaaGreat
open Go.ChangeShapes Go.WideShapes Go.ChangeAt Go.RowKit
set_option linter.unusedVariables false
set_option maxRecDepth 100000
attribute [local go_sem ↓] Go.wp_at_zero Go.wp_at_succ
def Xq (zs:List Int) (at_:Nat) (x:Int):Int:=bits .xor .u64 (zs.getD at_ 0) (1+2*(x%2)+64*(x%3))
def Sr (zs:List Int) (at_:Nat) (x:Int):Nat:=if (A8 zs).length=0 then at_ else ((Ai (A8 zs) (x.toNat%(A8 zs).length)).fr*16+((at_%16:Nat):Int)).toNat
def Fy (zs:List Int) (a:Int) (at_:Nat) (x:Int):List Int :=
 if a=0 then zs++[0] else if a=1 then [] else if a<5 then zs.set (Sr zs at_ x) (Am 1 1 ((x+a)%((zs.length/16:Nat)+1)) 0)
 else zs.set at_ (Xq zs at_ x)
def Gt (cs:List Int) (p:Nat) (zs:List Int):List Int:=Fy zs (Az cs p 8) (Az cs (p+1) zs.length).toNat (Az cs (p+2) 64)
theorem UZ (zs:List Int) (at_:Nat) (x:Int):0<=Xq zs at_ x/\Xq zs at_ x<2 ^ 64:=by
 unfold Xq;have e:∀u v:Int,bits .xor .u64 u v=IntKind.u64.wrap ((BitVec.ofInt 64 u ^^^ BitVec.ofInt 64 v).toNat:Int):=fun u v=>rfl
 rw[e,IntKind.wrap_u64];omega
theorem Ry (zs:List Int) (a:Int) (at_:Nat) (x:Int) (h:O5 zs):O5 (Fy zs a at_ x)/\(Fy zs a at_ x).length<=zs.length+1:=by
 unfold Fy;split
 ·refine⟨fun i=>?_,by simp⟩;rw[LF];split
  ·omega
  ·exact h i
 ·split
  ·exact⟨fun i=>by simp,by simp⟩
  ·split
   ·exact⟨h.set _ _ (IU _ _ _ _).1 (IU _ _ _ _).2,by simp⟩
   ·exact⟨h.set _ _ (UZ _ _ _).1 (UZ _ _ _).2,by simp⟩
theorem A6.setW {w:World} {b g c i:Nat} {zs:List Int} {v:Int} (h:A6 Ag w b (.slice (some ⟨g,0,none⟩) zs.length c) zs) (hi:i<zs.length):A6 Ag (w.setCell ⟨g,i,none⟩ (.int .u64 v)) b (.slice (some ⟨g,0,none⟩) zs.length c) (zs.set i v):=by
 rcases h.2 with⟨e,h0⟩|⟨g',cap,cur,e,hb,hg,hn,hm,hs,ht⟩
 ·cases e
 ·simp only[Value.slice.injEq,Option.some.injEq,Addr.mk.injEq,and_true,true_and] at e;obtain⟨rfl,rfl⟩:=e;obtain⟨a,c',e',hf⟩:=I5 h;simp only[Value.slice.injEq,true_and] at e';obtain⟨rfl,rfl⟩:=e';have hr:w.rowIs g 75 cur.size (fun i=>cur.getD i (.bool false)):=⟨cur,hg,rfl,fun i hi=>by simp[hi]⟩;have hs':cur.size=c*Ag.sz:=hs;have hs1:cur.size=c:=by rw[hs'];show c*1=c;omega
  refine A6.of_row (cap:=c) (by simp) hb (hr.set i (.int .u64 v)) hs' (by simpa using hn) hm ?_;intro j hj l hl;have hl0:l=0:=by simp[Ag] at hl;omega
  subst hl0;have e1:j*Ag.sz+0=j:=by show j*1+0=j;omega
  rw[e1];have e2:CO Ag (zs.set i v) j 0=.int .u64 ((zs.set i v).getD j 0):=by simp[CO,Ag,AI]
  rw[e2,DG];by_cases eij:j=i
  ·rw[if_pos eij,if_pos ⟨eij,hi⟩]
  ·rw[if_neg eij,if_neg (by simp[eij])];obtain⟨g2,N,f,p1,_,r,s,t⟩:=hf (by omega);simp only[Option.some.injEq,Addr.mk.injEq,and_true] at p1;subst p1;have h1:=r.cell (i:=j) (by omega);have h2:=hr.cell (i:=j) (by omega);rw[h1,t j (by simpa using hj)] at h2;exact(Option.some.inj h2).symm
theorem Em {w:World} {b g c i:Nat} {zs:List Int} (h:A6 Ag w b (.slice (some ⟨g,0,none⟩) zs.length c) zs) (hi:i<zs.length):w.cell? ⟨g,i,none⟩=some (.int .u64 (zs.getD i 0))/\w.frozen? ⟨g,i,none⟩=false/\g<w.heap.size/\b<=g:=by
 obtain⟨a,c',e',hf⟩:=I5 h;simp only[Value.slice.injEq,true_and] at e';obtain⟨rfl,rfl⟩:=e';obtain⟨g2,N,f,p1,hb,r,s,t⟩:=hf (by omega);simp only[Option.some.injEq,Addr.mk.injEq,and_true] at p1;subst p1;exact⟨by rw[r.cell (i:=i) (by omega),t i hi],r.frozen i,r.lt,hb⟩
theorem A6.crow {w:World} {b g c:Nat} {zs:List Int} (h:A6 Ag w b (.slice (some ⟨g,0,none⟩) zs.length c) zs):Ar w g zs :=
 ⟨(h.own g rfl).2,fun i hi=>(Em h hi).1⟩
structure CW (w wr:World) (g c k:Nat) (zs:List Int):Prop where
 bel:Below w.heap.size w wr
 row:wr.ownsRow w.heap.size 75 1 (.slice (some ⟨g,0,none⟩) k c) k (AK Ag (zs.take k))
 le:k<=zs.length
theorem CW.all {w wr:World} {g c k:Nat} {zs:List Int} (h:CW w wr g c k zs) (hk:k=zs.length):A6 Ag wr w.heap.size (.slice (some ⟨g,0,none⟩) zs.length c) zs:=by
 subst hk;have:=h.row;rw[List.take_length] at this;exact this
theorem CW.push {w wr wn:World} {g c k g1 c1:Nat} {zs:List Int} {o:Obj} (h:CW w wr g c k zs) (hk:k<zs.length) (hown:wn.ownsRow w.heap.size 75 1 (.slice (some ⟨g1,0,none⟩) (k+1) c1) (k+1) (AK Ag (zs.take k)++[.int .u64 (zs.getD k 0)])) (hgrow:(wr.alloc o).grownBy wn (Value.ownBlock (.slice (some ⟨g,0,none⟩) k c))):CW w wn g1 c1 (k+1) zs:=by
 refine⟨(h.bel.alloc h.bel.size _).grown hgrow (by have:=h.bel.size;simp;omega) (fun q hq=>(World.ownsRow.lt h.row q hq).1),?_,hk⟩;rw[CV Ag zs k hk,CM];exact hown
end Go.Proofs.YtnmhkgmmpkjjeaaGreat
