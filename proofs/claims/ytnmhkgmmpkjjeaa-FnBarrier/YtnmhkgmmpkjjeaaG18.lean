import Derived.Test.YtnmhkgmmpkjjeaaG15
import Derived.Test.YtnmhkgmmpkjjeaaG11
import Derived.Test.YtnmhkgmmpkjjeaaG17
namespace Go.Proofs.Ytnmhkgmmpkjjeaa
open Go.ChangeShapes Go.WideShapes Go.ChangeAt Go.RowKit
set_option linter.unusedVariables false
set_option maxRecDepth 100000
theorem ERow.typ {α:Type} {E:Elt α} {w:World} {b k:Nat} {v:Value} {xs:List α} (h:ERow E w b v xs) (hk:v.ownBlock=some k):∃ cur,w.heap[k]?=some (.cells cur E.T):=by
 rcases h.2 with ⟨rfl,_⟩ | ⟨g,cap,cur,rfl,hb,hg,_⟩
 ·cases hk
 ·have:g=k:=by simpa [Value.ownBlock] using hk
  exact ⟨cur,this ▸ hg⟩
theorem eAt_set {α:Type} (E:Elt α) {xs:List α} {m i:Nat} {x:α} (hi:i < xs.length):eAt E (xs.set m x) i=if i=m then x else eAt E xs i:=by
 unfold eAt
 rw [List.getD_eq_getElem?_getD,List.getD_eq_getElem?_getD,List.getElem?_set]
 by_cases e:m=i
 ·subst e; simp [hi]
 ·simp [e,Ne.symm e]
theorem ERow.putAt {α:Type} {E:Elt α} {w:World} {b g c m:Nat} {xs:List α} (x:α) (h:ERow E w b (.slice (some ⟨g,0,none⟩) xs.length c) xs) (hm:m < xs.length) :
  ERow E (w.setCells g (m * E.sz) (E.enc x)) b (.slice (some ⟨g,0,none⟩) xs.length c) (xs.set m x):=by
 rcases h.2 with ⟨e,h0⟩ | ⟨g',cap,cur,e,hb,hg,hn,hmx,hs,ht⟩
 ·cases e
 ·simp only [Value.slice.injEq,Option.some.injEq,Addr.mk.injEq,and_true,true_and] at e
  obtain ⟨rfl,rfl⟩:=e
  have hr:w.rowIs g E.T cur.size (fun i=>cur.getD i (.bool false)):=⟨cur,hg,rfl,fun i hi=>by simp [hi]⟩
  refine ERow.of_row (cap:=c) (by simp) hb (rowIs_setCells (E.enc x) (m * E.sz) w _ hr) hs hn hmx ?_
  intro i hi j hj
  try rw [E.len]
  have hold:cur.getD (i * E.sz+j) (.bool false)=eCell E xs i j:=by
   have hu:=ecells_at E xs i hi j hj
   rw [<- ht,List.getElem?_take,if_pos (cell_lt hi hj)] at hu
   simp only [Array.getElem?_toList] at hu
   simp [Array.getD_eq_getD_getElem?,hu,eCell]
  unfold eCell
  rw [eAt_set E hi]
  by_cases e:i=m
  ·subst e
   rw [if_pos ⟨by omega,by omega⟩,if_pos rfl,List.getD_eq_getElem?_getD,show i * E.sz+j - i * E.sz=j by omega]
  ·have hne:¬ (m * E.sz<=i * E.sz+j/\i * E.sz+j < m * E.sz+E.sz):=by
    rintro ⟨h1,h2⟩
    rcases Nat.lt_or_gt_of_ne e with h' | h'
    ·have:(i+1) * E.sz<=m * E.sz:=Nat.mul_le_mul_right _ h'
     rw [Nat.add_mul] at this; omega
    ·have:(m+1) * E.sz<=i * E.sz:=Nat.mul_le_mul_right _ h'
     rw [Nat.add_mul] at this; omega
   rw [if_neg hne,if_neg e,hold]
   rfl
structure DMS (wI wr:World) (b0 Bm base:Nat) (Q:Nat->Prop) (s:SV) (M:Mach):Prop where
 c0:wr.cell? ⟨Bm,0,none⟩=some (.slice s.a1 M.mem.length s.c1)
 c1:wr.cell? ⟨Bm,1,none⟩=some (.slice s.a2 M.pend.length s.c2)
 c2:wr.cell? ⟨Bm,2,none⟩=some (.slice s.a3 M.tlb.length s.c3)
 c3:wr.cell? ⟨Bm,3,none⟩=some (.slice s.a4 M.wc.length s.c4)
 fz:∀ i,i < 4->wr.frozen? ⟨Bm,i,none⟩=false
 row:MRow wr base (s.mv M) M
 own:∀ k,(s.mv M).owns k->Q k\/(b0<=k/\k ≠ Bm)
 bel:Below b0 wI wr
 lt:Bm < wr.heap.size
 le:b0<=Bm
 lw:b0<=wI.heap.size
 q:∀ k,Q k->k < b0/\∀ T cur,wI.heap[k]?=some (.cells cur T)->T=61
theorem DMS.below {wI wr w1:World} {b0 Bm base:Nat} {Q:Nat->Prop} {s:SV} {M:Mach} (h:DMS wI wr b0 Bm base Q s M) (hb:Below wr.heap.size wr w1):DMS wI w1 b0 Bm base Q s M:=by
 have c:∀ i,w1.cell? ⟨Bm,i,none⟩=wr.cell? ⟨Bm,i,none⟩:=fun i=>hb.cell (by simpa using h.lt)
 have f:∀ i,w1.frozen? ⟨Bm,i,none⟩=wr.frozen? ⟨Bm,i,none⟩:=fun i=>hb.frozen (by simpa using h.lt)
 exact ⟨(c 0).trans h.c0,(c 1).trans h.c1,(c 2).trans h.c2,(c 3).trans h.c3,fun i hi=>(f i).trans (h.fz i hi),h.row.below hb,h.own,h.bel.trans (hb.mono (by have:=h.lt; have:=h.le; omega)),Nat.lt_of_lt_of_le h.lt hb.size,h.le,h.lw,h.q⟩
theorem DMS.far {wI wr:World} {b0 Bm base:Nat} {Q:Nat->Prop} {s:SV} {M:Mach} (h:DMS wI wr b0 Bm base Q s M) (k:Nat) (hk:oOf s.a2=some k\/oOf s.a3=some k\/oOf s.a4=some k):b0<=k/\k ≠ Bm:=by
 have ho:(s.mv M).owns k:=by
  rcases hk with hk | hk | hk
  ·exact .inr (.inl ((own_slice _ _ _).trans hk))
  ·exact .inr (.inr (.inl ((own_slice _ _ _).trans hk)))
  ·exact .inr (.inr (.inr ((own_slice _ _ _).trans hk)))
 rcases h.own k ho with hq | hq
 ·exfalso
  obtain ⟨hlt,hT⟩:=h.q k hq
  have hb:=h.bel.block k hlt
  have hp:∃ T cur,T ≠ 61/\wr.heap[k]?=some (.cells cur T):=by
   rcases hk with hk | hk | hk
   ·obtain ⟨cur,hc⟩:=h.row.p.typ ((own_slice _ _ _).trans hk)
    exact ⟨_,cur,by decide,hc⟩
   ·obtain ⟨cur,hc⟩:=h.row.t.typ ((own_slice _ _ _).trans hk)
    exact ⟨_,cur,by decide,hc⟩
   ·obtain ⟨cur,hc⟩:=h.row.c.typ ((own_slice _ _ _).trans hk)
    exact ⟨_,cur,by decide,hc⟩
  obtain ⟨T,cur,hne,hc⟩:=hp
  exact hne (hT T cur (hb.symm.trans hc))
 ·exact hq
theorem ERow.other {α β:Type} {E:Elt α} {F:Elt β} {w:World} {b c k:Nat} {v u:Value} {xs:List α} {ys:List β} (h:ERow E w b v xs) (h2:ERow F w c u ys) (hne:E.T ≠ F.T) (hk:v.ownBlock=some k):u.ownBlock ≠ some k:=fun h'=>by
 obtain ⟨c1,e1⟩:=h.typ hk
 obtain ⟨c2,e2⟩:=h2.typ h'
 rw [e1] at e2
 injection e2 with e3
 injection e3 with _ e4
 exact hne e4
theorem DMS.tw {wI wr wn:World} {b0 Bm base:Nat} {Q S:Nat->Prop} {s:SV} {M:Mach} (h:DMS wI wr b0 Bm base Q s M) (ht:Touch S wr wn) (hS:∀ k,S k->b0<=k/\k ≠ Bm) :
  (∀ i,wn.cell? ⟨Bm,i,none⟩=wr.cell? ⟨Bm,i,none⟩)/\(∀ i,wn.frozen? ⟨Bm,i,none⟩=wr.frozen? ⟨Bm,i,none⟩)/\Below b0 wI wn/\Bm < wn.heap.size:=by
 have hbm:wn.heap[Bm]?=wr.heap[Bm]?:=ht.block Bm h.lt (fun h'=>(hS Bm h').2 rfl)
 exact ⟨fun i=>World.cell?_of_block (a:=⟨Bm,i,none⟩) hbm,fun i=>World.frozen?_of_block (a:=⟨Bm,i,none⟩) hbm,Touch.below h.bel ht (by have:=h.lt; have:=h.le; omega) (fun k hk=>(hS k hk).1),Nat.lt_of_lt_of_le h.lt ht.size⟩
theorem set_facts {wn:World} {Bm j:Nat} {v v0:Value} (h0:wn.cell? ⟨Bm,j,none⟩=some v0):(∀ i,i ≠ j->(wn.setCell ⟨Bm,j,none⟩ v).cell? ⟨Bm,i,none⟩=wn.cell? ⟨Bm,i,none⟩)/\(wn.setCell ⟨Bm,j,none⟩ v).cell? ⟨Bm,j,none⟩=some v/\(∀ i,(wn.setCell ⟨Bm,j,none⟩ v).frozen? ⟨Bm,i,none⟩=wn.frozen? ⟨Bm,i,none⟩)/\Touch (fun k=>k=Bm) wn (wn.setCell ⟨Bm,j,none⟩ v) :=
 ⟨fun i hi=>World.cell?_setCell_other _ _ _ _ (by intro e; injection e with _ e; exact hi e.symm),World.cell?_setCell_same _ _ _ h0,fun i=>World.frozen?_setCell _ _ _ _,⟨rfl,rfl,rfl,by simp,fun k hk hn=>Below.heap_setCell _ _ _ _ hn⟩⟩
theorem DMS.newP {wI wr wn:World} {b0 Bm base:Nat} {Q:Nat->Prop} {s:SV} {M:Mach} (h:DMS wI wr b0 Bm base Q s M) (ht:Touch (fun k=>oOf s.a2=some k) wr wn) (a':Option Addr) (c':Nat) (ys:List WriteE) (hr:ERow eWrite wn base (.slice a' ys.length c') ys) (ho:∀ k,oOf a'=some k->oOf s.a2=some k\/wr.heap.size<=k) :
  DMS wI (wn.setCell ⟨Bm,1,none⟩ (.slice a' ys.length c')) b0 Bm base Q ⟨s.a1,s.c1,a',c',s.a3,s.c3,s.a4,s.c4⟩ ⟨M.mem,ys,M.tlb,M.wc⟩:=by
 have hfar:∀ k,oOf s.a2=some k->b0<=k/\k ≠ Bm:=fun k hk=>h.far k (.inl hk)
 obtain ⟨hc,hf,hb,hl⟩:=h.tw ht hfar
 obtain ⟨g1,g2,g3,g4⟩:=set_facts (v:=.slice a' ys.length c') ((hc 1).trans h.c1)
 have hne:∀ k,oOf a'=some k->b0<=k/\k ≠ Bm:=fun k hk=>(ho k hk).elim (hfar k) (fun h'=>by have:=h.lt; have:=h.le; omega)
 have up:∀ {α:Type} {E:Elt α} {a:Option Addr} {n c:Nat} {xs:List α},ERow E wr base (.slice a n c) xs->(∀ k,oOf a=some k->k ≠ Bm/\oOf s.a2 ≠ some k)->ERow E (wn.setCell ⟨Bm,1,none⟩ (.slice a' ys.length c')) base (.slice a n c) xs:=fun hx hd=>(hx.touchA ht (fun k hk=>(hd k hk).2)).touchA g4 (fun k hk=>(hd k hk).1)
 have nB:∀ k,(s.mv M).owns k->k ≠ Bm:=fun k hk=>(h.own k hk).elim (fun hq=>by have:=(h.q k hq).1; have:=h.le; omega) (fun h'=>h'.2)
 refine ⟨(g1 0 (by omega)).trans ((hc 0).trans h.c0),g2,(g1 2 (by omega)).trans ((hc 2).trans h.c2),(g1 3 (by omega)).trans ((hc 3).trans h.c3),fun i hi=>(g3 i).trans ((hf i).trans (h.fz i hi)),⟨?_,?_,?_,?_⟩,fun k hk=>?_,?_,by simpa using hl,h.le,h.lw,h.q⟩
 ·exact up h.row.w (fun k hk=>⟨nB k (.inl ((own_slice _ _ _).trans hk)),fun e=>ERow.other h.row.p h.row.w (by decide) ((own_slice _ _ _).trans e) ((own_slice _ _ _).trans hk)⟩)
 ·exact hr.touchA g4 (fun k hk=>(hne k hk).2)
 ·exact up h.row.t (fun k hk=>⟨nB k (.inr (.inr (.inl ((own_slice _ _ _).trans hk)))),fun e=>ERow.other h.row.p h.row.t (by decide) ((own_slice _ _ _).trans e) ((own_slice _ _ _).trans hk)⟩)
 ·exact up h.row.c (fun k hk=>⟨nB k (.inr (.inr (.inr ((own_slice _ _ _).trans hk)))),fun e=>ERow.other h.row.p h.row.c (by decide) ((own_slice _ _ _).trans e) ((own_slice _ _ _).trans hk)⟩)
 ·rcases hk with hk | hk | hk | hk
  ·exact h.own k (.inl hk)
  ·exact .inr (hne k ((own_slice _ _ _).symm.trans hk))
  ·exact h.own k (.inr (.inr (.inl hk)))
  ·exact h.own k (.inr (.inr (.inr hk)))
 ·exact hb.trans (Touch.below (Below.refl _ _) g4 (by have:=h.le; omega) (fun k hk=>by rw [hk]; exact h.le))
theorem DMS.newT {wI wr wn:World} {b0 Bm base:Nat} {Q:Nat->Prop} {s:SV} {M:Mach} (h:DMS wI wr b0 Bm base Q s M) (ht:Touch (fun k=>oOf s.a3=some k) wr wn) (a':Option Addr) (c':Nat) (ys:List TlbE) (hr:ERow eTlb wn base (.slice a' ys.length c') ys) (ho:∀ k,oOf a'=some k->oOf s.a3=some k\/wr.heap.size<=k) :
  DMS wI (wn.setCell ⟨Bm,2,none⟩ (.slice a' ys.length c')) b0 Bm base Q ⟨s.a1,s.c1,s.a2,s.c2,a',c',s.a4,s.c4⟩ ⟨M.mem,M.pend,ys,M.wc⟩:=by
 have hfar:∀ k,oOf s.a3=some k->b0<=k/\k ≠ Bm:=fun k hk=>h.far k (.inr (.inl hk))
 obtain ⟨hc,hf,hb,hl⟩:=h.tw ht hfar
 obtain ⟨g1,g2,g3,g4⟩:=set_facts (v:=.slice a' ys.length c') ((hc 2).trans h.c2)
 have hne:∀ k,oOf a'=some k->b0<=k/\k ≠ Bm:=fun k hk=>(ho k hk).elim (hfar k) (fun h'=>by have:=h.lt; have:=h.le; omega)
 have up:∀ {α:Type} {E:Elt α} {a:Option Addr} {n c:Nat} {xs:List α},ERow E wr base (.slice a n c) xs->(∀ k,oOf a=some k->k ≠ Bm/\oOf s.a3 ≠ some k)->ERow E (wn.setCell ⟨Bm,2,none⟩ (.slice a' ys.length c')) base (.slice a n c) xs:=fun hx hd=>(hx.touchA ht (fun k hk=>(hd k hk).2)).touchA g4 (fun k hk=>(hd k hk).1)
 have nB:∀ k,(s.mv M).owns k->k ≠ Bm:=fun k hk=>(h.own k hk).elim (fun hq=>by have:=(h.q k hq).1; have:=h.le; omega) (fun h'=>h'.2)
 refine ⟨(g1 0 (by omega)).trans ((hc 0).trans h.c0),(g1 1 (by omega)).trans ((hc 1).trans h.c1),g2,(g1 3 (by omega)).trans ((hc 3).trans h.c3),fun i hi=>(g3 i).trans ((hf i).trans (h.fz i hi)),⟨?_,?_,?_,?_⟩,fun k hk=>?_,?_,by simpa using hl,h.le,h.lw,h.q⟩
 ·exact up h.row.w (fun k hk=>⟨nB k (.inl ((own_slice _ _ _).trans hk)),fun e=>ERow.other h.row.t h.row.w (by decide) ((own_slice _ _ _).trans e) ((own_slice _ _ _).trans hk)⟩)
 ·exact up h.row.p (fun k hk=>⟨nB k (.inr (.inl ((own_slice _ _ _).trans hk))),fun e=>ERow.other h.row.t h.row.p (by decide) ((own_slice _ _ _).trans e) ((own_slice _ _ _).trans hk)⟩)
 ·exact hr.touchA g4 (fun k hk=>(hne k hk).2)
 ·exact up h.row.c (fun k hk=>⟨nB k (.inr (.inr (.inr ((own_slice _ _ _).trans hk)))),fun e=>ERow.other h.row.t h.row.c (by decide) ((own_slice _ _ _).trans e) ((own_slice _ _ _).trans hk)⟩)
 ·rcases hk with hk | hk | hk | hk
  ·exact h.own k (.inl hk)
  ·exact h.own k (.inr (.inl hk))
  ·exact .inr (hne k ((own_slice _ _ _).symm.trans hk))
  ·exact h.own k (.inr (.inr (.inr hk)))
 ·exact hb.trans (Touch.below (Below.refl _ _) g4 (by have:=h.le; omega) (fun k hk=>by rw [hk]; exact h.le))
theorem DMS.newC {wI wr wn:World} {b0 Bm base:Nat} {Q:Nat->Prop} {s:SV} {M:Mach} (h:DMS wI wr b0 Bm base Q s M) (ht:Touch (fun k=>oOf s.a4=some k) wr wn) (a':Option Addr) (c':Nat) (ys:List WcE) (hr:ERow eWc wn base (.slice a' ys.length c') ys) (ho:∀ k,oOf a'=some k->oOf s.a4=some k\/wr.heap.size<=k) :
  DMS wI (wn.setCell ⟨Bm,3,none⟩ (.slice a' ys.length c')) b0 Bm base Q ⟨s.a1,s.c1,s.a2,s.c2,s.a3,s.c3,a',c'⟩ ⟨M.mem,M.pend,M.tlb,ys⟩:=by
 have hfar:∀ k,oOf s.a4=some k->b0<=k/\k ≠ Bm:=fun k hk=>h.far k (.inr (.inr hk))
 obtain ⟨hc,hf,hb,hl⟩:=h.tw ht hfar
 obtain ⟨g1,g2,g3,g4⟩:=set_facts (v:=.slice a' ys.length c') ((hc 3).trans h.c3)
 have hne:∀ k,oOf a'=some k->b0<=k/\k ≠ Bm:=fun k hk=>(ho k hk).elim (hfar k) (fun h'=>by have:=h.lt; have:=h.le; omega)
 have up:∀ {α:Type} {E:Elt α} {a:Option Addr} {n c:Nat} {xs:List α},ERow E wr base (.slice a n c) xs->(∀ k,oOf a=some k->k ≠ Bm/\oOf s.a4 ≠ some k)->ERow E (wn.setCell ⟨Bm,3,none⟩ (.slice a' ys.length c')) base (.slice a n c) xs:=fun hx hd=>(hx.touchA ht (fun k hk=>(hd k hk).2)).touchA g4 (fun k hk=>(hd k hk).1)
 have nB:∀ k,(s.mv M).owns k->k ≠ Bm:=fun k hk=>(h.own k hk).elim (fun hq=>by have:=(h.q k hq).1; have:=h.le; omega) (fun h'=>h'.2)
 refine ⟨(g1 0 (by omega)).trans ((hc 0).trans h.c0),(g1 1 (by omega)).trans ((hc 1).trans h.c1),(g1 2 (by omega)).trans ((hc 2).trans h.c2),g2,fun i hi=>(g3 i).trans ((hf i).trans (h.fz i hi)),⟨?_,?_,?_,?_⟩,fun k hk=>?_,?_,by simpa using hl,h.le,h.lw,h.q⟩
 ·exact up h.row.w (fun k hk=>⟨nB k (.inl ((own_slice _ _ _).trans hk)),fun e=>ERow.other h.row.c h.row.w (by decide) ((own_slice _ _ _).trans e) ((own_slice _ _ _).trans hk)⟩)
 ·exact up h.row.p (fun k hk=>⟨nB k (.inr (.inl ((own_slice _ _ _).trans hk))),fun e=>ERow.other h.row.c h.row.p (by decide) ((own_slice _ _ _).trans e) ((own_slice _ _ _).trans hk)⟩)
 ·exact up h.row.t (fun k hk=>⟨nB k (.inr (.inr (.inl ((own_slice _ _ _).trans hk)))),fun e=>ERow.other h.row.c h.row.t (by decide) ((own_slice _ _ _).trans e) ((own_slice _ _ _).trans hk)⟩)
 ·exact hr.touchA g4 (fun k hk=>(hne k hk).2)
 ·rcases hk with hk | hk | hk | hk
  ·exact h.own k (.inl hk)
  ·exact h.own k (.inr (.inl hk))
  ·exact h.own k (.inr (.inr (.inl hk)))
  ·exact .inr (hne k ((own_slice _ _ _).symm.trans hk))
 ·exact hb.trans (Touch.below (Below.refl _ _) g4 (by have:=h.le; omega) (fun k hk=>by rw [hk]; exact h.le))
theorem DMS.inT {wI wr wn:World} {b0 Bm base g m:Nat} {Q:Nat->Prop} {s:SV} {M:Mach} (x:TlbE) (h:DMS wI wr b0 Bm base Q s M) (hb:Below wr.heap.size wr wn) (ha:s.a3=some ⟨g,0,none⟩) (hm:m < M.tlb.length) :
  DMS wI (wn.setCells g (m * 5) (eTlb.enc x)) b0 Bm base Q s ⟨M.mem,M.pend,M.tlb.set m x,M.wc⟩:=by
 have h:=h.below hb
 have eg:oOf s.a3=some g:=by rw [ha]; rfl
 have ht:Touch (fun k=>k=g) wn (wn.setCells g (m * 5) (eTlb.enc x)):=Touch.of_grown (grown_setCells g _ _ _) (fun k hk=>by injection hk with hk; exact hk.symm)
 have hfar:∀ k,k=g->b0<=k/\k ≠ Bm:=fun k hk=>h.far k (.inr (.inl (hk ▸ eg)))
 obtain ⟨hc,hf,hb2,hl⟩:=h.tw ht hfar
 have hT:=h.row.t
 have hr:ERow eTlb (wn.setCells g (m * 5) (eTlb.enc x)) base (.slice s.a3 (M.tlb.set m x).length s.c3) (M.tlb.set m x):=by
  rw [List.length_set,ha]
  refine ERow.putAt (E:=eTlb) x ?_ hm
  have:ERow eTlb wn base (.slice s.a3 M.tlb.length s.c3) M.tlb:=hT
  rw [ha] at this
  exact this
 refine ⟨(hc 0).trans h.c0,(hc 1).trans h.c1,((hc 2).trans h.c2).trans (by simp),(hc 3).trans h.c3,fun i hi=>(hf i).trans (h.fz i hi),⟨?_,?_,hr,?_⟩,fun k hk=>?_,hb2,hl,h.le,h.lw,h.q⟩
 ·exact h.row.w.touch ht (fun k hk e=>ERow.other h.row.t h.row.w (by decide) ((own_slice _ _ _).trans (e ▸ eg)) hk)
 ·exact h.row.p.touch ht (fun k hk e=>ERow.other h.row.t h.row.p (by decide) ((own_slice _ _ _).trans (e ▸ eg)) hk)
 ·exact h.row.c.touch ht (fun k hk e=>ERow.other h.row.t h.row.c (by decide) ((own_slice _ _ _).trans (e ▸ eg)) hk)
 ·rcases hk with hk | hk | hk | hk
  ·exact h.own k (.inl hk)
  ·exact h.own k (.inr (.inl hk))
  ·exact h.own k (.inr (.inr (.inl ((own_slice _ _ _).trans ((own_slice _ _ _).symm.trans hk)))))
  ·exact h.own k (.inr (.inr (.inr hk)))
theorem DMS.inC {wI wr wn:World} {b0 Bm base g m:Nat} {Q:Nat->Prop} {s:SV} {M:Mach} (x:WcE) (h:DMS wI wr b0 Bm base Q s M) (hb:Below wr.heap.size wr wn) (ha:s.a4=some ⟨g,0,none⟩) (hm:m < M.wc.length) :
  DMS wI (wn.setCells g (m * 4) (eWc.enc x)) b0 Bm base Q s ⟨M.mem,M.pend,M.tlb,M.wc.set m x⟩:=by
 have h:=h.below hb
 have eg:oOf s.a4=some g:=by rw [ha]; rfl
 have ht:Touch (fun k=>k=g) wn (wn.setCells g (m * 4) (eWc.enc x)):=Touch.of_grown (grown_setCells g _ _ _) (fun k hk=>by injection hk with hk; exact hk.symm)
 have hfar:∀ k,k=g->b0<=k/\k ≠ Bm:=fun k hk=>h.far k (.inr (.inr (hk ▸ eg)))
 obtain ⟨hc,hf,hb2,hl⟩:=h.tw ht hfar
 have hT:=h.row.c
 have hr:ERow eWc (wn.setCells g (m * 4) (eWc.enc x)) base (.slice s.a4 (M.wc.set m x).length s.c4) (M.wc.set m x):=by
  rw [List.length_set,ha]
  refine ERow.putAt (E:=eWc) x ?_ hm
  have:ERow eWc wn base (.slice s.a4 M.wc.length s.c4) M.wc:=hT
  rw [ha] at this
  exact this
 refine ⟨(hc 0).trans h.c0,(hc 1).trans h.c1,(hc 2).trans h.c2,((hc 3).trans h.c3).trans (by simp),fun i hi=>(hf i).trans (h.fz i hi),⟨?_,?_,?_,hr⟩,fun k hk=>?_,hb2,hl,h.le,h.lw,h.q⟩
 ·exact h.row.w.touch ht (fun k hk e=>ERow.other h.row.c h.row.w (by decide) ((own_slice _ _ _).trans (e ▸ eg)) hk)
 ·exact h.row.p.touch ht (fun k hk e=>ERow.other h.row.c h.row.p (by decide) ((own_slice _ _ _).trans (e ▸ eg)) hk)
 ·exact h.row.t.touch ht (fun k hk e=>ERow.other h.row.c h.row.t (by decide) ((own_slice _ _ _).trans (e ▸ eg)) hk)
 ·rcases hk with hk | hk | hk | hk
  ·exact h.own k (.inl hk)
  ·exact h.own k (.inr (.inl hk))
  ·exact h.own k (.inr (.inr (.inl hk)))
  ·exact h.own k (.inr (.inr (.inr ((own_slice _ _ _).trans ((own_slice _ _ _).symm.trans hk)))))
theorem DMS.swap {wI wr w1:World} {b0 Bm base:Nat} {Q:Nat->Prop} {s s':SV} {M M':Mach} (h:DMS wI wr b0 Bm base Q s M) (hb:Below wr.heap.size wr w1) (hr:MRow w1 base (s'.mv M') M') (ho:∀ k,(s'.mv M').owns k->(s.mv M).owns k\/wr.heap.size<=k) :
  DMS wI ((((w1.setCell ⟨Bm,0,none⟩ (.slice s'.a1 M'.mem.length s'.c1)).setCell ⟨Bm,1,none⟩ (.slice s'.a2 M'.pend.length s'.c2)).setCell ⟨Bm,2,none⟩ (.slice s'.a3 M'.tlb.length s'.c3)).setCell ⟨Bm,3,none⟩ (.slice s'.a4 M'.wc.length s'.c4)) b0 Bm base Q s' M':=by
 have hB:=h.below hb
 obtain ⟨wF,hwF⟩:∃ wF,wF=((((w1.setCell ⟨Bm,0,none⟩ (.slice s'.a1 M'.mem.length s'.c1)).setCell ⟨Bm,1,none⟩ (.slice s'.a2 M'.pend.length s'.c2)).setCell ⟨Bm,2,none⟩ (.slice s'.a3 M'.tlb.length s'.c3)).setCell ⟨Bm,3,none⟩ (.slice s'.a4 M'.wc.length s'.c4)):=⟨_,rfl⟩
 rw [<- hwF]
 obtain ⟨p0,p1,p2,p3⟩:=put4c hwF hB.c0 hB.c1 hB.c2 hB.c3
 have ht:Touch (fun k=>k=Bm) w1 wF:=by
  rw [hwF]
  refine ⟨rfl,rfl,rfl,by simp,fun k hk hn=>?_⟩
  rw [Below.heap_setCell _ _ _ _ hn,Below.heap_setCell _ _ _ _ hn,Below.heap_setCell _ _ _ _ hn,Below.heap_setCell _ _ _ _ hn]
 have hne:∀ k,(s'.mv M').owns k->Q k\/(b0<=k/\k ≠ Bm):=fun k hk=>(ho k hk).elim (h.own k) (fun h'=>.inr (by have:=h.lt; have:=h.le; omega))
 have nB:∀ k,(s'.mv M').owns k->k ≠ Bm:=fun k hk=>(hne k hk).elim (fun hq=>by have:=(h.q k hq).1; have:=h.le; omega) (fun h'=>h'.2)
 exact ⟨p0,p1,p2,p3,fun i hi=>by rw [hwF]; simp only [World.frozen?_setCell]; exact hB.fz i hi,hr.touch ht (fun k hk e=>nB k hk e),hne,hB.bel.trans (Touch.below (Below.refl _ _) ht (by have:=hB.lt; have:=h.le; omega) (fun k hk=>by rw [hk]; exact h.le)),by rw [hwF]; simpa using hB.lt,h.le,h.lw,h.q⟩
end Go.Proofs.Ytnmhkgmmpkjjeaa
