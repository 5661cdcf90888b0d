import Derived.Test.YtiiejckfcnmhoabGreatQ27
import Derived.Test.YtiiejckfcnmhoabGreatQ24
import Derived.Test.YtiiejckfcnmhoabGreatQ14
import Derived.Test.YtiiejckfcnmhoabGreatQ26
import Derived.Test.YtiiejckfcnmhoabGreatQ06
namespace Go.Proofs.YtiiejckfcnmhoabGreat
open Go.ChangeShapes Go.WideShapes Go.ChangeAt Go.RowKit
set_option linter.unusedVariables false
attribute [local go_sem ↓] Go.wp_at_zero Go.wp_at_succ
def UV.all (u:UV) (gu k:Nat):Prop:=k=gu\/u.o1=some k\/u.o2=some k\/u.o3=some k\/u.o4=some k\/u.o5=some k
structure UWide (w w':World) (gu b0 B:Nat) (u u':UV) (M':Mach):Prop where
 um:UM w' gu b0 B true u' M'
 tch:Touch (u.all gu) w w'
 old:∀ k,u'.all gu k->u.all gu k\/w.heap.size<=k
 th:UThree u'
theorem UWide.refl {w w':World} {gu b0 B:Nat} {u:UV} {M:Mach} (h:UM w gu b0 B true u M) (ht:UThree u) (hb:Below w.heap.size w w'):UWide w w' gu b0 B u u M:=⟨h.below hb,Touch.of_below hb,fun k hk=>.inl hk,ht⟩
theorem UWide.trans {a b c:World} {gu b0 B:Nat} {u v x:UV} {M N:Mach} (h:UWide a b gu b0 B u v M) (k:UWide b c gu b0 B v x N):UWide a c gu b0 B u x N :=
 ⟨k.um,h.tch.then k.tch (fun i hi hv=>(h.old i hv).resolve_right (by omega)),fun i hi=>by
  rcases k.old i hi with hv | hv
  ·exact h.old i hv
  ·exact .inr (Nat.le_trans h.tch.size hv),k.th⟩
theorem UStep.wide {w w':World} {gu b0 B:Nat} {u u':UV} {M':Mach} (h:UStep w w' gu b0 B true u u' M') (ht:UThree u):UWide w w' gu b0 B u u' M':=by
 have sub:∀ k,u.wr gu k->u.all gu k:=fun k hk=>by
  rcases hk with e | e | e
  ·exact .inl e
  ·exact .inr (.inr (.inr (.inr (.inl e))))
  ·exact .inr (.inr (.inr (.inr (.inr e))))
 refine ⟨h.um,⟨h.tch.os,h.tch.tape,h.tch.output,h.tch.size,fun k hk hn=>h.tch.block k hk (fun hh=>hn (sub k hh))⟩,fun k hk=>?_,?_⟩
 ·rcases hk with e | e | e | e | e | e
  ·exact .inl (.inl e)
  ·exact .inl (.inr (.inl (by rw [<- h.s1]; exact e)))
  ·exact .inl (.inr (.inr (.inl (by rw [<- h.s2]; exact e))))
  ·exact .inl (.inr (.inr (.inr (.inl (by rw [<- h.s3]; exact e)))))
  ·exact (h.old k (.inr (.inl e))).imp (sub k) id
  ·exact (h.old k (.inr (.inr e))).imp (sub k) id
 ·exact ⟨fun k h1 h3=>ht.a13 k (by rw [<- h.s1]; exact h1) (by rw [<- h.s3]; exact h3),fun k h1 h2=>ht.a12 k (by rw [<- h.s1]; exact h1) (by rw [<- h.s2]; exact h2),fun k h2 h3=>ht.a23 k (by rw [<- h.s2]; exact h2) (by rw [<- h.s3]; exact h3)⟩
theorem ERow.cellsB {α:Type} {E:Elt α} {w:World} {b c:Nat} {a:Option Addr} {xs:List α} (h:ERow E w b (.slice a xs.length c) xs) :
  ∃ g,(0 < xs.length->a=some ⟨g,0,none⟩/\g < w.heap.size/\b<=g/\xs.length<=c)/\∀ k,k < xs.length->∀ j,j < E.sz->∀ wX:World,wX.heap[g]?=w.heap[g]?->wX.cell? ⟨g,k * E.sz+j,none⟩=some (eCell E xs k j):=by
 by_cases h0:0 < xs.length
 ·rcases h.2 with ⟨e,h1⟩ | ⟨g0,cap,cur,e,hb,hg,hn,hm,hs,ht⟩
  ·exact absurd h0 (by omega)
  ·obtain ⟨a',c',e',hf⟩:=h.form
   obtain ⟨g,N,f,hag,hbg,hr,hN,hc⟩:=hf h0
   simp only [Value.slice.injEq] at e e'
   have hga:a=some ⟨g,0,none⟩:=e'.1.trans hag
   refine ⟨g,fun _=>⟨hga,hr.lt,hbg,by omega⟩,fun k hk j hj wX hX=>?_⟩
   rw [(hr.of_block hX).cell (Nat.lt_of_lt_of_le (cell_lt hk hj) hN)]
   exact congrArg some (hc k hk j hj)
 ·exact ⟨0,fun h=>absurd h h0,fun k hk=>absurd hk (by omega)⟩
theorem tlb_cells {w:World} {b c:Nat} {a:Option Addr} {xs:List TlbE} (h:ERow eTE w b (.slice a xs.length c) xs) :
  ∃ g,(0 < xs.length->a=some ⟨g,0,none⟩/\g < w.heap.size)/\∀ k P S O R D,k < xs.length->eAt eTlb xs k=⟨P,S,O,R,D⟩->∀ wX:World,wX.heap[g]?=w.heap[g]?->wX.cell? ⟨g,k * 5,none⟩=some (.int .i64 P)/\wX.cell? ⟨g,k * 5+1,none⟩=some (.int .i64 S)/\wX.cell? ⟨g,k * 5+2,none⟩=some (.bool D)/\wX.cell? ⟨g,k * 5+3,none⟩=some (.int .i64 O)/\wX.cell? ⟨g,k * 5+4,none⟩=some (.int .i64 R):=by
 obtain ⟨g,h1,h2⟩:=h.cellsB
 refine ⟨g,fun h0=>⟨(h1 h0).1,(h1 h0).2.1⟩,fun k P S O R D hk he wX hX=>?_⟩
 have e0:∀ j,eCell eTE xs k j=((eTE.enc ⟨P,S,O,R,D⟩)[j]?).getD (.bool false):=fun j=>by
  have he':eAt eTE xs k=⟨P,S,O,R,D⟩:=he
  unfold eCell; rw [he']
 have c:∀ j,j < 5->wX.cell? ⟨g,k * 5+j,none⟩=some (eCell eTE xs k j):=fun j hj=>h2 k hk j hj wX hX
 exact ⟨(c 0 (by omega)).trans (by rw [e0]; rfl),(c 1 (by omega)).trans (by rw [e0]; rfl),(c 2 (by omega)).trans (by rw [e0]; rfl),(c 3 (by omega)).trans (by rw [e0]; rfl),(c 4 (by omega)).trans (by rw [e0]; rfl)⟩
theorem wc_cells {w:World} {b c:Nat} {a:Option Addr} {xs:List WcE} (h:ERow eWE w b (.slice a xs.length c) xs) :
  ∃ g,(0 < xs.length->a=some ⟨g,0,none⟩/\g < w.heap.size)/\∀ k L P T D,k < xs.length->eAt eWc xs k=⟨L,P,T,D⟩->∀ wX:World,wX.heap[g]?=w.heap[g]?->wX.cell? ⟨g,k * 5,none⟩=some (.int .i64 P)/\wX.cell? ⟨g,k * 5+1,none⟩=some (.int .i64 (16 * cov L))/\wX.cell? ⟨g,k * 5+2,none⟩=some (.bool D)/\wX.cell? ⟨g,k * 5+3,none⟩=some (.int .i64 L)/\wX.cell? ⟨g,k * 5+4,none⟩=some (.int .i64 T):=by
 obtain ⟨g,h1,h2⟩:=h.cellsB
 refine ⟨g,fun h0=>⟨(h1 h0).1,(h1 h0).2.1⟩,fun k L P T D hk he wX hX=>?_⟩
 have e0:∀ j,eCell eWE xs k j=((eWE.enc ⟨L,P,T,D⟩)[j]?).getD (.bool false):=fun j=>by
  have he':eAt eWE xs k=⟨L,P,T,D⟩:=he
  unfold eCell; rw [he']
 have c:∀ j,j < 5->wX.cell? ⟨g,k * 5+j,none⟩=some (eCell eWE xs k j):=fun j hj=>h2 k hk j hj wX hX
 exact ⟨(c 0 (by omega)).trans (by rw [e0]; rfl),(c 1 (by omega)).trans (by rw [e0]; rfl),(c 2 (by omega)).trans (by rw [e0]; rfl),(c 3 (by omega)).trans (by rw [e0]; rfl),(c 4 (by omega)).trans (by rw [e0]; rfl)⟩
theorem plc_cells {w:World} {b c:Nat} {a:Option Addr} {ps:List P3} (h:PRow w b (.slice a ps.length c) ps) :
  ∃ g,(0 < ps.length->a=some ⟨g,0,none⟩/\g < w.heap.size)/\∀ k F L P,k < ps.length->pAt ps k=⟨F,L,P⟩->∀ wX,Below w.heap.size w wX->wX.cell? ⟨g,k * 3,none⟩=some (.int .i64 F)/\wX.cell? ⟨g,k * 3+1,none⟩=some (.int .i64 L)/\wX.cell? ⟨g,k * 3+2,none⟩=some (.int .i64 P):=by
 obtain ⟨a',c',e,hf⟩:=h.form
 simp only [Value.slice.injEq] at e
 obtain ⟨rfl,_,_⟩:=e
 by_cases h0:0 < ps.length
 ·obtain ⟨g,N,f,rfl,_,hr,hN,hc⟩:=hf h0
  refine ⟨g,fun _=>⟨rfl,hr.lt⟩,fun k F L P hk he wX hX=>?_⟩
  have hr1:wX.rowIs g 172 N f:=hr.of_block (hX.block g hr.lt)
  obtain ⟨x0,x1,x2⟩:=hc k hk
  rw [he] at x0 x1 x2
  exact ⟨(hr1.cell (by omega)).trans (congrArg some x0),(hr1.cell (by omega)).trans (congrArg some x1),(hr1.cell (by omega)).trans (congrArg some x2)⟩
 ·exact ⟨0,fun h=>absurd h h0,fun k F L P hk=>absurd hk (by omega)⟩
theorem eWord_c {w:World} {b c:Nat} {a:Option Addr} {zs:List Int} (h:ERow eWord w b (.slice a zs.length c) zs) (h0:0 < zs.length):∃ g,a=some ⟨g,0,none⟩/\CRow w g zs/\zs.length<=c/\b<=g:=by
 obtain ⟨g,h1,h2⟩:=h.cellsB
 obtain ⟨e,hl,hb,hc⟩:=h1 h0
 refine ⟨g,e,⟨hl,fun i hi=>?_⟩,hc,hb⟩
 have:=h2 i hi 0 (by decide) w rfl
 have e1:i * eWord.sz+0=i:=by show i * 1+0=i; omega
 rw [e1] at this
 exact this
theorem lateL_rng {M:Mach} (h:WOk M) (hp:∀ i,i < M.pend.length->0<=(eAt eWrite M.pend i).addr):∀ i,0<=(lateL M).getD i 0/\(lateL M).getD i 0 < 2 ^ 64:=fun i=>by
 by_cases hi:i < M.mem.length
 ·rw [lateL_read M i hi hp]
  exact readTo_rng h _ _
 ·rw [List.getD_eq_getElem?_getD,List.getElem?_eq_none (by rw [lateL_length]; omega)]
  simp
theorem late_ok {M:Mach} (h:WOk M) (hp:∀ i,i < M.pend.length->0<=(eAt eWrite M.pend i).addr):OkMem (lateL M):=⟨by rw [lateL_length]; exact h.n0,lateL_rng h hp⟩
theorem WOk.okMem {M:Mach} (h:WOk M):OkMem M.mem:=⟨h.n0,h.word⟩
attribute [local go_sem ↓] Go.wp_at_zero Go.wp_at_succ
theorem ops_cells {w:World} {b c:Nat} {a:Option Addr} {xs:List OpE} (h:ERow eOp w b (.slice a xs.length c) xs) :
  ∃ g,(0 < xs.length->a=some ⟨g,0,none⟩/\g < w.heap.size)/\∀ k K A B W,k < xs.length->opAt xs k=⟨K,A,B,W⟩->∀ wX:World,wX.heap[g]?=w.heap[g]?->wX.cell? ⟨g,k * 4,none⟩=some (.int .i64 K)/\wX.cell? ⟨g,k * 4+1,none⟩=some (.int .i64 A)/\wX.cell? ⟨g,k * 4+2,none⟩=some (.int .i64 B)/\wX.cell? ⟨g,k * 4+3,none⟩=some (.int .u64 W):=by
 obtain ⟨g,h1,h2⟩:=h.cellsB
 refine ⟨g,fun h0=>⟨(h1 h0).1,(h1 h0).2.1⟩,fun k K A B W hk he wX hX=>?_⟩
 have e0:∀ j,eCell eOp xs k j=((eOp.enc ⟨K,A,B,W⟩)[j]?).getD (.bool false):=fun j=>by
  have he':eAt eOp xs k=⟨K,A,B,W⟩:=he
  unfold eCell; rw [he']
 have c:∀ j,j < 4->wX.cell? ⟨g,k * 4+j,none⟩=some (eCell eOp xs k j):=fun j hj=>h2 k hk j hj wX hX
 exact ⟨(c 0 (by omega)).trans (by rw [e0]; rfl),(c 1 (by omega)).trans (by rw [e0]; rfl),(c 2 (by omega)).trans (by rw [e0]; rfl),(c 3 (by omega)).trans (by rw [e0]; rfl)⟩
theorem evs_cells {w:World} {b c:Nat} {a:Option Addr} {xs:List EventE} (h:ERow eEvent w b (.slice a xs.length c) xs) :
  ∃ g,(0 < xs.length->a=some ⟨g,0,none⟩/\g < w.heap.size)/\∀ k K P N C,k < xs.length->eAt eEvent xs k=⟨K,P,N,C⟩->∀ wX:World,wX.heap[g]?=w.heap[g]?->wX.cell? ⟨g,k * 4,none⟩=some (.int .i64 K)/\wX.cell? ⟨g,k * 4+1,none⟩=some (.int .i64 P)/\wX.cell? ⟨g,k * 4+2,none⟩=some (.int .i64 N)/\wX.cell? ⟨g,k * 4+3,none⟩=some (.int .i64 C):=by
 obtain ⟨g,h1,h2⟩:=h.cellsB
 refine ⟨g,fun h0=>⟨(h1 h0).1,(h1 h0).2.1⟩,fun k K P N C hk he wX hX=>?_⟩
 have e0:∀ j,eCell eEvent xs k j=((eEvent.enc ⟨K,P,N,C⟩)[j]?).getD (.bool false):=fun j=>by
  unfold eCell; rw [he]
 have c:∀ j,j < 4->wX.cell? ⟨g,k * 4+j,none⟩=some (eCell eEvent xs k j):=fun j hj=>h2 k hk j hj wX hX
 exact ⟨(c 0 (by omega)).trans (by rw [e0]; rfl),(c 1 (by omega)).trans (by rw [e0]; rfl),(c 2 (by omega)).trans (by rw [e0]; rfl),(c 3 (by omega)).trans (by rw [e0]; rfl)⟩
structure XV where
 u:UV
 sa:Option Addr
 sc:Nat
def XV.all (v:XV) (gx gu k:Nat):Prop:=k=gx\/v.u.all gu k\/oOf v.sa=some k
theorem UM.all_lt {W:World} {gu b0 B:Nat} {L:Bool} {u:UV} {M:Mach} (h:UM W gu b0 B L u M) (k:Nat) (hk:u.all gu k):k < W.heap.size:=by
 rcases hk with rfl | hk | hk | hk | hk | hk
 ·exact h.lt
 ·exact (h.w.ownA k hk).2
 ·exact h.o2 k hk
 ·exact (h.p.ownA k hk).2
 ·exact (h.t.ownA k hk).2
 ·exact (h.c.ownA k hk).2
structure XM (W:World) (gx gu b0:Nat) (oa:Option Addr) (oc:Nat) (ops:List OpE) (v:XV) (x:XS):Prop where
 lt:gx < W.heap.size
 q0:W.cell? ⟨gx,0,none⟩=some (.pointer (some ⟨gu,0,none⟩))
 q1:W.cell? ⟨gx,1,none⟩=some (.slice oa ops.length oc)
 q2:W.cell? ⟨gx,2,none⟩=some (.int .i64 (x.at':Int))
 q3:W.cell? ⟨gx,3,none⟩=some (.int .i64 x.code)
 q4:W.cell? ⟨gx,4,none⟩=some (.slice v.sa x.seen.length v.sc)
 f2:W.frozen? ⟨gx,2,none⟩=false
 f3:W.frozen? ⟨gx,3,none⟩=false
 f4:W.frozen? ⟨gx,4,none⟩=false
 um:UM W gu b0 b0 true v.u x.M
 th:UThree v.u
 s:ERow eSeen W b0 (.slice v.sa x.seen.length v.sc) x.seen
 ng:¬ v.u.all gu gx
 ns:oOf v.sa ≠ some gx
 nu:∀ k,oOf v.sa=some k->¬ v.u.all gu k
theorem XM.below {W W':World} {gx gu b0:Nat} {oa:Option Addr} {oc:Nat} {ops:List OpE} {v:XV} {x:XS} (h:XM W gx gu b0 oa oc ops v x) (hb:Below W.heap.size W W'):XM W' gx gu b0 oa oc ops v x :=
 ⟨Nat.lt_of_lt_of_le h.lt hb.size,(hb.cell h.lt).trans h.q0,(hb.cell h.lt).trans h.q1,(hb.cell h.lt).trans h.q2,(hb.cell h.lt).trans h.q3,(hb.cell h.lt).trans h.q4,(hb.frozen h.lt).trans h.f2,(hb.frozen h.lt).trans h.f3,(hb.frozen h.lt).trans h.f4,h.um.below hb,h.th,h.s.below hb,h.ng,h.ns,h.nu⟩
structure XStep (w w':World) (gx gu b0:Nat) (oa:Option Addr) (oc:Nat) (ops:List OpE) (v v':XV) (x':XS):Prop where
 xm:XM w' gx gu b0 oa oc ops v' x'
 tch:Touch (v.all gx gu) w w'
 old:∀ k,v'.all gx gu k->v.all gx gu k\/w.heap.size<=k
theorem XStep.refl {w w':World} {gx gu b0:Nat} {oa:Option Addr} {oc:Nat} {ops:List OpE} {v:XV} {x:XS} (h:XM w gx gu b0 oa oc ops v x) (hb:Below w.heap.size w w'):XStep w w' gx gu b0 oa oc ops v v x:=⟨h.below hb,Touch.of_below hb,fun k hk=>.inl hk⟩
theorem XStep.trans {a b c:World} {gx gu b0:Nat} {oa:Option Addr} {oc:Nat} {ops:List OpE} {v y z:XV} {x1 x2:XS} (h:XStep a b gx gu b0 oa oc ops v y x1) (k:XStep b c gx gu b0 oa oc ops y z x2):XStep a c gx gu b0 oa oc ops v z x2 :=
 ⟨k.xm,h.tch.then k.tch (fun i hi hv=>(h.old i hv).resolve_right (by omega)),fun i hi=>by
  rcases k.old i hi with hv | hv
  ·exact h.old i hv
  ·exact .inr (Nat.le_trans h.tch.size hv)⟩
theorem XStep.under {B:Nat} {w0 w w':World} {gx gu b0:Nat} {oa:Option Addr} {oc:Nat} {ops:List OpE} {v v':XV} {x':XS} (h:XStep w w' gx gu b0 oa oc ops v v' x') (hb:Below B w0 w) (hB:B<=w.heap.size) (hv:∀ k,v.all gx gu k->B<=k):Below B w0 w'/\(∀ k,v'.all gx gu k->B<=k) :=
 ⟨Touch.below hb h.tch hB hv,fun k hk=>(h.old k hk).elim (hv k) (fun hh=>by omega)⟩
theorem XM.mach {w w':World} {gx gu b0:Nat} {oa:Option Addr} {oc:Nat} {ops:List OpE} {v:XV} {x:XS} {u':UV} {M':Mach} (h:XM w gx gu b0 oa oc ops v x) (k:UWide w w' gu b0 b0 v.u u' M'):XStep w w' gx gu b0 oa oc ops v ⟨u',v.sa,v.sc⟩ ⟨M',x.at',x.code,x.seen⟩:=by
 have hlt:=h.lt
 have hblk:w'.heap[gx]?=w.heap[gx]?:=k.tch.block gx h.lt h.ng
 have hso:∀ i,oOf v.sa=some i->i < w.heap.size:=fun i hi=>(h.s.ownA i hi).2
 refine ⟨⟨Nat.lt_of_lt_of_le h.lt k.tch.size,(cob hblk).trans h.q0,(cob hblk).trans h.q1,(cob hblk).trans h.q2,(cob hblk).trans h.q3,(cob hblk).trans h.q4,(fob hblk).trans h.f2,(fob hblk).trans h.f3,(fob hblk).trans h.f4,k.um,k.th,h.s.touchA k.tch h.nu,fun hh=>?_,h.ns,fun i hi hh=>?_⟩,?_,fun i hi=>?_⟩
 ·rcases k.old gx hh with h' | h'
  ·exact h.ng h'
  ·omega
 ·rcases k.old i hh with h' | h'
  ·exact h.nu i hi h'
  ·have:=hso i hi; omega
 ·exact ⟨k.tch.os,k.tch.tape,k.tch.output,k.tch.size,fun i hi hn=>k.tch.block i hi (fun hh=>hn (.inr (.inl hh)))⟩
 ·rcases hi with hi | hi | hi
  ·exact .inl (.inl hi)
  ·exact (k.old i hi).elim (fun hh=>.inl (.inr (.inl hh))) .inr
  ·exact .inl (.inr (.inr hi))
theorem UM.other {W W':World} {gu b0 B gx:Nat} {L:Bool} {u:UV} {M:Mach} (h:UM W gu b0 B L u M) (ht:Touch (fun k=>k=gx) W W') (hn:¬ u.all gu gx):UM W' gu b0 B L u M :=
 h.touch ht (fun e=>hn (.inl e.symm)) (fun k hk e=>hn (.inr (.inl (e ▸ hk)))) (fun k hk e=>hn (.inr (.inr (.inl (e ▸ hk))))) (fun k hk e=>hn (.inr (.inr (.inr (.inl (e ▸ hk)))))) (fun k hk e=>hn (.inr (.inr (.inr (.inr (.inl (e ▸ hk))))))) (fun k hk e=>hn (.inr (.inr (.inr (.inr (.inr (e ▸ hk)))))))
theorem XM.setAt {w:World} {gx gu b0:Nat} {oa:Option Addr} {oc:Nat} {ops:List OpE} {v:XV} {x:XS} (h:XM w gx gu b0 oa oc ops v x) (n:Nat):XStep w (w.setCell ⟨gx,2,none⟩ (.int .i64 (n:Int))) gx gu b0 oa oc ops v v ⟨x.M,n,x.code,x.seen⟩:=by
 have ht:Touch (fun k=>k=gx) w (w.setCell ⟨gx,2,none⟩ (.int .i64 (n:Int))):=Touch.put (Touch.none _) _ _ (by rfl)
 have oc':∀ i,i ≠ 2->(w.setCell ⟨gx,2,none⟩ (.int .i64 (n:Int))).cell? ⟨gx,i,none⟩=w.cell? ⟨gx,i,none⟩:=fun i hi=>World.cell?_setCell_other _ _ _ _ (by intro e; injection e with _ e; exact hi e.symm)
 refine ⟨⟨by simpa using h.lt,(oc' 0 (by omega)).trans h.q0,(oc' 1 (by omega)).trans h.q1,World.cell?_setCell_same _ _ _ h.q2,(oc' 3 (by omega)).trans h.q3,(oc' 4 (by omega)).trans h.q4,(World.frozen?_setCell _ _ _ _).trans h.f2,(World.frozen?_setCell _ _ _ _).trans h.f3,(World.frozen?_setCell _ _ _ _).trans h.f4,h.um.other ht h.ng,h.th,h.s.touchA ht (fun k hk e=>h.ns (e ▸ hk)),h.ng,h.ns,h.nu⟩,?_,fun k hk=>.inl hk⟩
 exact ⟨ht.os,ht.tape,ht.output,ht.size,fun i hi hn=>ht.block i hi (fun e=>hn (.inl e))⟩
theorem XM.setCode {w:World} {gx gu b0:Nat} {oa:Option Addr} {oc:Nat} {ops:List OpE} {v:XV} {x:XS} (h:XM w gx gu b0 oa oc ops v x) (n:Int):XStep w (w.setCell ⟨gx,3,none⟩ (.int .i64 n)) gx gu b0 oa oc ops v v ⟨x.M,x.at',n,x.seen⟩:=by
 have ht:Touch (fun k=>k=gx) w (w.setCell ⟨gx,3,none⟩ (.int .i64 n)):=Touch.put (Touch.none _) _ _ (by rfl)
 have oc':∀ i,i ≠ 3->(w.setCell ⟨gx,3,none⟩ (.int .i64 n)).cell? ⟨gx,i,none⟩=w.cell? ⟨gx,i,none⟩:=fun i hi=>World.cell?_setCell_other _ _ _ _ (by intro e; injection e with _ e; exact hi e.symm)
 refine ⟨⟨by simpa using h.lt,(oc' 0 (by omega)).trans h.q0,(oc' 1 (by omega)).trans h.q1,(oc' 2 (by omega)).trans h.q2,World.cell?_setCell_same _ _ _ h.q3,(oc' 4 (by omega)).trans h.q4,(World.frozen?_setCell _ _ _ _).trans h.f2,(World.frozen?_setCell _ _ _ _).trans h.f3,(World.frozen?_setCell _ _ _ _).trans h.f4,h.um.other ht h.ng,h.th,h.s.touchA ht (fun k hk e=>h.ns (e ▸ hk)),h.ng,h.ns,h.nu⟩,?_,fun k hk=>.inl hk⟩
 exact ⟨ht.os,ht.tape,ht.output,ht.size,fun i hi hn=>ht.block i hi (fun e=>hn (.inl e))⟩
theorem XM.newSeen {W W':World} {gx gu b0:Nat} {oa:Option Addr} {oc:Nat} {ops:List OpE} {v:XV} {x:XS} (h:XM W gx gu b0 oa oc ops v x) (hg:W.grownBy W' (oOf v.sa)) (a':Option Addr) (c':Nat) (ys:List SeenR)
  (hc:ERow eSeen W' b0 (.slice a' ys.length c') ys) (ho:∀ k,oOf a'=some k->oOf v.sa=some k\/W.heap.size<=k) :
  XStep W (W'.setCell ⟨gx,4,none⟩ (.slice a' ys.length c')) gx gu b0 oa oc ops v ⟨v.u,a',c'⟩ ⟨x.M,x.at',x.code,ys⟩:=by
 have hlt:=h.lt
 have hsz:=hg.size
 have hblk:W'.heap[gx]?=W.heap[gx]?:=hg.block gx h.lt (fun e=>h.ns e.symm)
 have hS:Touch (fun k=>k=gx\/oOf v.sa=some k) W (W'.setCell ⟨gx,4,none⟩ (.slice a' ys.length c')):=⟨hg.os,hg.tape,hg.output,by simpa using hg.size,fun k hk hn=>(Below.heap_setCell _ _ _ _ (fun e=>hn (.inl e))).trans (hg.block k hk (fun e=>hn (.inr e.symm)))⟩
 have cells:∀ i,i ≠ 4->(W'.setCell ⟨gx,4,none⟩ (.slice a' ys.length c')).cell? ⟨gx,i,none⟩=W.cell? ⟨gx,i,none⟩:=fun i hi=>by
  rw [World.cell?_setCell_other _ _ _ _ (by intro e; injection e with _ e; exact hi e.symm)]
  exact cob hblk
 have cnew:(W'.setCell ⟨gx,4,none⟩ (.slice a' ys.length c')).cell? ⟨gx,4,none⟩=some (.slice a' ys.length c'):=World.cell?_setCell_same _ _ _ ((cob (a:=⟨gx,4,none⟩) hblk).trans h.q4)
 have frz:∀ i,(W'.setCell ⟨gx,4,none⟩ (.slice a' ys.length c')).frozen? ⟨gx,i,none⟩=W.frozen? ⟨gx,i,none⟩:=fun i=>by
  rw [World.frozen?_setCell]
  exact fob (a:=⟨gx,i,none⟩) hblk
 have hne:oOf a' ≠ some gx:=fun e=>by
  rcases ho gx e with h' | h'
  ·exact h.ns h'
  ·omega
 have hrow:ERow eSeen (W'.setCell ⟨gx,4,none⟩ (.slice a' ys.length c')) b0 (.slice a' ys.length c') ys :=
  hc.touchA (S:=fun k=>k=gx) ⟨rfl,rfl,rfl,by simp,fun k hk hn=>Below.heap_setCell _ _ _ _ hn⟩ (fun k hk e=>hne (by rw [<- e]; exact hk))
 have hn:∀ k,v.u.all gu k->¬ (k=gx\/oOf v.sa=some k):=fun k hk hh=>hh.elim (fun e=>h.ng (e ▸ hk)) (fun e=>h.nu k e hk)
 have hum:=h.um.touch hS (hn gu (.inl rfl)) (fun k hk=>hn k (.inr (.inl hk))) (fun k hk=>hn k (.inr (.inr (.inl hk)))) (fun k hk=>hn k (.inr (.inr (.inr (.inl hk))))) (fun k hk=>hn k (.inr (.inr (.inr (.inr (.inl hk)))))) (fun k hk=>hn k (.inr (.inr (.inr (.inr (.inr hk))))))
 refine ⟨⟨Nat.lt_of_lt_of_le h.lt hS.size,(cells 0 (by omega)).trans h.q0,(cells 1 (by omega)).trans h.q1,(cells 2 (by omega)).trans h.q2,(cells 3 (by omega)).trans h.q3,cnew,(frz 2).trans h.f2,(frz 3).trans h.f3,(frz 4).trans h.f4,hum,h.th,hrow,h.ng,hne,fun k hk hh=>?_⟩,⟨hS.os,hS.tape,hS.output,hS.size,fun i hi hni=>hS.block i hi (fun e=>hni (e.elim .inl (fun e=>.inr (.inr e))))⟩,fun k hk=>?_⟩
 ·rcases ho k hk with h' | h'
  ·exact h.nu k h' hh
  ·have:=h.um.all_lt k hh; omega
 ·rcases hk with hk | hk | hk
  ·exact .inl (.inl hk)
  ·exact .inl (.inr (.inl hk))
  ·exact (ho k hk).imp (fun e=>.inr (.inr e)) id
attribute [local go_sem ↓] Go.wp_at_zero Go.wp_at_succ
theorem eqOutcome_same (R:XS) (s s':SV) (sa sa':Option Addr) (sc sc' b b':Nat) (w:World) (z1:R.M.Small) (z2:R.seen.length<=1048576) (h:MRow w b (s.mv R.M) R.M) (hS:ERow eSeen w b (.slice sa R.seen.length sc) R.seen) (h':MRow w b' (s'.mv R.M) R.M) (hS':ERow eSeen w b' (.slice sa' R.seen.length sc') R.seen) :
  Calls Tryz.prog 23 #[.agg #[.int .i64 R.code,.int .i64 (R.at':Int),.slice s.a1 R.M.mem.length s.c1,.slice s.a2 R.M.pend.length s.c2,.slice s.a3 R.M.tlb.length s.c3,.slice s.a4 R.M.wc.length s.c4,.slice sa R.seen.length sc],.agg #[.int .i64 R.code,.int .i64 (R.at':Int),.slice s'.a1 R.M.mem.length s'.c1,.slice s'.a2 R.M.pend.length s'.c2,.slice s'.a3 R.M.tlb.length s'.c3,.slice s'.a4 R.M.wc.length s'.c4,.slice sa' R.seen.length sc']] w fun e w'=>e=.returned (.bool true)/\Below w.heap.size w w':=by
 obtain ⟨wb,hwb⟩:∃ wb,wb=(w.alloc (.cells #[.int .i64 R.code,.int .i64 (R.at':Int),.slice s.a1 R.M.mem.length s.c1,.slice s.a2 R.M.pend.length s.c2,.slice s.a3 R.M.tlb.length s.c3,.slice s.a4 R.M.wc.length s.c4,.slice sa R.seen.length sc] 60)).alloc (.cells #[.int .i64 R.code,.int .i64 (R.at':Int),.slice s'.a1 R.M.mem.length s'.c1,.slice s'.a2 R.M.pend.length s'.c2,.slice s'.a3 R.M.tlb.length s'.c3,.slice s'.a4 R.M.wc.length s'.c4,.slice sa' R.seen.length sc'] 60):=⟨_,rfl⟩
 have hbb:Below w.heap.size w wb:=by rw [hwb]; exact bal.alloc (by simp) _
 have hzb:wb.heap.size=w.heap.size+2:=by rw [hwb]; simp
 have HBOX:Hid (∀ wX,Below wb.heap.size wb wX->(wX.cell? ⟨w.heap.size,0,none⟩=some (.int .i64 R.code)/\wX.cell? ⟨w.heap.size,1,none⟩=some (.int .i64 (R.at':Int))/\wX.cell? ⟨w.heap.size,2,none⟩=some (.slice s.a1 R.M.mem.length s.c1)/\wX.cell? ⟨w.heap.size,3,none⟩=some (.slice s.a2 R.M.pend.length s.c2)/\wX.cell? ⟨w.heap.size,4,none⟩=some (.slice s.a3 R.M.tlb.length s.c3)/\wX.cell? ⟨w.heap.size,5,none⟩=some (.slice s.a4 R.M.wc.length s.c4)/\wX.cell? ⟨w.heap.size,6,none⟩=some (.slice sa R.seen.length sc))/\(wX.cell? ⟨w.heap.size+1,0,none⟩=some (.int .i64 R.code)/\wX.cell? ⟨w.heap.size+1,1,none⟩=some (.int .i64 (R.at':Int))/\wX.cell? ⟨w.heap.size+1,2,none⟩=some (.slice s'.a1 R.M.mem.length s'.c1)/\wX.cell? ⟨w.heap.size+1,3,none⟩=some (.slice s'.a2 R.M.pend.length s'.c2)/\wX.cell? ⟨w.heap.size+1,4,none⟩=some (.slice s'.a3 R.M.tlb.length s'.c3)/\wX.cell? ⟨w.heap.size+1,5,none⟩=some (.slice s'.a4 R.M.wc.length s'.c4)/\wX.cell? ⟨w.heap.size+1,6,none⟩=some (.slice sa' R.seen.length sc'))/\w.heap.size < wX.heap.size/\w.heap.size+1 < wX.heap.size):=fun wX hX=>by
  have hsz:=hX.size
  refine ⟨⟨?_,?_,?_,?_,?_,?_,?_⟩,⟨?_,?_,?_,?_,?_,?_,?_⟩,by omega,by omega⟩
  iterate 14 (exact (hX.cell (by simp; omega)).trans (by rw [hwb]; simp [go_sem]))
 have h1:=eqMachine_same (s.mv R.M) (s'.mv R.M) R.M b b' wb z1 (h.below hbb) (h'.below hbb)
 rw [hwb] at h1
 have HS:Hid (∀ wX,Below wb.heap.size wb wX->Calls Tryz.prog 80 #[.slice sa R.seen.length sc,.slice sa' R.seen.length sc'] wX fun e w'=>e=.returned (.bool true)/\Below wX.heap.size wX w'):=fun wX hX=>eqSeenS_same _ _ b b' R.seen wX z2 (hS.below (hbb.trans (hX.mono (by omega)))) (hS'.below (hbb.trans (hX.mono (by omega))))
 have HB0:Hid (Below w.heap.size w wb):=hbb
 have HWB:Hid (wb=_):=hwb
 have HZ:Hid (w.heap.size<=wb.heap.size):=hbb.size
 clear hwb hbb hzb h hS h' hS'
 go_enter Tryz.func23,Tryz.ntmps23
 go_wp2_with fail
 refine h1.mono ?_
 rintro e w1 ⟨rfl,hb1'⟩
 have hb1:Below wb.heap.size wb w1:=by rw [HWB.out]; exact hb1'
 obtain ⟨⟨q0,q1,q2,q3,q4,q5,q6⟩,⟨p0,p1,p2,p3,p4,p5,p6⟩,N0,N1⟩:=HBOX.out w1 hb1
 have HB1:Hid (Below wb.heap.size wb w1):=hb1
 clear hb1' hb1 h1
 go_wp2_with fail
 refine (HS.out w1 HB1.out).mono ?_
 rintro e w2 ⟨rfl,hb2⟩
 have HB2:Hid (Below w.heap.size w w2):=HB0.out.trans ((HB1.out.trans (hb2.mono HB1.out.size)).mono HZ.out)
 clear hb2
 go_wp2_with fail
 go_ret
 exact ⟨rfl,HB2.out⟩
theorem MHas.grown {W W':World} {m:MV} {M:Mach} {s:Int} {row:Option Nat} (h:MHas W m M s) (hg:W.grownBy W' row) (hne:∀ k,m.owns k->some k ≠ row):MHas W' m M s :=
 ⟨h.w.kept hg (fun k hk=>hne k (.inl hk)),h.p.kept hg (fun k hk=>hne k (.inr (.inl hk))),h.t.kept hg (fun k hk=>hne k (.inr (.inr (.inl hk)))),h.c.kept hg (fun k hk=>hne k (.inr (.inr (.inr hk))))⟩
theorem MHas.below {W W':World} {m:MV} {M:Mach} {s:Int} (h:MHas W m M s) (hb:Below W.heap.size W W'):MHas W' m M s:=⟨h.w.below hb,h.p.below hb,h.t.below hb,h.c.below hb⟩
theorem markOutcome_any (R:XS) (s:SV) (sa:Option Addr) (sc b:Nat) (w:World) (z1:R.M.Small) (z2:R.seen.length<=1048576) (h:MRow w b (s.mv R.M) R.M) (hS:ERow eSeen w b (.slice sa R.seen.length sc) R.seen) (hap:(s.mv R.M).apart) (hn:∀ k,oOf sa=some k->¬ (s.mv R.M).owns k) :
  Calls Tryz.prog 28 #[.agg #[.int .i64 R.code,.int .i64 (R.at':Int),.slice s.a1 R.M.mem.length s.c1,.slice s.a2 R.M.pend.length s.c2,.slice s.a3 R.M.tlb.length s.c3,.slice s.a4 R.M.wc.length s.c4,.slice sa R.seen.length sc],.int .i64 1] w fun e w'=>e=.returned (.int .i64 ((1+(R.M.mem.length:Int)+R.M.pend.length * 2+R.M.tlb.length * 5+R.M.wc.length * 4)+R.seen.length * 4))/\MHas w' (s.mv R.M) R.M 1/\EHas eSeen w' (.slice sa R.seen.length sc) R.seen.length (markSeen (1+(R.M.mem.length:Int)+R.M.pend.length * 2+R.M.tlb.length * 5+R.M.wc.length * 4))/\Touch (fun k=>(s.mv R.M).owns k\/oOf sa=some k) w w':=by
 have y1:=z1.w
 have y2:=z1.p
 have y3:=z1.t
 have y4:=z1.c
 obtain ⟨wb,hwb⟩:∃ wb,wb=w.alloc (.cells #[.int .i64 R.code,.int .i64 (R.at':Int),.slice s.a1 R.M.mem.length s.c1,.slice s.a2 R.M.pend.length s.c2,.slice s.a3 R.M.tlb.length s.c3,.slice s.a4 R.M.wc.length s.c4,.slice sa R.seen.length sc] 60):=⟨_,rfl⟩
 have hbb:Below w.heap.size w wb:=by rw [hwb]; exact bal
 have hzb:wb.heap.size=w.heap.size+1:=by rw [hwb]; simp
 have hol:∀ k,(s.mv R.M).owns k->k < w.heap.size:=fun k hk=>(h.own k hk).2
 have q6:∀ wX:World,wX.heap[w.heap.size]?=wb.heap[w.heap.size]?->wX.cell? ⟨w.heap.size,6,none⟩=some (.slice sa R.seen.length sc):=fun wX hX=>(cob hX).trans (by rw [hwb]; simp [go_sem])
 have m1:=markMachine_any (s.mv R.M) R.M b wb z1 (h.below hbb) hap
 rw [hwb] at m1
 have HMS:Hid (∀ wX,Touch (s.mv R.M).owns wb wX->Calls Tryz.prog 83 #[.slice sa R.seen.length sc,.int .i64 (1+(R.M.mem.length:Int)+R.M.pend.length * 2+R.M.tlb.length * 5+R.M.wc.length * 4)] wX fun e w'=>e=.returned (.int .i64 ((1+(R.M.mem.length:Int)+R.M.pend.length * 2+R.M.tlb.length * 5+R.M.wc.length * 4)+R.seen.length * 4))/\EHas eSeen w' (.slice sa R.seen.length sc) R.seen.length (markSeen (1+(R.M.mem.length:Int)+R.M.pend.length * 2+R.M.tlb.length * 5+R.M.wc.length * 4))/\wX.grownBy w' (oOf sa)):=fun wX hX=>by
  have:=markSeenS_any (.slice sa R.seen.length sc) b R.seen (1+(R.M.mem.length:Int)+R.M.pend.length * 2+R.M.tlb.length * 5+R.M.wc.length * 4) wX (by omega) (by omega) z2 ((hS.below hbb).touchA hX hn)
  rw [own_slice] at this
  exact this
 have HQ:Hid (∀ wX:World,wX.heap[w.heap.size]?=wb.heap[w.heap.size]?->wX.cell? ⟨w.heap.size,6,none⟩=some (.slice sa R.seen.length sc)):=q6
 have HWB:Hid (wb=_):=hwb
 have HB0:Hid (Below w.heap.size w wb):=hbb
 have HNN:Hid (∀ k,oOf sa=some k->¬ (s.mv R.M).owns k):=hn
 have HOL:Hid ((∀ k,(s.mv R.M).owns k->k < w.heap.size)/\wb.heap.size=w.heap.size+1):=⟨hol,hzb⟩
 clear hwb hbb hzb h hS hap hn q6 hol
 go_enter Tryz.func28,Tryz.ntmps28
 go_wp2_with fail
 refine m1.mono ?_
 rintro e w1 ⟨rfl,hm1,ht1'⟩
 have ht1:Touch (s.mv R.M).owns wb w1:=by rw [HWB.out]; exact ht1'
 have q6:=HQ.out w1 (ht1.block w.heap.size (by have:=HOL.out.2; omega) (fun hh=>by have:=HOL.out.1 _ hh; omega))
 have hz1:w.heap.size < w1.heap.size:=by have:=HOL.out.2; have:=ht1.size; omega
 have HT1:Hid (Touch (s.mv R.M).owns wb w1):=ht1
 have HM1:Hid (MHas w1 (s.mv R.M) R.M 1):=hm1
 clear ht1' ht1 hm1 m1
 go_wp2_with fail
 refine (HMS.out w1 HT1.out).mono ?_
 rintro e w2 ⟨rfl,hs2,hg2⟩
 have HF:Hid (MHas w2 (s.mv R.M) R.M 1/\EHas eSeen w2 (.slice sa R.seen.length sc) R.seen.length (markSeen (1+(R.M.mem.length:Int)+R.M.pend.length * 2+R.M.tlb.length * 5+R.M.wc.length * 4))/\Touch (fun k=>(s.mv R.M).owns k\/oOf sa=some k) w w2):=hidOf <| by
  refine ⟨HM1.out.grown hg2 (fun k hk e=>HNN.out k e.symm hk),hs2,?_⟩
  have t0:Touch (fun k=>(s.mv R.M).owns k\/oOf sa=some k) w wb:=Touch.of_below HB0.out
  have t1:Touch (fun k=>(s.mv R.M).owns k\/oOf sa=some k) wb w1:=⟨HT1.out.os,HT1.out.tape,HT1.out.output,HT1.out.size,fun k hk hn=>HT1.out.block k hk (fun hh=>hn (.inl hh))⟩
  exact (t0.trans t1).trans (Touch.of_grown hg2 (fun k hk=>.inr hk))
 clear hs2 hg2
 go_wp2_with fail
 go_ret
 exact ⟨rfl,HF.out⟩
theorem heldOutcome_any (R:XS) (s:SV) (sa:Option Addr) (sc:Nat) (w:World) (z1:R.M.Small) (z2:R.seen.length<=1048576) (h:MHas w (s.mv R.M) R.M 1) (hS:EHas eSeen w (.slice sa R.seen.length sc) R.seen.length (markSeen (1+(R.M.mem.length:Int)+R.M.pend.length * 2+R.M.tlb.length * 5+R.M.wc.length * 4))) :
  Calls Tryz.prog 29 #[.agg #[.int .i64 R.code,.int .i64 (R.at':Int),.slice s.a1 R.M.mem.length s.c1,.slice s.a2 R.M.pend.length s.c2,.slice s.a3 R.M.tlb.length s.c3,.slice s.a4 R.M.wc.length s.c4,.slice sa R.seen.length sc],.int .i64 1] w fun e w'=>e=.returned (.int .i64 ((1+(R.M.mem.length:Int)+R.M.pend.length * 2+R.M.tlb.length * 5+R.M.wc.length * 4)+R.seen.length * 4))/\Below w.heap.size w w':=by
 have y1:=z1.w
 have y2:=z1.p
 have y3:=z1.t
 have y4:=z1.c
 obtain ⟨wb,hwb⟩:∃ wb,wb=w.alloc (.cells #[.int .i64 R.code,.int .i64 (R.at':Int),.slice s.a1 R.M.mem.length s.c1,.slice s.a2 R.M.pend.length s.c2,.slice s.a3 R.M.tlb.length s.c3,.slice s.a4 R.M.wc.length s.c4,.slice sa R.seen.length sc] 60):=⟨_,rfl⟩
 have hbb:Below w.heap.size w wb:=by rw [hwb]; exact bal
 have hzb:wb.heap.size=w.heap.size+1:=by rw [hwb]; simp
 have HQ:Hid (∀ wX,Below wb.heap.size wb wX->wX.cell? ⟨w.heap.size,6,none⟩=some (.slice sa R.seen.length sc)/\w.heap.size < wX.heap.size):=fun wX hX=>⟨(hX.cell (by simp; omega)).trans (by rw [hwb]; simp [go_sem]),by have:=hX.size; omega⟩
 have m1:=heldMachine_any (s.mv R.M) R.M wb z1 (h.below hbb)
 rw [hwb] at m1
 have HHS:Hid (∀ wX,Below wb.heap.size wb wX->Calls Tryz.prog 84 #[.slice sa R.seen.length sc,.int .i64 (1+(R.M.mem.length:Int)+R.M.pend.length * 2+R.M.tlb.length * 5+R.M.wc.length * 4)] wX fun e w'=>e=.returned (.int .i64 ((1+(R.M.mem.length:Int)+R.M.pend.length * 2+R.M.tlb.length * 5+R.M.wc.length * 4)+R.seen.length * 4))/\Below wX.heap.size wX w'):=fun wX hX=>heldSeenS_any (.slice sa R.seen.length sc) R.seen.length (1+(R.M.mem.length:Int)+R.M.pend.length * 2+R.M.tlb.length * 5+R.M.wc.length * 4) wX (by omega) (by omega) z2 (hS.below (hbb.trans (hX.mono (by omega))))
 have d1:decide ((1+(R.M.mem.length:Int)+R.M.pend.length * 2+R.M.tlb.length * 5+R.M.wc.length * 4) < 0)=false:=by simp; omega
 have d2:decide ((1+(R.M.mem.length:Int)+R.M.pend.length * 2+R.M.tlb.length * 5+R.M.wc.length * 4)+R.seen.length * 4 < 0)=false:=by simp; omega
 have HWB:Hid (wb=_):=hwb
 have HB0:Hid (Below w.heap.size w wb):=hbb
 clear hwb hbb hzb h hS
 go_enter Tryz.func29,Tryz.ntmps29
 go_wp2_with fail
 refine m1.mono ?_
 rintro e w1 ⟨rfl,hb1'⟩
 have hb1:Below wb.heap.size wb w1:=by rw [HWB.out]; exact hb1'
 obtain ⟨q6,N0⟩:=HQ.out w1 hb1
 have HB1:Hid (Below wb.heap.size wb w1):=hb1
 clear hb1' hb1 m1
 go_wp2_with fail
 refine (HHS.out w1 HB1.out).mono ?_
 rintro e w2 ⟨rfl,hb2⟩
 have HB2:Hid (Below w.heap.size w w2):=HB0.out.trans ((HB1.out.trans (hb2.mono HB1.out.size)).mono HB0.out.size)
 clear hb2
 go_wp2_with fail
 go_ret
 exact ⟨rfl,HB2.out⟩
end Go.Proofs.YtiiejckfcnmhoabGreat
