import Derived.Test.YtnmhkgmmpkjjeaaG30
namespace Go.Proofs.Ytnmhkgmmpkjjeaa
open Go.ChangeShapes Go.WideShapes Go.ChangeAt Go.RowKit
set_option linter.unusedVariables false
attribute [local go_sem ↓] Go.wp_at_zero Go.wp_at_succ
theorem doom_any (b o:Nat) (hp hn first pages:Int) (D:Bool) (h0:0<=hp/\hp < 100000) (h1:0<=hn/\hn < 100000) (h2:0<=first/\first < 100000) (h3:0<=pages/\pages < 100000) (w:World) (hb:b < w.heap.size) (c0:w.cell? ⟨b,o,none⟩=some (.int .i64 hp)) (c1:w.cell? ⟨b,o+1,none⟩=some (.int .i64 hn)) (c2:w.cell? ⟨b,o+2,none⟩=some (.bool D)) (f2:w.frozen? ⟨b,o+2,none⟩=false) :
  Calls Try.prog 239 #[.pointer (some ⟨b,o,none⟩),.int .i64 first,.int .i64 pages] w fun e w'=>e=.returned (.tuple #[])/\∃ w2,Below w.heap.size w w2/\w'=if meets hp hn first pages then w2.setCell ⟨b,o+2,none⟩ (.bool true) else w2:=by
 have hov:=overlaps_any b o hp hn first pages h0 h1 h2 h3 w c0 c1
 cases hm:meets hp hn first pages <;> rw [hm] at hov
 ·simp only [Bool.false_eq_true,if_false]
  clear hm
  go_enter Try.func239,Try.ntmps239
  go_wp2_with fail
  refine hov.mono ?_
  rintro e w1 ⟨rfl,hb1⟩
  go_wp2_with fail
  exact bodyPost_end (v:=.tuple #[]) (by simp [results,Try.results239,go_sem]) rfl ⟨rfl,w1,hb1,rfl⟩
 ·simp only [if_true]
  clear hm
  go_enter Try.func239,Try.ntmps239
  go_wp2_with fail
  refine hov.mono ?_
  rintro e w1 ⟨rfl,hb1⟩
  have d2:=(hb1.cell (p:=⟨b,o+2,none⟩) hb).trans c2
  have g2:=(hb1.frozen (p:=⟨b,o+2,none⟩) hb).trans f2
  go_wp2_with fail
  exact bodyPost_end (v:=.tuple #[]) (by simp [results,Try.results239,go_sem]) rfl ⟨rfl,w1,hb1,rfl⟩
theorem cell_div {sz:Nat} (i j:Nat) (hj:j < sz):(i * sz+j) / sz=i:=by
 rw [Nat.mul_comm,Nat.mul_add_div (by omega),Nat.div_eq_of_lt hj]; rfl
theorem ERow.setAt {α:Type} {E:Elt α} {w:World} {base g n c:Nat} {xs:List α} (h:ERow E w base (.slice (some ⟨g,0,none⟩) n c) xs) (k j:Nat) (hk:k < xs.length) (hj:j < E.sz) (v:Value) (x:α) (hx:E.enc x=(E.enc (eAt E xs k)).set j v) :
  ERow E (w.setCell ⟨g,k * E.sz+j,none⟩ v) base (.slice (some ⟨g,0,none⟩) n c) (xs.set k x):=by
 rcases h.2 with ⟨e,_⟩ | ⟨g',cap,cur,e,hb,hg,hn,hm,hs,ht⟩
 ·simp at e
 ·simp only [Value.slice.injEq,Option.some.injEq,Addr.mk.injEq,and_true] at e
  obtain ⟨rfl,rfl,rfl⟩:=e
  obtain ⟨a',c',e',hf⟩:=h.form
  obtain ⟨g2,N,f,hag,hbg,hr,hN,hc⟩:=hf (by omega)
  simp only [Value.slice.injEq] at e'
  have hgg:some (⟨g,0,none⟩:Addr)=some ⟨g2,0,none⟩:=e'.1.trans hag
  simp only [Option.some.injEq,Addr.mk.injEq,and_true] at hgg
  subst hgg
  have hNs:N=cur.size:=by
   obtain ⟨cur2,hg2,hs2,_⟩:=hr
   rw [hg] at hg2
   simp only [Option.some.injEq,Obj.cells.injEq] at hg2
   rw [<- hs2,hg2.1]
  refine ERow.of_row (n:=xs.length) (by simp) hb (hr.set (k * E.sz+j) v) (by rw [hNs,hs]) hn hm (fun i hi q hq=>?_)
  have hat:eAt E (xs.set k x) i=if i=k then x else eAt E xs i:=by
   unfold eAt
   rw [List.getD_eq_getElem?_getD,List.getD_eq_getElem?_getD,List.getElem?_set]
   by_cases e:i=k
   ·subst e; simp [hi]
   ·rw [if_neg (fun e'=>e e'.symm),if_neg e]
  by_cases e:i=k
  ·subst e
   by_cases eq:q=j
   ·subst eq
    rw [if_pos rfl]
    unfold eCell
    rw [hat,if_pos rfl,hx,List.getElem?_set_self (by rw [E.len]; exact hq)]
    rfl
   ·rw [if_neg (by omega),hc i hi q hq]
    unfold eCell
    rw [hat,if_pos rfl,hx,List.getElem?_set_ne (fun e'=>eq e'.symm)]
  ·rw [if_neg (fun e2=>by
    have h1:=cell_div (sz:=E.sz) i q hq
    have h2:=cell_div (sz:=E.sz) k j hj
    rw [e2] at h1
    exact e (h1.symm.trans h2)),hc i hi q hq]
   unfold eCell
   rw [hat,if_neg e]
theorem UM.rowTlb {W W':World} {gu b0 B:Nat} {L:Bool} {u:UV} {M:Mach} (h:UM W gu b0 B L u M) (hT:Touch (fun k=>u.o4=some k) W W') (ys:List TlbE) (hl:ys.length=M.tlb.length) (hc:ERow eTE W' B (.slice u.a4 ys.length u.c4) ys):UM W' gu b0 B L u ⟨M.mem,M.pend,ys,M.wc⟩:=by
 have hk:=hT.block gu h.lt (fun e=>h.ap.g4 e)
 exact ⟨Nat.lt_of_lt_of_le h.lt hT.size,(World.cell?_of_block hk).trans h.q0,(World.cell?_of_block hk).trans h.q1,(World.cell?_of_block hk).trans h.q2,by rw [show (Mach.mk M.mem M.pend ys M.wc).tlb.length=M.tlb.length from hl]; exact (World.cell?_of_block hk).trans h.q3,(World.cell?_of_block hk).trans h.q4,(World.frozen?_of_block hk).trans h.f2,(World.frozen?_of_block hk).trans h.f3,(World.frozen?_of_block hk).trans h.f4,
  h.w.touchA hT (fun k hk e=>h.ap.t1 k e hk),fun hl=>⟨(h.l hl).1,(h.l hl).2.touchA hT (fun k hk e=>h.ap.t2 k e hk)⟩,h.p.touchA hT (fun k hk e=>h.ap.t3 k e hk),hc,h.c.touchA hT (fun k hk e=>h.ap.t5 k e hk),h.ap,fun k hk=>Nat.lt_of_lt_of_le (h.o2 k hk) hT.size⟩
theorem UM.rowWc {W W':World} {gu b0 B:Nat} {L:Bool} {u:UV} {M:Mach} (h:UM W gu b0 B L u M) (hT:Touch (fun k=>u.o5=some k) W W') (ys:List WcE) (hl:ys.length=M.wc.length) (hc:ERow eWE W' B (.slice u.a5 ys.length u.c5) ys):UM W' gu b0 B L u ⟨M.mem,M.pend,M.tlb,ys⟩:=by
 have hk:=hT.block gu h.lt (fun e=>h.ap.g5 e)
 exact ⟨Nat.lt_of_lt_of_le h.lt hT.size,(World.cell?_of_block hk).trans h.q0,(World.cell?_of_block hk).trans h.q1,(World.cell?_of_block hk).trans h.q2,(World.cell?_of_block hk).trans h.q3,by rw [show (Mach.mk M.mem M.pend M.tlb ys).wc.length=M.wc.length from hl]; exact (World.cell?_of_block hk).trans h.q4,(World.frozen?_of_block hk).trans h.f2,(World.frozen?_of_block hk).trans h.f3,(World.frozen?_of_block hk).trans h.f4,
  h.w.touchA hT (fun k hk e=>h.ap.w1 k e hk),fun hl=>⟨(h.l hl).1,(h.l hl).2.touchA hT (fun k hk e=>h.ap.w2 k e hk)⟩,h.p.touchA hT (fun k hk e=>h.ap.w3 k e hk),h.t.touchA hT (fun k hk e=>h.ap.t5 k hk e),hc,h.ap,fun k hk=>Nat.lt_of_lt_of_le (h.o2 k hk) hT.size⟩
def mapTo {α:Type} (f:α->α) (xs:List α) (k:Nat):List α:=(xs.take k).map f ++ xs.drop k
theorem mapTo_length {α:Type} (f:α->α) (xs:List α) (k:Nat):(mapTo f xs k).length=xs.length:=by simp [mapTo]; omega
theorem mapTo_zero {α:Type} (f:α->α) (xs:List α):mapTo f xs 0=xs:=by simp [mapTo]
theorem mapTo_all {α:Type} (f:α->α) (xs:List α):mapTo f xs xs.length=xs.map f:=by simp [mapTo]
theorem mapTo_get {α:Type} (f:α->α) (xs:List α) (k i:Nat):(mapTo f xs k)[i]?=if i < k then (xs[i]?).map f else xs[i]?:=by
 unfold mapTo
 by_cases h:i < k
 ·rw [if_pos h]
  by_cases hx:i < xs.length
  ·rw [List.getElem?_append_left (by simp; omega)]
   simp [h]
  ·rw [List.getElem?_append_right (by simp; omega),List.getElem?_drop,List.getElem?_eq_none (by simp; omega),List.getElem?_eq_none (by omega)]
   rfl
 ·rw [if_neg h]
  by_cases hx:k<=xs.length
  ·rw [List.getElem?_append_right (by simp; omega),List.getElem?_drop]
   congr 1
   simp
   omega
  ·rw [List.getElem?_append_right (by simp; omega),List.getElem?_drop,List.getElem?_eq_none (by simp; omega),List.getElem?_eq_none (by omega)]
theorem mapTo_at {α:Type} (E:Elt α) (f:α->α) (xs:List α) (k:Nat):eAt E (mapTo f xs k) k=eAt E xs k:=by
 unfold eAt
 rw [List.getD_eq_getElem?_getD,List.getD_eq_getElem?_getD,mapTo_get,if_neg (by omega)]
theorem mapTo_succ {α:Type} (E:Elt α) (f:α->α) (xs:List α) (k:Nat) (hk:k < xs.length):mapTo f xs (k+1)=(mapTo f xs k).set k (f (eAt E xs k)):=by
 apply List.ext_getElem?
 intro i
 rw [mapTo_get,List.getElem?_set,mapTo_get]
 by_cases e:k=i
 ·subst e
  rw [if_pos (by omega),if_pos rfl,if_pos (by rw [mapTo_length]; exact hk),List.getElem?_eq_getElem hk]
  unfold eAt
  rw [List.getD_eq_getElem?_getD,List.getElem?_eq_getElem hk]
  rfl
 ·rw [if_neg e]
  by_cases h:i < k
  ·rw [if_pos (by omega),if_pos h]
  ·rw [if_neg (by omega),if_neg h]
theorem list_set_at {α:Type} (E:Elt α) (xs:List α) (k:Nat) (hk:k < xs.length):xs.set k (eAt E xs k)=xs:=by
 apply List.ext_getElem?
 intro i
 rw [List.getElem?_set]
 by_cases e:k=i
 ·subst e
  rw [if_pos rfl,if_pos hk]
  unfold eAt
  rw [List.getD_eq_getElem?_getD,List.getElem?_eq_getElem hk]
  rfl
 ·rw [if_neg e]
theorem doomedT {gu b0 B:Nat} {u:UV} {M:Mach} {a b:Int} {k g:Nat} {wr w1 w2:World} (hk:k < M.tlb.length) (hga:u.a4=some ⟨g,0,none⟩) (h:UM wr gu b0 B true u ⟨M.mem,M.pend,mapTo (doomT a b) M.tlb k,M.wc⟩) (hb:Below wr.heap.size wr w2)
  (he:w1=if meets (eAt eTlb M.tlb k).page (eAt eTlb M.tlb k).size a b then w2.setCell ⟨g,k * 5+2,none⟩ (.bool true) else w2) :
  UM w1 gu b0 B true u ⟨M.mem,M.pend,mapTo (doomT a b) M.tlb (k+1),M.wc⟩/\Touch (fun q=>u.o4=some q) wr w1:=by
 have ho:u.o4=some g:=by unfold UV.o4; rw [hga]; rfl
 have hl:=mapTo_length (doomT a b) M.tlb k
 have h2:=h.below hb
 have hat:=mapTo_at eTE (doomT a b) M.tlb k
 have hsc:=mapTo_succ eTE (doomT a b) M.tlb k hk
 have hE:eAt eTE M.tlb k=eAt eTlb M.tlb k:=rfl
 cases hm:meets (eAt eTlb M.tlb k).page (eAt eTlb M.tlb k).size a b
 ·rw [hm] at he
  simp only [Bool.false_eq_true,if_false] at he
  subst he
  have hd:doomT a b (eAt eTE M.tlb k)=eAt eTE M.tlb k:=by
   rw [hE]
   unfold doomT
   rw [hm,Bool.or_false]
  have hsame:mapTo (doomT a b) M.tlb (k+1)=mapTo (doomT a b) M.tlb k:=by
   rw [hsc,hd,<- hat]
   exact list_set_at eTE _ k (by rw [hl]; exact hk)
  rw [hsame]
  exact ⟨h2,Touch.of_below hb⟩
 ·rw [hm] at he
  simp only [if_true] at he
  have hT:Touch (fun q=>u.o4=some q) w2 w1:=by
   rw [he]
   exact ⟨rfl,rfl,rfl,by simp,fun q hq hn=>Below.heap_setCell _ _ _ _ (fun e=>hn (by rw [e]; exact ho))⟩
  have hrow:ERow eTE w1 B (.slice u.a4 (mapTo (doomT a b) M.tlb (k+1)).length u.c4) (mapTo (doomT a b) M.tlb (k+1)):=by
   have h3:=h2.t
   rw [hga] at h3 ⊢
   rw [mapTo_length,hsc,he]
   have h4:ERow eTE w2 B (.slice (some ⟨g,0,none⟩) (mapTo (doomT a b) M.tlb k).length u.c4) (mapTo (doomT a b) M.tlb k):=h3
   rw [hl] at h4
   refine h4.setAt k 2 (by rw [hl]; exact hk) (by decide) (.bool true) _ ?_
   rw [hat,hE]
   unfold doomT
   rw [hm,Bool.or_true]
   rfl
  refine ⟨?_,(Touch.of_below hb).trans hT⟩
  have h5:=h2.rowTlb hT (mapTo (doomT a b) M.tlb (k+1)) (by show _=(mapTo _ _ _).length; rw [mapTo_length,mapTo_length]) hrow
  exact h5
theorem doomedW {gu b0 B:Nat} {u:UV} {M:Mach} {a b:Int} {k g:Nat} {wr w1 w2:World} (hk:k < M.wc.length) (hga:u.a5=some ⟨g,0,none⟩) (h:UM wr gu b0 B true u ⟨M.mem,M.pend,M.tlb,mapTo (doomW a b) M.wc k⟩) (hb:Below wr.heap.size wr w2)
  (he:w1=if meets (eAt eWc M.wc k).page (16 * cov (eAt eWc M.wc k).level) a b then w2.setCell ⟨g,k * 5+2,none⟩ (.bool true) else w2) :
  UM w1 gu b0 B true u ⟨M.mem,M.pend,M.tlb,mapTo (doomW a b) M.wc (k+1)⟩/\Touch (fun q=>u.o5=some q) wr w1:=by
 have ho:u.o5=some g:=by unfold UV.o5; rw [hga]; rfl
 have hl:=mapTo_length (doomW a b) M.wc k
 have h2:=h.below hb
 have hat:=mapTo_at eWE (doomW a b) M.wc k
 have hsc:=mapTo_succ eWE (doomW a b) M.wc k hk
 have hE:eAt eWE M.wc k=eAt eWc M.wc k:=rfl
 cases hm:meets (eAt eWc M.wc k).page (16 * cov (eAt eWc M.wc k).level) a b
 ·rw [hm] at he
  simp only [Bool.false_eq_true,if_false] at he
  subst he
  have hd:doomW a b (eAt eWE M.wc k)=eAt eWE M.wc k:=by
   rw [hE]
   unfold doomW
   rw [hm,Bool.or_false]
  have hsame:mapTo (doomW a b) M.wc (k+1)=mapTo (doomW a b) M.wc k:=by
   rw [hsc,hd,<- hat]
   exact list_set_at eWE _ k (by rw [hl]; exact hk)
  rw [hsame]
  exact ⟨h2,Touch.of_below hb⟩
 ·rw [hm] at he
  simp only [if_true] at he
  have hT:Touch (fun q=>u.o5=some q) w2 w1:=by
   rw [he]
   exact ⟨rfl,rfl,rfl,by simp,fun q hq hn=>Below.heap_setCell _ _ _ _ (fun e=>hn (by rw [e]; exact ho))⟩
  have hrow:ERow eWE w1 B (.slice u.a5 (mapTo (doomW a b) M.wc (k+1)).length u.c5) (mapTo (doomW a b) M.wc (k+1)):=by
   have h3:=h2.c
   rw [hga] at h3 ⊢
   rw [mapTo_length,hsc,he]
   have h4:ERow eWE w2 B (.slice (some ⟨g,0,none⟩) (mapTo (doomW a b) M.wc k).length u.c5) (mapTo (doomW a b) M.wc k):=h3
   rw [hl] at h4
   refine h4.setAt k 2 (by rw [hl]; exact hk) (by decide) (.bool true) _ ?_
   rw [hat,hE]
   unfold doomW
   rw [hm,Bool.or_true]
   rfl
  refine ⟨?_,(Touch.of_below hb).trans hT⟩
  have h5:=h2.rowWc hT (mapTo (doomW a b) M.wc (k+1)) (by show _=(mapTo _ _ _).length; rw [mapTo_length,mapTo_length]) hrow
  exact h5
theorem ERow.frz {α:Type} {E:Elt α} {w:World} {b g n c:Nat} {xs:List α} (h:ERow E w b (.slice (some ⟨g,0,none⟩) n c) xs) (i:Nat):w.frozen? ⟨g,i,none⟩=false:=by
 rcases h.2 with ⟨e,_⟩ | ⟨g',cap,cur,e,hb,hg,hn,hm,hs,ht⟩
 ·simp at e
 ·simp only [Value.slice.injEq,Option.some.injEq,Addr.mk.injEq,and_true] at e
  obtain ⟨rfl,_,_⟩:=e
  have hr:w.rowIs g E.T cur.size (fun i=>cur.getD i (.bool false)):=⟨cur,hg,rfl,fun i hi=>by simp [hi]⟩
  exact hr.frozen i
set_option maxHeartbeats 4000000 in
theorem invApply_any (gu b0 B:Nat) (u:UV) (M:Mach) (K a b W:Int) (w:World) (hv:validB M=true) (ha0:0<=a) (ha1:a < 4096) (hb0:1<=b) (hb1:b<=4096) (ht:M.tlb.length<=256) (hc:M.wc.length<=256) (h:UM w gu b0 B true u M) :
  Calls Try.prog 237 #[.agg #[.int .i64 K,.int .i64 a,.int .i64 b,.int .u64 W],.pointer (some ⟨gu,0,none⟩)] w fun e w'=>e=.returned (.tuple #[])/\UM w' gu b0 B true u ⟨M.mem,M.pend,M.tlb.map (doomT a b),M.wc.map (doomW a b)⟩/\Touch (fun q=>u.o4=some q\/u.o5=some q) w w':=by
 obtain ⟨wb,hwb⟩:∃ wb,wb=w.alloc (.cells #[.int .i64 K,.int .i64 a,.int .i64 b,.int .u64 W] 231):=⟨_,rfl⟩
 have hbb:Below w.heap.size w wb:=by rw [hwb]; exact (Below.refl _ _).alloc (Nat.le_refl _) _
 have hzb:wb.heap.size=w.heap.size+1:=by rw [hwb]; simp
 have hl4:∀ q,u.o4=some q->q < w.heap.size:=fun q hq=>(h.t.ownA q hq).2
 have hl5:∀ q,u.o5=some q->q < w.heap.size:=fun q hq=>(h.c.ownA q hq).2
 have HLT:Hid ((∀ q,u.o4=some q->q < w.heap.size)/\(∀ q,u.o5=some q->q < w.heap.size)):=⟨hl4,hl5⟩
 have HBOX:Hid (∀ wX,Touch (fun q=>u.o4=some q\/u.o5=some q) wb wX->wX.cell? ⟨w.heap.size,0,none⟩=some (.int .i64 K)/\wX.cell? ⟨w.heap.size,1,none⟩=some (.int .i64 a)/\wX.cell? ⟨w.heap.size,2,none⟩=some (.int .i64 b)/\wX.cell? ⟨w.heap.size,3,none⟩=some (.int .u64 W)):=fun wX hX=>by
  have hk:=hX.block w.heap.size (by omega) (fun e=>by
   rcases e with e | e
   ·have:=hl4 _ e; omega
   ·have:=hl5 _ e; omega)
  refine ⟨?_,?_,?_,?_⟩
  iterate 4 (exact (World.cell?_of_block hk).trans (by rw [hwb]; simp [go_sem]))
 have hSZ:Hid (∀ wX,Touch (fun q=>u.o4=some q\/u.o5=some q) wb wX->w.heap.size < wX.heap.size):=fun wX hX=>by have:=hX.size; omega
 have humb:=h.below hbb
 have q3:=h.q3
 have hlt:=h.lt
 have HV:Hid (validB M=true):=hv
 have HWB:Hid (wb=_):=hwb
 have HBB:Hid (Below w.heap.size w wb):=hbb
 have HUB:Hid (UM wb gu b0 B true u ⟨M.mem,M.pend,mapTo (doomT a b) M.tlb 0,M.wc⟩):=by rw [mapTo_zero]; exact humb
 clear h hwb hbb hzb hl4 hl5 hv humb
 go_enter Try.func237,Try.ntmps237
 go_wp2_with fail
 rw [<- HWB.out]
 clear q3
 go_loopw [11] (fun i wr=>∃ k:Nat,k<=M.tlb.length/\i=.int .i64 k/\UM wr gu b0 B true u ⟨M.mem,M.pend,mapTo (doomT a b) M.tlb k,M.wc⟩/\Touch (fun q=>u.o4=some q) wb wr) (fun i _=>M.tlb.length - (intOf i).toNat)
 case atStart=>exact ⟨0,Nat.zero_le _,rfl,HUB.out,Touch.of_below (Below.refl _ _)⟩
 case round =>
  obtain ⟨k,hk,rfl,hum,htw0⟩:=hrel
  have htw:Touch (fun q=>u.o4=some q\/u.o5=some q) wb wr:=⟨htw0.os,htw0.tape,htw0.output,htw0.size,fun q hq hn=>htw0.block q hq (fun e=>hn (.inl e))⟩
  by_cases hlt2:k < M.tlb.length
  ·obtain ⟨E,hE'⟩:∃ E,eAt eTlb M.tlb k=E:=⟨_,rfl⟩
   have hEM:eAt eTlb (mapTo (doomT a b) M.tlb k) k=E:=(mapTo_at eTE _ _ k).trans hE'
   have hml:=mapTo_length (doomT a b) M.tlb k
   have hrow:ERow eTE wr B (.slice u.a4 (mapTo (doomT a b) M.tlb k).length u.c4) (mapTo (doomT a b) M.tlb k):=hum.t
   obtain ⟨g,hg1,hg2⟩:=tlb_cells hrow
   obtain ⟨hga,hgl⟩:=hg1 (by omega)
   have hfz:wr.frozen? ⟨g,k * 5+2,none⟩=false:=by rw [hga] at hrow; exact hrow.frz _
   have htv:=valid_tlb HV.out k hlt2
   rw [hE'] at htv
   obtain ⟨P,S,O,R,D⟩:=E
   have hg3:=hg2 k P S O R D (by rw [hml]; exact hlt2) hEM wr.drew rfl
   have HKEEP:Hid (∀ wX,Touch (fun q=>u.o4=some q) wr wX->wX.cell? ⟨gu,3,none⟩=some (.slice (some ⟨g,0,none⟩) M.tlb.length u.c4)/\(wX.cell? ⟨w.heap.size,0,none⟩=some (.int .i64 K)/\wX.cell? ⟨w.heap.size,1,none⟩=some (.int .i64 a)/\wX.cell? ⟨w.heap.size,2,none⟩=some (.int .i64 b)/\wX.cell? ⟨w.heap.size,3,none⟩=some (.int .u64 W))):=fun wX hX=>by
    have hk:=hX.block gu hum.lt (fun e=>hum.ap.g4 e)
    have q:=(World.cell?_of_block (a:=⟨gu,3,none⟩) hk).trans hum.q3
    have hbx:=hX.block w.heap.size (by have:=hSZ.out wr htw; omega) (fun e=>by have:=HLT.out.1 _ e; omega)
    obtain ⟨x0,x1,x2,x3⟩:=HBOX.out wr htw
    refine ⟨by rw [<- hga,<- hml]; exact q,(World.cell?_of_block hbx).trans x0,(World.cell?_of_block hbx).trans x1,(World.cell?_of_block hbx).trans x2,(World.cell?_of_block hbx).trans x3⟩
   have hts:(0<=P/\P < 100000)/\(0<=S/\S < 100000):=by
    simp only [tlbOkB,pageOk,Bool.and_eq_true,Bool.or_eq_true,decide_eq_true_eq] at htv
    omega
   have hdm:=doom_any g (k * 5) P S a b D hts.1 hts.2 (by omega) (by omega) wr.drew hgl hg3.1 hg3.2.1 hg3.2.2.1 hfz
   obtain ⟨qa,bx0,bx1,bx2,bx3⟩:=HKEEP.out wr (Touch.of_below (Below.refl _ _))
   have HUM:Hid (UM wr gu b0 B true u ⟨M.mem,M.pend,mapTo (doomT a b) M.tlb k,M.wc⟩):=hum
   have HTW:Hid _:=htw0
   have L1:(0:Int)<=(k:Int):=by omega
   have L2:(k:Int) < (M.tlb.length:Int):=by omega
   have HGA:Hid (u.a4=_):=hga
   clear hum htw htw0 hrow hg1 hg2 hg3 htv hts hfz hga
   go_wp2_with fail
   refine wp_region_held_drew (S:=(fun wX=>wX.cell? ⟨gu,3,none⟩=some (.slice (some ⟨g,0,none⟩) M.tlb.length u.c4)/\(wX.cell? ⟨w.heap.size,0,none⟩=some (.int .i64 K)/\wX.cell? ⟨w.heap.size,1,none⟩=some (.int .i64 a)/\wX.cell? ⟨w.heap.size,2,none⟩=some (.int .i64 b)/\wX.cell? ⟨w.heap.size,3,none⟩=some (.int .u64 W)))) (by kernel_rfl) (HKEEP.out _ (Touch.of_below ((Below.refl _ _).drew))) (fun hHeld=>?_)
   refine tk 0 ?_
   refine tk 1 ?_
   refine tk 2 ?_
   refine tk 3 ?_
   refine tk 4 ?_
   refine tk 5 ?_
   refine tk 6 ?_
   refine tk 7 ?_
   refine tk 8 ?_
   refine tk 9 ?_
   refine tk 10 ?_
   refine wpAnyH_ready (rs:=[11]) (by kernel_rfl) (by simp) ?_
   refine AllReadyH.cons rfl (fun K hK=>?_) AllReadyH.nil
   go_simp
   go_at_call 239
   refine hdm.mono ?_
   rintro e w1 ⟨rfl,w2,hb2,he⟩
   obtain ⟨hum2,ht2⟩:=doomedT (M:=M) (w1:=w1) hlt2 HGA.out HUM.out ((Below.refl _ _).drew.trans (hb2.mono (by simp))) (by rw [hE']; exact he)
   clear he hb2
   go_wp2_with fail
   refine hK.out _ _ (HKEEP.out w1 ht2) (fun hHeld2=>?_)
   clear hK K
   refine wpAnyH_done (by kernel_rfl) ?_ _
   go_wp2_with fail
   go_roundw
   case rel=>exact ⟨k+1,by omega,by go_num,hum2,HTW.out.trans ht2⟩
   case measure=>simp [intOf]; omega
  ·obtain rfl:k=M.tlb.length:=by omega
   rw [mapTo_all] at hum
   obtain ⟨wA,rfl⟩:∃ wA:World,wA=wr:=⟨_,rfl⟩
   have HUA:Hid (UM wA gu b0 B true u ⟨M.mem,M.pend,M.tlb.map (doomT a b),mapTo (doomW a b) M.wc 0⟩):=by rw [mapTo_zero]; exact hum
   have HTA:Hid (Touch (fun q=>u.o4=some q\/u.o5=some q) wb wA):=htw
   have q4:wA.cell? ⟨gu,4,none⟩=some (.slice u.a5 M.wc.length u.c5):=hum.q4
   clear hum htw htw0
   go_wp2_with fail
   clear q4
   go_loopw [32] (fun i wr=>∃ k:Nat,k<=M.wc.length/\i=.int .i64 k/\UM wr gu b0 B true u ⟨M.mem,M.pend,M.tlb.map (doomT a b),mapTo (doomW a b) M.wc k⟩/\Touch (fun q=>u.o4=some q\/u.o5=some q) wb wr) (fun i _=>M.wc.length - (intOf i).toNat)
   case atStart=>exact ⟨0,Nat.zero_le _,rfl,HUA.out,HTA.out⟩
   case round =>
    obtain ⟨k,hk,rfl,hum,htw⟩:=hrel
    by_cases hlt2:k < M.wc.length
    ·obtain ⟨E,hE'⟩:∃ E,eAt eWc M.wc k=E:=⟨_,rfl⟩
     have hEM:eAt eWc (mapTo (doomW a b) M.wc k) k=E:=(mapTo_at eWE _ _ k).trans hE'
     have hml:=mapTo_length (doomW a b) M.wc k
     have hrow:ERow eWE wr B (.slice u.a5 (mapTo (doomW a b) M.wc k).length u.c5) (mapTo (doomW a b) M.wc k):=hum.c
     obtain ⟨g,hg1,hg2⟩:=wc_cells hrow
     obtain ⟨hga,hgl⟩:=hg1 (by omega)
     have hfz:wr.frozen? ⟨g,k * 5+2,none⟩=false:=by rw [hga] at hrow; exact hrow.frz _
     have htv:=valid_wc HV.out k hlt2
     rw [hE'] at htv
     obtain ⟨L,P,T,D⟩:=E
     have hg3:=hg2 k L P T D (by rw [hml]; exact hlt2) hEM wr.drew rfl
     have HKEEP:Hid (∀ wX,Touch (fun q=>u.o5=some q) wr wX->wX.cell? ⟨gu,4,none⟩=some (.slice (some ⟨g,0,none⟩) M.wc.length u.c5)/\(wX.cell? ⟨w.heap.size,0,none⟩=some (.int .i64 K)/\wX.cell? ⟨w.heap.size,1,none⟩=some (.int .i64 a)/\wX.cell? ⟨w.heap.size,2,none⟩=some (.int .i64 b)/\wX.cell? ⟨w.heap.size,3,none⟩=some (.int .u64 W))):=fun wX hX=>by
      have hk:=hX.block gu hum.lt (fun e=>hum.ap.g5 e)
      have q:=(World.cell?_of_block (a:=⟨gu,4,none⟩) hk).trans hum.q4
      have hbx:=hX.block w.heap.size (by have:=hSZ.out wr htw; omega) (fun e=>by have:=HLT.out.2 _ e; omega)
      obtain ⟨x0,x1,x2,x3⟩:=HBOX.out wr htw
      refine ⟨by rw [<- hga,<- hml]; exact q,(World.cell?_of_block hbx).trans x0,(World.cell?_of_block hbx).trans x1,(World.cell?_of_block hbx).trans x2,(World.cell?_of_block hbx).trans x3⟩
     have hts:(0<=P/\P < 100000)/\(0<=(16 * cov L)/\(16 * cov L) < 100000):=by
      simp only [wcOkB,pageOk,Bool.and_eq_true,Bool.or_eq_true,decide_eq_true_eq] at htv
      refine ⟨by omega,?_⟩; rcases htv.1.1.1.1 with e | e <;> (rw [e]; decide)
     have hdm:=doom_any g (k * 5) P (16 * cov L) a b D hts.1 hts.2 (by omega) (by omega) wr.drew hgl hg3.1 hg3.2.1 hg3.2.2.1 hfz
     obtain ⟨qa,bx0,bx1,bx2,bx3⟩:=HKEEP.out wr (Touch.of_below (Below.refl _ _))
     have HUM:Hid (UM wr gu b0 B true u ⟨M.mem,M.pend,M.tlb.map (doomT a b),mapTo (doomW a b) M.wc k⟩):=hum
     have HTW:Hid _:=htw
     have L1:(0:Int)<=(k:Int):=by omega
     have L2:(k:Int) < (M.wc.length:Int):=by omega
     have HGA:Hid (u.a5=_):=hga
     clear hum htw hrow hg1 hg2 hg3 htv hts hfz hga
     go_wp2_with fail
     refine wp_region_held_drew (S:=(fun wX=>wX.cell? ⟨gu,4,none⟩=some (.slice (some ⟨g,0,none⟩) M.wc.length u.c5)/\(wX.cell? ⟨w.heap.size,0,none⟩=some (.int .i64 K)/\wX.cell? ⟨w.heap.size,1,none⟩=some (.int .i64 a)/\wX.cell? ⟨w.heap.size,2,none⟩=some (.int .i64 b)/\wX.cell? ⟨w.heap.size,3,none⟩=some (.int .u64 W)))) (by kernel_rfl) (HKEEP.out _ (Touch.of_below ((Below.refl _ _).drew))) (fun hHeld=>?_)
     refine tk 0 ?_
     refine tk 1 ?_
     refine tk 2 ?_
     refine tk 3 ?_
     refine tk 4 ?_
     refine tk 5 ?_
     refine tk 6 ?_
     refine tk 7 ?_
     refine tk 8 ?_
     refine tk 9 ?_
     refine tk 10 ?_
     refine wpAnyH_ready (rs:=[11]) (by kernel_rfl) (by simp) ?_
     refine AllReadyH.cons rfl (fun K hK=>?_) AllReadyH.nil
     go_simp
     go_at_call 239
     refine hdm.mono ?_
     rintro e w1 ⟨rfl,w2,hb2,he⟩
     obtain ⟨hum2,ht2⟩:=doomedW (M:=⟨M.mem,M.pend,M.tlb.map (doomT a b),M.wc⟩) (w1:=w1) hlt2 HGA.out HUM.out ((Below.refl _ _).drew.trans (hb2.mono (by simp))) (by rw [hE']; exact he)
     clear he hb2
     go_wp2_with fail
     refine hK.out _ _ (HKEEP.out w1 ht2) (fun hHeld2=>?_)
     clear hK K
     refine wpAnyH_done (by kernel_rfl) ?_ _
     go_wp2_with fail
     go_roundw
     case rel=>exact ⟨k+1,by omega,by go_num,hum2,HTW.out.then ht2 (fun q hq e=>.inr e)⟩
     case measure=>simp [intOf]; omega
    ·obtain rfl:k=M.wc.length:=by omega
     rw [mapTo_all] at hum
     have HUM:Hid _:=hum
     have HTW:Hid _:=htw
     clear hum htw
     go_wp2_with fail
     exact bodyPost_end (v:=.tuple #[]) (by simp [results,Try.results237,go_sem]) rfl ⟨rfl,HUM.out,(Touch.of_below HBB.out).trans HTW.out⟩
theorem freeApply_any (gu:Nat) (K A B W:Int) (w:World) :
  Calls Try.prog 240 #[.agg #[.int .i64 K,.int .i64 A,.int .i64 B,.int .u64 W],.pointer (some ⟨gu,0,none⟩)] w fun e w'=>e=.returned (.tuple #[])/\Below w.heap.size w w':=by
 go_enter Try.func240,Try.ntmps240
 go_wp2_with fail
 exact bodyPost_end (v:=.tuple #[]) (by simp [results,Try.results240,go_sem]) rfl ⟨rfl,(Below.refl _ _).alloc (Nat.le_refl _) _⟩
end Go.Proofs.Ytnmhkgmmpkjjeaa
