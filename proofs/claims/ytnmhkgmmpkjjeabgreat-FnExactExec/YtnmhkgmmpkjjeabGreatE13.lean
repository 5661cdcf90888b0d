import Derived.Test.YtnmhkgmmpkjjeabGreatE11
import Derived.Test.YtnmhkgmmpkjjeabGreatE12
namespace Go.Proofs.YtnmhkgmmpkjjeabGreat
open ChangeShapes WideShapes ChangeAt RowKit Proofs.Tryz
set_option linter.all false
set_option maxRecDepth 100000
def At:DL Am:=⟨156,5,fun x=>[.int .i64 x.page,.int .i64 x.size,.bool x.doom,.int .i64 x.out,.int .i64 x.perm],⟨0,0,0,0,false⟩,by omega,fun _=>rfl⟩
def As:DL CI:=⟨158,5,fun x=>[.int .i64 x.page,.int .i64 (16*Ab x.level),.bool x.doom,.int .i64 x.level,.int .i64 x.table],⟨0,0,0,false⟩,by omega,fun _=>rfl⟩
theorem Hx:(prog.info? 156).map (fun i=>(i.zero,i.size,i.bytes))=some (some (.agg #[.int .i64 0,.int .i64 0,.bool false,.int .i64 0,.int .i64 0]),5,40):=by kernel_rfl
theorem IM:(prog.info? 158).map (fun i=>(i.zero,i.size,i.bytes))=some (some (.agg #[.int .i64 0,.int .i64 0,.bool false,.int .i64 0,.int .i64 0]),5,40):=by kernel_rfl
structure UV where
 a1:Option Addr
 c1:Nat
 a2:Option Addr
 n2:Nat
 c2:Nat
 a3:Option Addr
 c3:Nat
 a4:Option Addr
 c4:Nat
 a5:Option Addr
 c5:Nat
def Al (a:Option Addr):Option Nat:=(Value.slice a 0 0).ownBlock
theorem AQ(a:Option Addr)(n c:Nat):(Value.slice a n c).ownBlock=Al a:=by
 unfold Al;rcases a with _|⟨b,o,sp⟩
 ·rfl
 ·cases o<;>cases sp<;>rfl
theorem A6.touchA{α:Type}{E:DL α}{w w':World}{base:Nat}{a:Option Addr}{n c:Nat}{xs:List α}{S:Nat->Prop}(h:A6 E w base (.slice a n c) xs)(hg:A5 S w w')(hne:∀k,Al a=some k->¬S k):A6 E w' base (.slice a n c) xs :=
 h.touch hg (fun k hk=>hne k (by rw[<- AQ a n c];exact hk))
theorem A6.ownA{α:Type}{E:DL α}{w:World}{base:Nat}{a:Option Addr}{n c:Nat}{xs:List α}(h:A6 E w base (.slice a n c) xs):∀k,Al a=some k->base<=k/\k<w.heap.size :=
 fun k hk=>h.own k (by rw[AQ a n c];exact hk)
def UV.o1 (u:UV):Option Nat:=Al u.a1
def UV.o2 (u:UV):Option Nat:=Al u.a2
def UV.o3 (u:UV):Option Nat:=Al u.a3
def UV.o4 (u:UV):Option Nat:=Al u.a4
def UV.o5 (u:UV):Option Nat:=Al u.a5
def UV.wr (u:UV) (gu:Nat) (k:Nat):Prop:=k=gu\/u.o4=some k\/u.o5=some k
structure MO (gu:Nat) (u:UV):Prop where
 g1:u.o1≠some gu
 g2:u.o2≠some gu
 g3:u.o3≠some gu
 g4:u.o4≠some gu
 g5:u.o5≠some gu
 t1:∀k,u.o4=some k->u.o1≠some k
 t2:∀k,u.o4=some k->u.o2≠some k
 t3:∀k,u.o4=some k->u.o3≠some k
 t5:∀k,u.o4=some k->u.o5≠some k
 w1:∀k,u.o5=some k->u.o1≠some k
 w2:∀k,u.o5=some k->u.o2≠some k
 w3:∀k,u.o5=some k->u.o3≠some k
def AE (M:A9):List Int:=M.pend.foldl (fun z e=>z.set e.addr.toNat e.word) M.mem
structure UM (W:World) (gu b0 B:Nat) (L:Bool) (u:UV) (M:A9):Prop where
 lt:gu<W.heap.size
 q0:W.cell? ⟨gu,0,none⟩=some (.slice u.a1 M.mem.length u.c1)
 q1:W.cell? ⟨gu,1,none⟩=some (.slice u.a2 u.n2 u.c2)
 q2:W.cell? ⟨gu,2,none⟩=some (.slice u.a3 M.pend.length u.c3)
 q3:W.cell? ⟨gu,3,none⟩=some (.slice u.a4 M.tlb.length u.c4)
 q4:W.cell? ⟨gu,4,none⟩=some (.slice u.a5 M.wc.length u.c5)
 f2:W.frozen? ⟨gu,2,none⟩=false
 f3:W.frozen? ⟨gu,3,none⟩=false
 f4:W.frozen? ⟨gu,4,none⟩=false
 w:A6 AO W b0 (.slice u.a1 M.mem.length u.c1) M.mem
 l:L=true->u.n2=M.mem.length/\A6 AO W b0 (.slice u.a2 u.n2 u.c2) (AE M)
 p:A6 AA W b0 (.slice u.a3 M.pend.length u.c3) M.pend
 t:A6 At W B (.slice u.a4 M.tlb.length u.c4) M.tlb
 c:A6 As W B (.slice u.a5 M.wc.length u.c5) M.wc
 ap:MO gu u
 o2:∀k,u.o2=some k->k<W.heap.size
theorem UM.below{W W':World}{gu b0 B:Nat}{L:Bool}{u:UV}{M:A9}(h:UM W gu b0 B L u M)(hb:Below W.heap.size W W'):UM W' gu b0 B L u M :=
 ⟨Nat.lt_of_lt_of_le h.lt hb.size,(hb.cell h.lt).trans h.q0,(hb.cell h.lt).trans h.q1,(hb.cell h.lt).trans h.q2,(hb.cell h.lt).trans h.q3,(hb.cell h.lt).trans h.q4,(hb.frozen h.lt).trans h.f2,(hb.frozen h.lt).trans h.f3,(hb.frozen h.lt).trans h.f4,
  h.w.below hb,fun hl=>⟨(h.l hl).1,(h.l hl).2.below hb⟩,h.p.below hb,h.t.below hb,h.c.below hb,h.ap,fun k hk=>Nat.lt_of_lt_of_le (h.o2 k hk) hb.size⟩
theorem UM.touch{W W':World}{gu b0 B:Nat}{L:Bool}{u:UV}{M:A9}{S:Nat->Prop}(h:UM W gu b0 B L u M)(hb:A5 S W W')(hg:¬S gu)(h1:∀k,u.o1=some k->¬S k)(h2:∀k,u.o2=some k->¬S k)(h3:∀k,u.o3=some k->¬S k)(h4:∀k,u.o4=some k->¬S k)(h5:∀k,u.o5=some k->¬S k):UM W' gu b0 B L u M:=by
 have hk:=hb.block gu h.lt hg
 exact⟨Nat.lt_of_lt_of_le h.lt hb.size,(World.cell?_of_block hk).trans h.q0,(World.cell?_of_block hk).trans h.q1,(World.cell?_of_block hk).trans h.q2,(World.cell?_of_block hk).trans h.q3,(World.cell?_of_block hk).trans h.q4,(World.frozen?_of_block hk).trans h.f2,(World.frozen?_of_block hk).trans h.f3,(World.frozen?_of_block hk).trans h.f4,
  h.w.touchA hb h1,fun hl=>⟨(h.l hl).1,(h.l hl).2.touchA hb h2⟩,h.p.touchA hb h3,h.t.touchA hb h4,h.c.touchA hb h5,h.ap,fun k hk=>Nat.lt_of_lt_of_le (h.o2 k hk) hb.size⟩
theorem A5.then{S S':Nat->Prop}{a b c:World}(h:A5 S a b)(k:A5 S' b c)(hS:∀k,k<a.heap.size->S' k->S k):A5 S a c :=
 ⟨k.os.trans h.os,k.tape.trans h.tape,k.output.trans h.output,Nat.le_trans h.size k.size,fun i hi hn=>(k.block i (Nat.lt_of_lt_of_le hi h.size) (fun h'=>hn (hS i hi h'))).trans (h.block i hi hn)⟩
structure AT (w w':World) (gu b0 B:Nat) (L:Bool) (u u':UV) (M':A9):Prop where
 um:UM w' gu b0 B L u' M'
 tch:A5 (u.wr gu) w w'
 old:∀k,u'.wr gu k->u.wr gu k\/w.heap.size<=k
 s1:u'.o1=u.o1
 s2:u'.o2=u.o2
 s3:u'.o3=u.o3
theorem AT.refl{w w':World}{gu b0 B:Nat}{L:Bool}{u:UV}{M:A9}(h:UM w gu b0 B L u M)(hb:Below w.heap.size w w'):AT w w' gu b0 B L u u M:=⟨h.below hb,A5.of_below hb,fun k hk=>.inl hk,rfl,rfl,rfl⟩
theorem AT.trans{a b c:World}{gu b0 B:Nat}{L:Bool}{u v x:UV}{M N:A9}(h:AT a b gu b0 B L u v M)(k:AT b c gu b0 B L v x N):AT a c gu b0 B L u x N :=
 ⟨k.um,h.tch.then k.tch (fun i hi hv=>(h.old i hv).resolve_right (by omega)),fun i hi=>by
  rcases k.old i hi with hv|hv
  ·exact h.old i hv
  ·exact .inr (Nat.le_trans h.tch.size hv),k.s1.trans h.s1,k.s2.trans h.s2,k.s3.trans h.s3⟩
theorem UM.wr_lt{W:World}{gu b0 B:Nat}{L:Bool}{u:UV}{M:A9}(h:UM W gu b0 B L u M)(k:Nat)(hk:u.wr gu k):k<W.heap.size:=by
 rcases hk with rfl|hk|hk
 ·exact h.lt
 ·exact(h.t.ownA k hk).2
 ·exact(h.c.ownA k hk).2
theorem AT.seal{w a b c:World}{gu b0 B:Nat}{L:Bool}{u u':UV}{M M':A9}(hwa:Below w.heap.size w a)(hu:UM w gu b0 B L u M)(h:AT a b gu b0 B L u u' M')(ht:A5 (fun k=>w.heap.size<=k/\k<a.heap.size) b c):AT w c gu b0 B L u u' M':=by
 have hlt:=hu.lt;have key:∀k,u'.wr gu k->¬(w.heap.size<=k/\k<a.heap.size):=fun k hk hs=>by
  rcases h.old k hk with h'|h'
  ·have:=hu.wr_lt k h';omega
  ·omega
 refine⟨h.um.touch ht (key gu (.inl rfl)) ?_ ?_ ?_ (fun k hk=>key k (.inr (.inl hk))) (fun k hk=>key k (.inr (.inr hk))),⟨ht.os.trans (h.tch.os.trans hwa.os),ht.tape.trans (h.tch.tape.trans hwa.tape),ht.output.trans (h.tch.output.trans hwa.output),Nat.le_trans hwa.size (Nat.le_trans h.tch.size ht.size),fun k hk hn=>?_⟩,fun k hk=>?_,h.s1,h.s2,h.s3⟩
 ·intro k hk hs;rw[h.s1] at hk;have:=(hu.w.ownA k hk).2;omega
 ·intro k hk hs;rw[h.s2] at hk;have:=hu.o2 k hk;omega
 ·intro k hk hs;rw[h.s3] at hk;have:=(hu.p.ownA k hk).2;omega
 ·have:=hwa.size;have:=h.tch.size;exact(ht.block k (by omega) (by omega)).trans ((h.tch.block k (by omega) hn).trans (hwa.block k hk))
 ·rcases h.old k hk with h'|h'
  ·exact .inl h'
  ·exact .inr (Nat.le_trans hwa.size h')
theorem AT.own{w b c:World}{gu b0 B R:Nat}{L:Bool}{u u':UV}{M M':A9}(hu:UM w gu b0 B L u M)(h:AT w b gu b0 B L u u' M')(ht:A5 (fun k=>k=R) b c)(hR:w.heap.size<=R)(hn:¬u'.wr gu R):AT w c gu b0 B L u u' M':=by
 have key:∀k,u'.wr gu k->¬k=R:=fun k hk e=>hn (e ▸ hk)
 refine⟨h.um.touch ht (key gu (.inl rfl)) ?_ ?_ ?_ (fun k hk=>key k (.inr (.inl hk))) (fun k hk=>key k (.inr (.inr hk))),⟨ht.os.trans h.tch.os,ht.tape.trans h.tch.tape,ht.output.trans h.tch.output,Nat.le_trans h.tch.size ht.size,fun k hk hn=>?_⟩,h.old,h.s1,h.s2,h.s3⟩
 ·intro k hk hs;rw[h.s1] at hk;have:=(hu.w.ownA k hk).2;omega
 ·intro k hk hs;rw[h.s2] at hk;have:=hu.o2 k hk;omega
 ·intro k hk hs;rw[h.s3] at hk;have:=(hu.p.ownA k hk).2;omega
 ·have:=h.tch.size;exact(ht.block k (by omega) (by omega)).trans (h.tch.block k hk hn)
theorem AT.wr_new{a b:World}{gu b0 B R:Nat}{L:Bool}{u u':UV}{M':A9}(h:AT a b gu b0 B L u u' M')(hR:R<a.heap.size)(hn:¬u.wr gu R):¬u'.wr gu R:=fun hk=>by
 rcases h.old R hk with h'|h'
 ·exact hn h'
 ·omega
theorem UM.newWc{W W':World}{gu b0 B:Nat}{L:Bool}{u:UV}{M:A9}(h:UM W gu b0 B L u M)(hg:W.grownBy W' u.o5)(a':Option Addr)(c':Nat)(ys:List CI)(hc:A6 As W' B (.slice a' ys.length c') ys)(ho:∀k,Al a'=some k->u.o5=some k\/W.heap.size<=k):AT W (W'.setCell ⟨gu,4,none⟩ (.slice a' ys.length c')) gu b0 B L u ⟨u.a1,u.c1,u.a2,u.n2,u.c2,u.a3,u.c3,u.a4,u.c4,a',c'⟩ ⟨M.mem,M.pend,M.tlb,ys⟩:=by
 have l1:∀k,u.o1=some k->k<W.heap.size:=fun k hk=>(h.w.ownA k hk).2
 have l2:=h.o2;have l3:∀k,u.o3=some k->k<W.heap.size:=fun k hk=>(h.p.ownA k hk).2
 have l4:∀k,u.o4=some k->k<W.heap.size:=fun k hk=>(h.t.ownA k hk).2
 have l5:∀k,u.o5=some k->k<W.heap.size:=fun k hk=>(h.c.ownA k hk).2
 have hlt:=h.lt;have hblk:W'.heap[gu]?=W.heap[gu]?:=hg.block gu h.lt (fun e=>h.ap.g5 e.symm);have hT:A5 (u.wr gu) W (W'.setCell ⟨gu,4,none⟩ (.slice a' ys.length c')):=⟨hg.os,hg.tape,hg.output,by simpa using hg.size,fun k hk hn=>(Below.heap_setCell _ _ _ _ (fun e=>hn (.inl e))).trans (hg.block k hk (fun e=>hn (.inr (.inr e.symm))))⟩;have hS:A5 (fun k=>k=gu\/u.o5=some k) W (W'.setCell ⟨gu,4,none⟩ (.slice a' ys.length c')):=⟨hg.os,hg.tape,hg.output,by simpa using hg.size,fun k hk hn=>(Below.heap_setCell _ _ _ _ (fun e=>hn (.inl e))).trans (hg.block k hk (fun e=>hn (.inr e.symm)))⟩;have hsz:=hg.size;have hne:Al a'≠some gu:=fun e=>by
  rcases ho gu e with h'|h'
  ·exact h.ap.g5 h'
  ·omega
 have cells:∀i,i≠4->(W'.setCell ⟨gu,4,none⟩ (.slice a' ys.length c')).cell? ⟨gu,i,none⟩=W.cell? ⟨gu,i,none⟩:=fun i hi=>by
  rw[World.cell?_setCell_other _ _ _ _ (by intro e;injection e with _ e;exact hi e.symm)];exact World.cell?_of_block hblk
 have cnew:(W'.setCell ⟨gu,4,none⟩ (.slice a' ys.length c')).cell? ⟨gu,4,none⟩=some (.slice a' ys.length c'):=World.cell?_setCell_same _ _ _ ((World.cell?_of_block (a:=⟨gu,4,none⟩) hblk).trans h.q4);have frz:∀i,(W'.setCell ⟨gu,4,none⟩ (.slice a' ys.length c')).frozen? ⟨gu,i,none⟩=W.frozen? ⟨gu,i,none⟩:=fun i=>by
  rw[World.frozen?_setCell];exact World.frozen?_of_block (a:=⟨gu,i,none⟩) hblk
 have hrow:A6 As (W'.setCell ⟨gu,4,none⟩ (.slice a' ys.length c')) B (.slice a' ys.length c') ys :=
  hc.touchA (S:=fun k=>k=gu) ⟨rfl,rfl,rfl,by simp,fun k hk hn=>Below.heap_setCell _ _ _ _ hn⟩ (fun k hk e=>hne (by rw[<- e];exact hk))
 have nb:∀(o:Option Nat),(∀k,o=some k->k<W.heap.size)->(∀k,u.o5=some k->o≠some k)->∀k,Al a'=some k->o≠some k:=fun o h1 h2 k hk e=>by
  rcases ho k hk with h'|h'
  ·exact h2 k h' e
  ·have:=h1 k e;omega
 refine⟨⟨?_,(cells 0 (by omega)).trans h.q0,(cells 1 (by omega)).trans h.q1,(cells 2 (by omega)).trans h.q2,(cells 3 (by omega)).trans h.q3,cnew,(frz 2).trans h.f2,(frz 3).trans h.f3,(frz 4).trans h.f4,?_,fun hl=>⟨(h.l hl).1,?_⟩,?_,?_,hrow,?_,fun k hk=>?_⟩,hT,fun k hk=>?_,rfl,rfl,rfl⟩
 ·exact Nat.lt_of_lt_of_le h.lt hT.size
 ·exact h.w.touchA hS (fun k hk hx=>hx.elim (fun e=>h.ap.g1 (e ▸ hk)) (fun e=>h.ap.w1 k e hk))
 ·exact(h.l hl).2.touchA hS (fun k hk hx=>hx.elim (fun e=>h.ap.g2 (e ▸ hk)) (fun e=>h.ap.w2 k e hk))
 ·exact h.p.touchA hS (fun k hk hx=>hx.elim (fun e=>h.ap.g3 (e ▸ hk)) (fun e=>h.ap.w3 k e hk))
 ·exact h.t.touchA hS (fun k hk hx=>hx.elim (fun e=>h.ap.g4 (e ▸ hk)) (fun e=>h.ap.t5 k hk e))
 ·exact⟨h.ap.g1,h.ap.g2,h.ap.g3,h.ap.g4,hne,h.ap.t1,h.ap.t2,h.ap.t3,fun k hk e=>nb u.o4 l4 (fun j hj e'=>h.ap.t5 j e' hj) k e hk,nb u.o1 l1 h.ap.w1,nb u.o2 l2 h.ap.w2,nb u.o3 l3 h.ap.w3⟩
 ·exact Nat.lt_of_lt_of_le (l2 k hk) hT.size
 ·rcases hk with hk|hk|hk
  ·exact .inl (.inl hk)
  ·exact .inl (.inr (.inl hk))
  ·rcases ho k hk with h'|h'
   ·exact .inl (.inr (.inr h'))
   ·exact .inr h'
theorem UM.newTlb{W W':World}{gu b0 B:Nat}{L:Bool}{u:UV}{M:A9}(h:UM W gu b0 B L u M)(hg:W.grownBy W' u.o4)(a':Option Addr)(c':Nat)(ys:List Am)(hc:A6 At W' B (.slice a' ys.length c') ys)(ho:∀k,Al a'=some k->u.o4=some k\/W.heap.size<=k):AT W (W'.setCell ⟨gu,3,none⟩ (.slice a' ys.length c')) gu b0 B L u ⟨u.a1,u.c1,u.a2,u.n2,u.c2,u.a3,u.c3,a',c',u.a5,u.c5⟩ ⟨M.mem,M.pend,ys,M.wc⟩:=by
 have l1:∀k,u.o1=some k->k<W.heap.size:=fun k hk=>(h.w.ownA k hk).2
 have l2:=h.o2;have l3:∀k,u.o3=some k->k<W.heap.size:=fun k hk=>(h.p.ownA k hk).2
 have l4:∀k,u.o4=some k->k<W.heap.size:=fun k hk=>(h.t.ownA k hk).2
 have l5:∀k,u.o5=some k->k<W.heap.size:=fun k hk=>(h.c.ownA k hk).2
 have hlt:=h.lt;have hblk:W'.heap[gu]?=W.heap[gu]?:=hg.block gu h.lt (fun e=>h.ap.g4 e.symm);have hT:A5 (u.wr gu) W (W'.setCell ⟨gu,3,none⟩ (.slice a' ys.length c')):=⟨hg.os,hg.tape,hg.output,by simpa using hg.size,fun k hk hn=>(Below.heap_setCell _ _ _ _ (fun e=>hn (.inl e))).trans (hg.block k hk (fun e=>hn (.inr (.inl e.symm))))⟩;have hS:A5 (fun k=>k=gu\/u.o4=some k) W (W'.setCell ⟨gu,3,none⟩ (.slice a' ys.length c')):=⟨hg.os,hg.tape,hg.output,by simpa using hg.size,fun k hk hn=>(Below.heap_setCell _ _ _ _ (fun e=>hn (.inl e))).trans (hg.block k hk (fun e=>hn (.inr e.symm)))⟩;have hsz:=hg.size;have hne:Al a'≠some gu:=fun e=>by
  rcases ho gu e with h'|h'
  ·exact h.ap.g4 h'
  ·omega
 have cells:∀i,i≠3->(W'.setCell ⟨gu,3,none⟩ (.slice a' ys.length c')).cell? ⟨gu,i,none⟩=W.cell? ⟨gu,i,none⟩:=fun i hi=>by
  rw[World.cell?_setCell_other _ _ _ _ (by intro e;injection e with _ e;exact hi e.symm)];exact World.cell?_of_block hblk
 have cnew:(W'.setCell ⟨gu,3,none⟩ (.slice a' ys.length c')).cell? ⟨gu,3,none⟩=some (.slice a' ys.length c'):=World.cell?_setCell_same _ _ _ ((World.cell?_of_block (a:=⟨gu,3,none⟩) hblk).trans h.q3);have frz:∀i,(W'.setCell ⟨gu,3,none⟩ (.slice a' ys.length c')).frozen? ⟨gu,i,none⟩=W.frozen? ⟨gu,i,none⟩:=fun i=>by
  rw[World.frozen?_setCell];exact World.frozen?_of_block (a:=⟨gu,i,none⟩) hblk
 have hrow:A6 At (W'.setCell ⟨gu,3,none⟩ (.slice a' ys.length c')) B (.slice a' ys.length c') ys :=
  hc.touchA (S:=fun k=>k=gu) ⟨rfl,rfl,rfl,by simp,fun k hk hn=>Below.heap_setCell _ _ _ _ hn⟩ (fun k hk e=>hne (by rw[<- e];exact hk))
 have nb:∀(o:Option Nat),(∀k,o=some k->k<W.heap.size)->(∀k,u.o4=some k->o≠some k)->∀k,Al a'=some k->o≠some k:=fun o h1 h2 k hk e=>by
  rcases ho k hk with h'|h'
  ·exact h2 k h' e
  ·have:=h1 k e;omega
 refine⟨⟨?_,(cells 0 (by omega)).trans h.q0,(cells 1 (by omega)).trans h.q1,(cells 2 (by omega)).trans h.q2,cnew,(cells 4 (by omega)).trans h.q4,(frz 2).trans h.f2,(frz 3).trans h.f3,(frz 4).trans h.f4,?_,fun hl=>⟨(h.l hl).1,?_⟩,?_,hrow,?_,?_,fun k hk=>?_⟩,hT,fun k hk=>?_,rfl,rfl,rfl⟩
 ·exact Nat.lt_of_lt_of_le h.lt hT.size
 ·exact h.w.touchA hS (fun k hk hx=>hx.elim (fun e=>h.ap.g1 (e ▸ hk)) (fun e=>h.ap.t1 k e hk))
 ·exact(h.l hl).2.touchA hS (fun k hk hx=>hx.elim (fun e=>h.ap.g2 (e ▸ hk)) (fun e=>h.ap.t2 k e hk))
 ·exact h.p.touchA hS (fun k hk hx=>hx.elim (fun e=>h.ap.g3 (e ▸ hk)) (fun e=>h.ap.t3 k e hk))
 ·exact h.c.touchA hS (fun k hk hx=>hx.elim (fun e=>h.ap.g5 (e ▸ hk)) (fun e=>h.ap.t5 k e hk))
 ·exact⟨h.ap.g1,h.ap.g2,h.ap.g3,hne,h.ap.g5,nb u.o1 l1 h.ap.t1,nb u.o2 l2 h.ap.t2,nb u.o3 l3 h.ap.t3,nb u.o5 l5 h.ap.t5,h.ap.w1,h.ap.w2,h.ap.w3⟩
 ·exact Nat.lt_of_lt_of_le (l2 k hk) hT.size
 ·rcases hk with hk|hk|hk
  ·exact .inl (.inl hk)
  ·rcases ho k hk with h'|h'
   ·exact .inl (.inr (.inl h'))
   ·exact .inr h'
  ·exact .inl (.inr (.inr hk))
section
attribute [local go_sem ↓] wp_at_zero wp_at_succ
theorem CA{P:Program}(w:World)(t e:TypeId)(a:Option Addr)(l c:Nat)(h:P.underlying t=some (.slice e)):(binOp .eql t (.slice a l c) (.slice none 0 0)).run P w=.ok (.bool a.isNone) w:=by
 simp[binOp,go_sem,run_equal_slice_nil w t e a l c h]
theorem F9(g j:Nat):(⟨g,0,none⟩:Addr).add j=⟨g,j,none⟩:=by
 unfold Addr.add;split
 ·rename_i h;subst h;rfl
 ·simp
theorem A6.news{α:Type}{E:DL α}{w:World}{base g n c:Nat}{xs:List α}(h:A6 E w base (.slice (some ⟨g,0,none⟩) n c) xs):n=xs.length/\∀j u,(AF E xs)[j]?=some u->w.cell? ((⟨g,0,none⟩:Addr).add j)=some u:=by
 rcases h.2 with⟨e,_⟩|⟨g',cap,cur,e,hb,hg,hn,hm,hs,ht⟩
 ·cases e
 ·simp only[Value.slice.injEq,Option.some.injEq,Addr.mk.injEq,and_true] at e;obtain⟨rfl,rfl,rfl⟩:=e;refine⟨rfl,fun j u hj=>?_⟩;rw[<- ht,List.getElem?_take] at hj;split at hj
  ·simp only[Array.getElem?_toList] at hj;rw[F9];simp[World.cell?,hg,hj]
  ·cases hj
set_option maxRecDepth 100000 in
theorem KH(a:Option Addr)(c b:Nat)(xs:List Int)(w:World)(hn:xs.length<=1048576)(h:A6 AO w b (.slice a xs.length c) xs):Calls prog 100 #[.slice a xs.length c] w fun r w'=>∃a' c',r=.returned (.slice a' xs.length c')/\A6 AO w' w.heap.size (.slice a' xs.length c') xs/\Below w.heap.size w w':=by
 obtain⟨iE,hiE,hz0,hz1,hz2⟩:=info_parts GH;have h1:∀u∈AF AO xs,u.oneCell'=true:=by
  intro u hu;simp only[AF,List.mem_flatMap] at hu;obtain⟨x,_,hx⟩:=hu;simp[AO] at hx;subst hx;rfl
 have hl:=C7 AO xs;have hl':(AF AO xs).length=xs.length*1:=hl;rcases h.2 with⟨e,h0⟩|⟨g,cap,cur,e,hb,hg,hm,hmm,hs,ht⟩
 ·simp only[Value.slice.injEq] at e;obtain⟨rfl,_,rfl⟩:=e;have hx:xs=[]:=List.length_eq_zero_iff.1 h0;subst hx;have heq:∀w,(binOp .eql 22 (.slice none 0 0) (.slice none 0 0)).run prog w=.ok (.bool true) w:=fun w=>CA w _ _ _ _ _ underlying22
  clear h h1 hl hl';go_enter func100,ntmps100
  go_wp2_with fail
  go_ret;exact⟨none,0,rfl,⟨by simp[AF],.inl ⟨rfl,rfl⟩⟩,Below.refl _ _⟩
 ·simp only[Value.slice.injEq] at e;obtain⟨rfl,_,rfl⟩:=e;obtain⟨_,hnews⟩:=h.news;have hgl:=(h.ownA g rfl).2;have HN:Hid (∀j u,(AF AO xs)[j]?=some u->(w.alloc (.cells #[] 46)).cell? ((⟨g,0,none⟩:Addr).add j)=some u):=fun j u hj=>by
   have h3:=hnews j u hj;rw[F9] at h3 ⊢;rw[World.cell?_alloc_lt _ _ _ (by simpa using hgl)];exact h3
  have H1:Hid _:=h1;have HL:Hid ((AF AO xs).length=xs.length*1):=hl';have HOWN:Hid ((w.alloc (.cells #[] 46)).ownsRow w.heap.size 46 1 (.slice (some ⟨w.heap.size,0,none⟩) 0 0) 0 []):=⟨rfl,.inr ⟨w.heap.size,0,#[],rfl,Nat.le_refl _,heap_alloc_new w _,Nat.le_refl _,by unfold maxLen;omega,rfl,rfl⟩⟩;have heq:∀w,(binOp .eql 22 (.slice (some ⟨g,0,none⟩) xs.length c) (.slice none 0 0)).run prog w=.ok (.bool false) w:=fun w=>CA w _ _ _ _ _ underlying22
  clear h h1 hl hl' hnews hg ht hs hmm hm hb;go_enter func100,ntmps100
  go_wp2_with (at_builtin;refine wpList_append_own _ rfl (.tmp 5) (.tmp 6) 22 rfl w.heap.size 46 iE _ 1 8 underlying22 hiE hz0 hz1 hz2 rfl (by omega) _ 0 [] rfl HOWN.out ⟨g,0,none⟩ xs.length c (AF AO xs) rfl HL.out HN.out H1.out (by unfold maxLen;omega) (by omega) (by simp) ?_)
  intro v' wn hown hgrow _;have hnew:A6 AO wn w.heap.size v' xs:=hown;have hbn:Below w.heap.size w wn:=((Below.refl _ _).alloc (Nat.le_refl _) _).grown hgrow (by simp) (fun q hq=>by simp[Value.ownBlock] at hq;omega);obtain⟨a',c',rfl,_⟩:=hnew.form;have HNEW:Hid _:=hnew;have HBN:Hid _:=hbn;clear hown hgrow hnew hbn;go_wp2_with fail
  go_ret;exact⟨a',c',rfl,HNEW.out,HBN.out⟩
set_option maxRecDepth 100000 in
theorem Jy(a:Option Addr)(c b:Nat)(xs:List BJ)(w:World)(hn:xs.length<=1048576)(h:A6 AA w b (.slice a xs.length c) xs):Calls prog 101 #[.slice a xs.length c] w fun r w'=>∃a' c',r=.returned (.slice a' xs.length c')/\A6 AA w' w.heap.size (.slice a' xs.length c') xs/\Below w.heap.size w w':=by
 obtain⟨iE,hiE,hz0,hz1,hz2⟩:=info_parts Da;have h1:∀u∈AF AA xs,u.oneCell'=true:=by
  intro u hu;simp only[AF,List.mem_flatMap] at hu;obtain⟨x,_,hx⟩:=hu;simp[AA] at hx;rcases hx with rfl|rfl<;>rfl
 have hl:=C7 AA xs;have hl':(AF AA xs).length=xs.length*2:=hl;rcases h.2 with⟨e,h0⟩|⟨g,cap,cur,e,hb,hg,hm,hmm,hs,ht⟩
 ·simp only[Value.slice.injEq] at e;obtain⟨rfl,_,rfl⟩:=e;have hx:xs=[]:=List.length_eq_zero_iff.1 h0;subst hx;have heq:∀w,(binOp .eql 32 (.slice none 0 0) (.slice none 0 0)).run prog w=.ok (.bool true) w:=fun w=>CA w _ _ _ _ _ underlying32
  clear h h1 hl hl';go_enter func101,ntmps101
  go_wp2_with fail
  go_ret;exact⟨none,0,rfl,⟨by simp[AF],.inl ⟨rfl,rfl⟩⟩,Below.refl _ _⟩
 ·simp only[Value.slice.injEq] at e;obtain⟨rfl,_,rfl⟩:=e;obtain⟨_,hnews⟩:=h.news;have hgl:=(h.ownA g rfl).2;have HN:Hid (∀j u,(AF AA xs)[j]?=some u->(w.alloc (.cells #[] 110)).cell? ((⟨g,0,none⟩:Addr).add j)=some u):=fun j u hj=>by
   have h3:=hnews j u hj;rw[F9] at h3 ⊢;rw[World.cell?_alloc_lt _ _ _ (by simpa using hgl)];exact h3
  have H1:Hid _:=h1;have HL:Hid ((AF AA xs).length=xs.length*2):=hl';have HOWN:Hid ((w.alloc (.cells #[] 110)).ownsRow w.heap.size 110 2 (.slice (some ⟨w.heap.size,0,none⟩) 0 0) 0 []):=⟨rfl,.inr ⟨w.heap.size,0,#[],rfl,Nat.le_refl _,heap_alloc_new w _,Nat.le_refl _,by unfold maxLen;omega,rfl,rfl⟩⟩;have heq:∀w,(binOp .eql 32 (.slice (some ⟨g,0,none⟩) xs.length c) (.slice none 0 0)).run prog w=.ok (.bool false) w:=fun w=>CA w _ _ _ _ _ underlying32
  clear h h1 hl hl' hnews hg ht hs hmm hm hb;go_enter func101,ntmps101
  go_wp2_with (at_builtin;refine wpList_append_own _ rfl (.tmp 5) (.tmp 6) 32 rfl w.heap.size 110 iE _ 2 16 underlying32 hiE hz0 hz1 hz2 rfl (by omega) _ 0 [] rfl HOWN.out ⟨g,0,none⟩ xs.length c (AF AA xs) rfl HL.out HN.out H1.out (by unfold maxLen;omega) (by omega) (by simp) ?_)
  intro v' wn hown hgrow _;have hnew:A6 AA wn w.heap.size v' xs:=hown;have hbn:Below w.heap.size w wn:=((Below.refl _ _).alloc (Nat.le_refl _) _).grown hgrow (by simp) (fun q hq=>by simp[Value.ownBlock] at hq;omega);obtain⟨a',c',rfl,_⟩:=hnew.form;have HNEW:Hid _:=hnew;have HBN:Hid _:=hbn;clear hown hgrow hnew hbn;go_wp2_with fail
  go_ret;exact⟨a',c',rfl,HNEW.out,HBN.out⟩
end
end Go.Proofs.YtnmhkgmmpkjjeabGreat
