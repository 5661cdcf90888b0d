import Derived.Test.YtnmhkgmmpkjjeacGreatG44
namespace Go.Proofs.YtnmhkgmmpkjjeacGreat
open Go.ChangeShapes Go.WideShapes Go.ChangeAt Go.RowKit
set_option linter.unusedVariables false
set_option linter.unusedSimpArgs false
set_option maxRecDepth 100000
structure PA where
 g:Txt->Option OV
 fr:List RunE
 pg:List RunE
 rg:List SpanE
structure PV where
 fa:Option Addr
 fc:Nat
 pa:Option Addr
 pc:Nat
 ra:Option Addr
 rc:Nat
def oP (a:Option Addr):Option Nat:=(Value.slice a 0 0).ownBlock
theorem oP_slice (a:Option Addr) (n c:Nat):(Value.slice a n c).ownBlock=oP a:=by
 unfold oP
 cases a with
 | none=>rfl
 | some d=>rfl
theorem oP_some (g:Nat):oP (some ⟨g,0,none⟩)=some g:=rfl
structure PI (w:World) (b mb B at_:Nat) (v:PV) (x:PA):Prop where
 c0:w.cell? ⟨b,0,none⟩=some (.map (some mb))
 c1:w.cell? ⟨b,1,none⟩=some (.slice v.fa x.fr.length v.fc)
 c2:w.cell? ⟨b,2,none⟩=some (.slice v.pa x.pg.length v.pc)
 c3:w.cell? ⟨b,3,none⟩=some (.slice v.ra x.rg.length v.rc)
 c4:w.cell? ⟨b,4,none⟩=some (.int .i64 (at_:Int))
 c5:∃ u,w.cell? ⟨b,5,none⟩=some u
 fz:∀ i,w.frozen? ⟨b,i,none⟩=false
 mp:MapO w mb x.g
 rf:ERow eRunR w B (.slice v.fa x.fr.length v.fc) x.fr
 rp:ERow eRunR w B (.slice v.pa x.pg.length v.pc) x.pg
 rr:ERow eSpan w B (.slice v.ra x.rg.length v.rc) x.rg
 s1:∀ k,oP v.fa=some k->oP v.pa ≠ some k/\oP v.ra ≠ some k
 s2:∀ k,oP v.pa=some k->oP v.ra ≠ some k
 bB:b < B
 mB:mb < B
 bm:b ≠ mb
 bd:B<=w.heap.size
def PT (b mb B:Nat):Nat->Prop:=fun k=>k=b\/k=mb\/B<=k
theorem PI.of {w:World} {b mb B at_:Nat} {v:PV} {x:PA} (h:PI w b mb B at_ v x):(∀ k,oP v.fa=some k->B<=k/\k < w.heap.size)/\(∀ k,oP v.pa=some k->B<=k/\k < w.heap.size)/\∀ k,oP v.ra=some k->B<=k/\k < w.heap.size :=
 ⟨fun k hk=>h.rf.own k (by rw [oP_slice]; exact hk),fun k hk=>h.rp.own k (by rw [oP_slice]; exact hk),fun k hk=>h.rr.own k (by rw [oP_slice]; exact hk)⟩
theorem PI.blt {w:World} {b mb B at_:Nat} {v:PV} {x:PA} (h:PI w b mb B at_ v x):b < w.heap.size:=Nat.lt_of_lt_of_le h.bB h.bd
theorem PI.touch {w w':World} {b mb B at_:Nat} {v:PV} {x:PA} {S:Nat->Prop} (h:PI w b mb B at_ v x) (ht:Touch S w w') (hb:¬ S b) (hm:¬ S mb) (h1:∀ k,oP v.fa=some k->¬ S k) (h2:∀ k,oP v.pa=some k->¬ S k) (h3:∀ k,oP v.ra=some k->¬ S k):PI w' b mb B at_ v x:=by
 have e:w'.heap[b]?=w.heap[b]?:=ht.block b h.blt hb
 have c:∀ i,w'.cell? ⟨b,i,none⟩=w.cell? ⟨b,i,none⟩:=fun i=>World.cell?_of_block e
 refine ⟨(c 0).trans h.c0,(c 1).trans h.c1,(c 2).trans h.c2,(c 3).trans h.c3,(c 4).trans h.c4,?_,fun i=>(World.frozen?_of_block (a:=⟨b,i,none⟩) e).trans (h.fz i),h.mp.of_block (ht.block mb (Nat.lt_of_lt_of_le h.mB h.bd) hm),h.rf.touch ht (fun k hk=>h1 k (by rw [<- oP_slice]; exact hk)),h.rp.touch ht (fun k hk=>h2 k (by rw [<- oP_slice]; exact hk)),h.rr.touch ht (fun k hk=>h3 k (by rw [<- oP_slice]; exact hk)),h.s1,h.s2,h.bB,h.mB,h.bm,Nat.le_trans h.bd ht.size⟩
 obtain ⟨u,hu⟩:=h.c5
 exact ⟨u,(c 5).trans hu⟩
theorem PI.below {w w':World} {b mb B at_:Nat} {v:PV} {x:PA} (h:PI w b mb B at_ v x) (hb:Below w.heap.size w w'):PI w' b mb B at_ v x :=
 h.touch (Touch.of_below (S:=fun _=>False) hb) (fun h=>h) (fun h=>h) (fun _ _ h=>h) (fun _ _ h=>h) (fun _ _ h=>h)
theorem pset {w:World} {a:Addr} {u:Value}:Touch (fun k=>k=a.block) w (w.setCell a u) :=
 ⟨rfl,rfl,rfl,by simp [World.setCell],fun k hk hn=>Below.heap_setCell _ _ _ _ hn⟩
theorem pcell {w:World} {b i j:Nat} {u:Value} (h:i ≠ j):(w.setCell ⟨b,j,none⟩ u).cell? ⟨b,i,none⟩=w.cell? ⟨b,i,none⟩:=World.cell?_setCell_other _ _ _ _ (fun e=>by simp only [Addr.mk.injEq] at e; omega)
theorem PI.out {w w':World} {b mb B at_:Nat} {v:PV} {x:PA} (h:PI w b mb B at_ v x) (ht:Touch (fun k=>k=b) w w'):MapO w' mb x.g/\ERow eRunR w' B (.slice v.fa x.fr.length v.fc) x.fr/\ERow eRunR w' B (.slice v.pa x.pg.length v.pc) x.pg/\ERow eSpan w' B (.slice v.ra x.rg.length v.rc) x.rg:=by
 obtain ⟨o1,o2,o3⟩:=h.of
 have:=h.bB
 refine ⟨h.mp.of_block (ht.block mb (Nat.lt_of_lt_of_le h.mB h.bd) (fun e=>h.bm e.symm)),h.rf.touch ht (fun k hk e=>?_),h.rp.touch ht (fun k hk e=>?_),h.rr.touch ht (fun k hk e=>?_)⟩
 ·rw [oP_slice] at hk; have:=(o1 k hk).1; omega
 ·rw [oP_slice] at hk; have:=(o2 k hk).1; omega
 ·rw [oP_slice] at hk; have:=(o3 k hk).1; omega
theorem PI.set5 {w:World} {b mb B at_:Nat} {v:PV} {x:PA} (h:PI w b mb B at_ v x) (u:Value):PI (w.setCell ⟨b,5,none⟩ u) b mb B at_ v x:=by
 obtain ⟨m,r1,r2,r3⟩:=h.out (pset (a:=⟨b,5,none⟩) (u:=u))
 obtain ⟨u0,hu0⟩:=h.c5
 exact ⟨(pcell (by omega)).trans h.c0,(pcell (by omega)).trans h.c1,(pcell (by omega)).trans h.c2,(pcell (by omega)).trans h.c3,(pcell (by omega)).trans h.c4,⟨u,World.cell?_setCell_same _ _ _ hu0⟩,fun i=>by rw [World.frozen?_setCell]; exact h.fz i,m,r1,r2,r3,h.s1,h.s2,h.bB,h.mB,h.bm,by simpa using h.bd⟩
theorem PI.set4 {w:World} {b mb B at_:Nat} {v:PV} {x:PA} (h:PI w b mb B at_ v x) (n:Nat):PI (w.setCell ⟨b,4,none⟩ (.int .i64 (n:Int))) b mb B n v x:=by
 obtain ⟨m,r1,r2,r3⟩:=h.out (pset (a:=⟨b,4,none⟩) (u:=.int .i64 (n:Int)))
 obtain ⟨u0,hu0⟩:=h.c5
 exact ⟨(pcell (by omega)).trans h.c0,(pcell (by omega)).trans h.c1,(pcell (by omega)).trans h.c2,(pcell (by omega)).trans h.c3,World.cell?_setCell_same _ _ _ h.c4,⟨u0,(pcell (by omega)).trans hu0⟩,fun i=>by rw [World.frozen?_setCell]; exact h.fz i,m,r1,r2,r3,h.s1,h.s2,h.bB,h.mB,h.bm,by simpa using h.bd⟩
theorem PI.addF {w wn:World} {b mb B at_ g1 c1:Nat} {v:PV} {x:PA} {r:RunE} (h:PI w b mb B at_ v x) (ht:Touch (fun k=>oP v.fa=some k) w wn) (hown:ERow eRunR wn B (.slice (some ⟨g1,0,none⟩) (x.fr.length+1) c1) (x.fr ++ [r])) (hat:oP v.fa=some g1\/w.heap.size<=g1) :
  PI (wn.setCell ⟨b,1,none⟩ (.slice (some ⟨g1,0,none⟩) (x.fr.length+1) c1)) b mb B at_ ⟨some ⟨g1,0,none⟩,c1,v.pa,v.pc,v.ra,v.rc⟩ ⟨x.g,x.fr ++ [r],x.pg,x.rg⟩:=by
 obtain ⟨o1,o2,o3⟩:=h.of
 have hbB:=h.bB
 have hmB:=h.mB
 have e:wn.heap[b]?=w.heap[b]?:=ht.block b h.blt (fun e=>by have:=(o1 b e).1; omega)
 have c:∀ i,wn.cell? ⟨b,i,none⟩=w.cell? ⟨b,i,none⟩:=fun i=>World.cell?_of_block e
 have t2:Touch (fun k=>k=b) wn (wn.setCell ⟨b,1,none⟩ (.slice (some ⟨g1,0,none⟩) (x.fr.length+1) c1)):=pset (a:=⟨b,1,none⟩)
 have hg1:B<=g1:=(hown.own g1 rfl).1
 have hle:(x.fr ++ [r]).length=x.fr.length+1:=by simp
 have rp:=(h.rp.touch ht (fun k hk e=>by rw [oP_slice] at hk; exact (h.s1 k e).1 hk)).touch t2 (fun k hk e=>by rw [oP_slice] at hk; have:=(o2 k hk).1; omega)
 have rr:=(h.rr.touch ht (fun k hk e=>by rw [oP_slice] at hk; exact (h.s1 k e).2 hk)).touch t2 (fun k hk e=>by rw [oP_slice] at hk; have:=(o3 k hk).1; omega)
 obtain ⟨u0,hu0⟩:=h.c5
 refine ⟨(pcell (by omega)).trans ((c 0).trans h.c0),?_,(pcell (by omega)).trans ((c 2).trans h.c2),(pcell (by omega)).trans ((c 3).trans h.c3),(pcell (by omega)).trans ((c 4).trans h.c4),⟨u0,(pcell (by omega)).trans ((c 5).trans hu0)⟩,fun i=>by rw [World.frozen?_setCell]; exact (World.frozen?_of_block (a:=⟨b,i,none⟩) e).trans (h.fz i),?_,?_,rp,rr,fun k hk=>?_,h.s2,hbB,hmB,h.bm,?_⟩
 ·show _=some (Value.slice _ (x.fr ++ [r]).length c1)
  rw [hle]
  exact World.cell?_setCell_same _ _ _ ((c 1).trans h.c1)
 ·exact (h.mp.of_block (ht.block mb (Nat.lt_of_lt_of_le hmB h.bd) (fun e=>by have:=(o1 mb e).1; omega))).of_block (t2.block mb (Nat.lt_of_lt_of_le (Nat.lt_of_lt_of_le hmB h.bd) ht.size) (fun e=>h.bm e.symm))
 ·show ERow eRunR _ B (.slice _ (x.fr ++ [r]).length c1) (x.fr ++ [r])
  rw [hle]
  exact hown.touch t2 (fun k hk e=>by have:=(hown.own k hk).1; omega)
 ·rw [oP_some] at hk
  injection hk with hk
  subst hk
  rcases hat with e | e
  ·exact h.s1 g1 e
  ·exact ⟨fun e2=>by have:=(o2 g1 e2).2; omega,fun e2=>by have:=(o3 g1 e2).2; omega⟩
 ·have:=ht.size; have:=t2.size; have:=h.bd; omega
theorem PI.addP {w wn:World} {b mb B at_ g1 c1:Nat} {v:PV} {x:PA} {r:RunE} (h:PI w b mb B at_ v x) (ht:Touch (fun k=>oP v.pa=some k) w wn) (hown:ERow eRunR wn B (.slice (some ⟨g1,0,none⟩) (x.pg.length+1) c1) (x.pg ++ [r])) (hat:oP v.pa=some g1\/w.heap.size<=g1) :
  PI (wn.setCell ⟨b,2,none⟩ (.slice (some ⟨g1,0,none⟩) (x.pg.length+1) c1)) b mb B at_ ⟨v.fa,v.fc,some ⟨g1,0,none⟩,c1,v.ra,v.rc⟩ ⟨x.g,x.fr,x.pg ++ [r],x.rg⟩:=by
 obtain ⟨o1,o2,o3⟩:=h.of
 have hbB:=h.bB
 have hmB:=h.mB
 have e:wn.heap[b]?=w.heap[b]?:=ht.block b h.blt (fun e=>by have:=(o2 b e).1; omega)
 have c:∀ i,wn.cell? ⟨b,i,none⟩=w.cell? ⟨b,i,none⟩:=fun i=>World.cell?_of_block e
 have t2:Touch (fun k=>k=b) wn (wn.setCell ⟨b,2,none⟩ (.slice (some ⟨g1,0,none⟩) (x.pg.length+1) c1)):=pset (a:=⟨b,2,none⟩)
 have hg1:B<=g1:=(hown.own g1 rfl).1
 have hle:(x.pg ++ [r]).length=x.pg.length+1:=by simp
 have rf:=(h.rf.touch ht (fun k hk e=>by rw [oP_slice] at hk; exact (h.s1 k hk).1 e)).touch t2 (fun k hk e=>by rw [oP_slice] at hk; have:=(o1 k hk).1; omega)
 have rr:=(h.rr.touch ht (fun k hk e=>by rw [oP_slice] at hk; exact h.s2 k e hk)).touch t2 (fun k hk e=>by rw [oP_slice] at hk; have:=(o3 k hk).1; omega)
 obtain ⟨u0,hu0⟩:=h.c5
 refine ⟨(pcell (by omega)).trans ((c 0).trans h.c0),(pcell (by omega)).trans ((c 1).trans h.c1),?_,(pcell (by omega)).trans ((c 3).trans h.c3),(pcell (by omega)).trans ((c 4).trans h.c4),⟨u0,(pcell (by omega)).trans ((c 5).trans hu0)⟩,fun i=>by rw [World.frozen?_setCell]; exact (World.frozen?_of_block (a:=⟨b,i,none⟩) e).trans (h.fz i),?_,rf,?_,rr,fun k hk=>⟨?_,(h.s1 k hk).2⟩,fun k hk=>?_,hbB,hmB,h.bm,?_⟩
 ·show _=some (Value.slice _ (x.pg ++ [r]).length c1)
  rw [hle]
  exact World.cell?_setCell_same _ _ _ ((c 2).trans h.c2)
 ·exact (h.mp.of_block (ht.block mb (Nat.lt_of_lt_of_le hmB h.bd) (fun e=>by have:=(o2 mb e).1; omega))).of_block (t2.block mb (Nat.lt_of_lt_of_le (Nat.lt_of_lt_of_le hmB h.bd) ht.size) (fun e=>h.bm e.symm))
 ·show ERow eRunR _ B (.slice _ (x.pg ++ [r]).length c1) (x.pg ++ [r])
  rw [hle]
  exact hown.touch t2 (fun k hk e=>by have:=(hown.own k hk).1; omega)
 ·rw [oP_some]
  intro hk2
  injection hk2 with hk2
  subst hk2
  rcases hat with e | e
  ·exact (h.s1 g1 hk).1 e
  ·have:=(o1 g1 hk).2; omega
 ·rw [oP_some] at hk
  injection hk with hk
  subst hk
  rcases hat with e | e
  ·exact h.s2 g1 e
  ·exact fun e2=>by have:=(o3 g1 e2).2; omega
 ·have:=ht.size; have:=t2.size; have:=h.bd; omega
theorem PI.addR {w wn:World} {b mb B at_ g1 c1:Nat} {v:PV} {x:PA} {r:SpanE} (h:PI w b mb B at_ v x) (ht:Touch (fun k=>oP v.ra=some k) w wn) (hown:ERow eSpan wn B (.slice (some ⟨g1,0,none⟩) (x.rg.length+1) c1) (x.rg ++ [r])) (hat:oP v.ra=some g1\/w.heap.size<=g1) :
  PI (wn.setCell ⟨b,3,none⟩ (.slice (some ⟨g1,0,none⟩) (x.rg.length+1) c1)) b mb B at_ ⟨v.fa,v.fc,v.pa,v.pc,some ⟨g1,0,none⟩,c1⟩ ⟨x.g,x.fr,x.pg,x.rg ++ [r]⟩:=by
 obtain ⟨o1,o2,o3⟩:=h.of
 have hbB:=h.bB
 have hmB:=h.mB
 have e:wn.heap[b]?=w.heap[b]?:=ht.block b h.blt (fun e=>by have:=(o3 b e).1; omega)
 have c:∀ i,wn.cell? ⟨b,i,none⟩=w.cell? ⟨b,i,none⟩:=fun i=>World.cell?_of_block e
 have t2:Touch (fun k=>k=b) wn (wn.setCell ⟨b,3,none⟩ (.slice (some ⟨g1,0,none⟩) (x.rg.length+1) c1)):=pset (a:=⟨b,3,none⟩)
 have hg1:B<=g1:=(hown.own g1 rfl).1
 have hle:(x.rg ++ [r]).length=x.rg.length+1:=by simp
 have rf:=(h.rf.touch ht (fun k hk e=>by rw [oP_slice] at hk; exact (h.s1 k hk).2 e)).touch t2 (fun k hk e=>by rw [oP_slice] at hk; have:=(o1 k hk).1; omega)
 have rp:=(h.rp.touch ht (fun k hk e=>by rw [oP_slice] at hk; exact h.s2 k hk e)).touch t2 (fun k hk e=>by rw [oP_slice] at hk; have:=(o2 k hk).1; omega)
 obtain ⟨u0,hu0⟩:=h.c5
 refine ⟨(pcell (by omega)).trans ((c 0).trans h.c0),(pcell (by omega)).trans ((c 1).trans h.c1),(pcell (by omega)).trans ((c 2).trans h.c2),?_,(pcell (by omega)).trans ((c 4).trans h.c4),⟨u0,(pcell (by omega)).trans ((c 5).trans hu0)⟩,fun i=>by rw [World.frozen?_setCell]; exact (World.frozen?_of_block (a:=⟨b,i,none⟩) e).trans (h.fz i),?_,rf,rp,?_,fun k hk=>⟨(h.s1 k hk).1,?_⟩,fun k hk=>?_,hbB,hmB,h.bm,?_⟩
 ·show _=some (Value.slice _ (x.rg ++ [r]).length c1)
  rw [hle]
  exact World.cell?_setCell_same _ _ _ ((c 3).trans h.c3)
 ·exact (h.mp.of_block (ht.block mb (Nat.lt_of_lt_of_le hmB h.bd) (fun e=>by have:=(o3 mb e).1; omega))).of_block (t2.block mb (Nat.lt_of_lt_of_le (Nat.lt_of_lt_of_le hmB h.bd) ht.size) (fun e=>h.bm e.symm))
 ·show ERow eSpan _ B (.slice _ (x.rg ++ [r]).length c1) (x.rg ++ [r])
  rw [hle]
  exact hown.touch t2 (fun k hk e=>by have:=(hown.own k hk).1; omega)
 ·rw [oP_some]
  intro hk2
  injection hk2 with hk2
  subst hk2
  rcases hat with e | e
  ·exact (h.s1 g1 hk).2 e
  ·have:=(o1 g1 hk).2; omega
 ·rw [oP_some]
  intro hk2
  injection hk2 with hk2
  subst hk2
  rcases hat with e | e
  ·exact h.s2 g1 hk e
  ·have:=(o2 g1 hk).2; omega
 ·have:=ht.size; have:=t2.size; have:=h.bd; omega
theorem PI.putO {w wn:World} {b mb B at_:Nat} {v:PV} {x:PA} {g:Txt->Option OV} (h:PI w b mb B at_ v x) (hg:w.grownBy wn (some mb)) (hm:MapO wn mb g):PI wn b mb B at_ v ⟨g,x.fr,x.pg,x.rg⟩:=by
 have hmB:=h.mB
 obtain ⟨o1,o2,o3⟩:=h.of
 have ht:Touch (fun k=>k=mb) w wn:=Touch.of_grown hg (fun k e=>by injection e with e; exact e.symm)
 have e:wn.heap[b]?=w.heap[b]?:=ht.block b h.blt h.bm
 have c:∀ i,wn.cell? ⟨b,i,none⟩=w.cell? ⟨b,i,none⟩:=fun i=>World.cell?_of_block e
 obtain ⟨u0,hu0⟩:=h.c5
 exact ⟨(c 0).trans h.c0,(c 1).trans h.c1,(c 2).trans h.c2,(c 3).trans h.c3,(c 4).trans h.c4,⟨u0,(c 5).trans hu0⟩,fun i=>(World.frozen?_of_block (a:=⟨b,i,none⟩) e).trans (h.fz i),hm,h.rf.touch ht (fun k hk e=>by rw [oP_slice] at hk; have:=(o1 k hk).1; omega),h.rp.touch ht (fun k hk e=>by rw [oP_slice] at hk; have:=(o2 k hk).1; omega),h.rr.touch ht (fun k hk e=>by rw [oP_slice] at hk; have:=(o3 k hk).1; omega),h.s1,h.s2,h.bB,h.mB,h.bm,Nat.le_trans h.bd ht.size⟩
structure PS (w:World) (b mb B at_:Nat) (v:PV) (x:PA) (ws:List Txt):Prop where
 i:PI w b mb B at_ v x
 p:∃ s,PW w b at_ s ws
theorem PS.below {w w':World} {b mb B at_:Nat} {v:PV} {x:PA} {ws:List Txt} (h:PS w b mb B at_ v x ws) (hb:Below w.heap.size w w'):PS w' b mb B at_ v x ws:=by
 obtain ⟨s,hs⟩:=h.p
 exact ⟨h.i.below hb,s,hs.below hb⟩
theorem PS.took {w w':World} {b mb B at_:Nat} {v:PV} {x:PA} {ws ws':List Txt} (h:PS w b mb B at_ v x ws) (ht:TookW w b at_ ws' w'):PS w' b mb B at_ v x ws'/\Touch (PT b mb B) w w':=by
 obtain ⟨s',rfl,hp⟩:=ht
 exact ⟨⟨h.i.set5 _,s',hp⟩,rfl,rfl,rfl,by simp [World.setCell],fun k hk hn=>Below.heap_setCell _ _ _ _ (fun e=>hn (.inl e))⟩
theorem PS.tookB {w w':World} {b mb B at_:Nat} {v:PV} {x:PA} {ws ws':List Txt} (h:PS w b mb B at_ v x ws) (ht:TookB w b at_ ws' w'):PS w' b mb B at_ v x ws'/\Touch (PT b mb B) w w':=by
 obtain ⟨w1,h1,h2⟩:=ht
 obtain ⟨a,t⟩:=h.took h1
 exact ⟨a.below h2,t.trans (Touch.of_below h2)⟩
end Go.Proofs.YtnmhkgmmpkjjeacGreat
namespace Go.Proofs.YtnmhkgmmpkjjeacGreat
open Go.ChangeShapes Go.WideShapes Go.ChangeAt Go.RowKit
set_option linter.unusedVariables false
set_option linter.unusedSimpArgs false
set_option maxRecDepth 100000
attribute [local go_sem ↓] Go.wp_at_zero Go.wp_at_succ
def Ends (code:Int) (at_:Nat) (e:Ending) (R:Prop):Prop:=(code=0->e=.returned (.tuple #[])/\R)/\(code ≠ 0->e=.panicked [{ v:=diagV code (at_:Int),recovered:=false }])
theorem Ends.yes {at_:Nat} {R:Prop} {c:Int} (hc:c=0) (h:R):Ends c at_ (.returned (.tuple #[])) R:=⟨fun _=>⟨rfl,h⟩,fun h=>absurd hc h⟩
theorem Ends.no {c d:Int} {at_:Nat} {R:Prop} (hc:c=d) (h:d ≠ 0):Ends c at_ (.panicked [{ v:=diagV d (at_:Int),recovered:=false }]) R:=⟨fun e=>absurd (hc.symm.trans e) h,fun _=>by rw [hc]⟩
def tkCode (r:RunE) (pg:List RunE):Int:=if fitsB r 4096=true then (if pg.any (meetR r)=true then 8 else 0) else 7
set_option maxHeartbeats 2000000 in
theorem takePages_any (r:RunE) (b mb B at_:Nat) (v:PV) (x:PA) (w:World) (hr:RnB r) (h:PI w b mb B at_ v x) (hpg:∀ i,i < x.pg.length->RnB (eAt eRunR x.pg i)) (hl:x.pg.length<=1000) :
  Calls Tryz.prog 174 #[.pointer (some ⟨b,0,none⟩),.agg #[.int .i64 r.f,.int .i64 r.c]] w fun e w'=>Touch (fun k=>k=b\/oP v.pa=some k) w w'/\Ends (tkCode r x.pg) at_ e (∃ v',(v'.ra=v.ra/\v'.fa=v.fa/\∀ k,oP v'.pa=some k->oP v.pa=some k\/w.heap.size<=k)/\PI w' b mb B at_ v' ⟨x.g,x.fr,x.pg ++ [r],x.rg⟩):=by
 obtain ⟨iR,hiR,hz0,hz1,hz2⟩:=info_parts infoRunR
 obtain ⟨F,C⟩:=r
 obtain ⟨w0,hw0⟩:∃ w0,w0=w.alloc (.cells #[.int .i64 F,.int .i64 C] 169):=⟨_,rfl⟩
 have hb0:Below w.heap.size w w0:=by rw [hw0]; exact bal
 have hz:w.heap.size < w0.heap.size:=by rw [hw0]; simp
 have HP0:Hid (PI w0 b mb B at_ v x):=hidP (h.below hb0)
 have HR0:Hid (w0.cell? ⟨w.heap.size,0,none⟩=some (.int .i64 F)/\w0.cell? ⟨w.heap.size,1,none⟩=some (.int .i64 C)):=hidP (by rw [hw0]; refine ⟨?_,?_⟩ <;> simp [go_sem])
 have HB0:Hid (Below w.heap.size w w0):=hb0
 have HF:Hid (Calls Tryz.prog 171 #[.agg #[.int .i64 F,.int .i64 C],.int .i64 4096] w0 fun e w'=>e=.returned (.bool (fitsB ⟨F,C⟩ 4096))/\Below w0.heap.size w0 w'):=hidP (fits_any ⟨F,C⟩ 4096 w0 hr)
 have HW0:Hid (w0=_):=hw0
 have hbw:=h.blt
 have hBw:=h.bd
 have HBB:Hid (b < B):=h.bB
 have HOW:Hid (∀ k,oP v.pa=some k->k < w.heap.size):=hidP (fun k hk=>(h.of.2.1 k hk).2)
 have HRB:Hid (RnB ⟨F,C⟩):=hr
 have HPG:Hid (∀ i,i < x.pg.length->RnB (eAt eRunR x.pg i)):=hpg
 clear hb0 hr h hw0 hpg
 go_enter Tryz.func174,Tryz.ntmps174
 go_wp2_with fail
 rw [<- HW0.out]
 refine HF.out.mono ?_
 rintro e w1 ⟨rfl,hb1⟩
 have HP1:Hid (PI w1 b mb B at_ v x):=hidP (HP0.out.below hb1)
 have HT1:Hid (Touch (fun k=>k=b\/oP v.pa=some k) w w1):=hidP ((Touch.of_below HB0.out).trans (Touch.of_below hb1))
 have HR1:Hid (w1.cell? ⟨w.heap.size,0,none⟩=some (.int .i64 F)/\w1.cell? ⟨w.heap.size,1,none⟩=some (.int .i64 C)):=hidP ⟨(hb1.cell (p:=⟨w.heap.size,0,none⟩) hz).trans HR0.out.1,(hb1.cell (p:=⟨w.heap.size,1,none⟩) hz).trans HR0.out.2⟩
 have hzw:w.heap.size < w1.heap.size:=Nat.lt_of_lt_of_le hz hb1.size
 clear hb1 HF
 by_cases hfit:fitsB ⟨F,C⟩ 4096=true
 ·rw [hfit]
  have t2:Hid (Calls Tryz.prog 154 #[.pointer (some ⟨b,0,none⟩),.bool false,.int .i64 7] w1 fun e w'=>e=.returned (.tuple #[])/\w'=w1):=hidP (refuse_no b 7 w1)
  go_wp2_with fail
  refine t2.out.mono ?_
  rintro e w2 ⟨rfl,ew⟩
  obtain rfl:w1=w2:=ew.symm
  clear t2
  have HM:Hid (∀ wX,Below w1.heap.size w1 wX->Calls Tryz.prog 172 #[.agg #[.int .i64 F,.int .i64 C],.slice v.pa x.pg.length v.pc] wX fun e w'=>e=.returned (.bool (x.pg.any (meetR ⟨F,C⟩)))/\Below wX.heap.size wX w'):=hidP (fun wX hX=>meets_any ⟨F,C⟩ v.pa v.pc B x.pg wX HRB.out HPG.out (by omega) (HP1.out.rp.below hX))
  have HS:Hid (∀ wX,Below w1.heap.size w1 wX->wX.cell? ⟨w.heap.size,0,none⟩=some (.int .i64 F)/\wX.cell? ⟨w.heap.size,1,none⟩=some (.int .i64 C)/\wX.cell? ⟨b,2,none⟩=some (.slice v.pa x.pg.length v.pc)):=hidP (fun wX hX=>⟨(hX.cell (p:=⟨w.heap.size,0,none⟩) hzw).trans HR1.out.1,(hX.cell (p:=⟨w.heap.size,1,none⟩) hzw).trans HR1.out.2,(hX.cell (p:=⟨b,2,none⟩) HP1.out.blt).trans HP1.out.c2⟩)
  go_wp2_with fail
  refine wp_region_held_drew (S:=fun wX=>wX.cell? ⟨w.heap.size,0,none⟩=some (.int .i64 F)/\wX.cell? ⟨w.heap.size,1,none⟩=some (.int .i64 C)/\wX.cell? ⟨b,2,none⟩=some (.slice v.pa x.pg.length v.pc)) (by kernel_rfl) (HS.out _ (Below.refl _ _).drew) (fun hHeld=>?_)
  refine tk 0 ?_
  refine tk 1 ?_
  refine tk 2 ?_
  refine tk 3 ?_
  refine tk 4 ?_
  refine tk 5 ?_
  refine wpAnyH_ready (rs:=[6]) (by kernel_rfl) (by simp) ?_
  refine AllReadyH.cons rfl (fun K hK=>?_) AllReadyH.nil
  go_simp
  refine (HM.out _ (Below.refl _ _).drew).mono ?_
  rintro e w3 ⟨rfl,hb3⟩
  have hb13:Below w1.heap.size w1 w3:=(Below.refl _ _).drew.trans hb3
  refine hK.out _ _ (HS.out _ hb13) (fun hHeld2=>?_)
  clear hK K hb3
  have HP3:Hid (PI w3 b mb B at_ v x):=hidP (HP1.out.below hb13)
  have HT3:Hid (Touch (fun k=>k=b\/oP v.pa=some k) w w3):=hidP (HT1.out.trans (Touch.of_below hb13))
  have HR3:Hid (∀ wX,Below w3.heap.size w3 wX->wX.cell? ⟨w.heap.size,0,none⟩=some (.int .i64 F)/\wX.cell? ⟨w.heap.size,1,none⟩=some (.int .i64 C)):=hidP (fun wX hX=>⟨(HS.out wX (hb13.trans (hX.mono hb13.size))).1,(HS.out wX (hb13.trans (hX.mono hb13.size))).2.1⟩)
  have hz3:w.heap.size < w3.heap.size:=Nat.lt_of_lt_of_le hzw hb13.size
  clear hHeld hHeld2
  by_cases hmt:x.pg.any (meetR ⟨F,C⟩)=true
  ·rw [hmt]
   have t4:Hid (Calls Tryz.prog 154 #[.pointer (some ⟨b,0,none⟩),.bool true,.int .i64 8] w3 fun e w'=>e=.panicked [{ v:=diagV 8 (at_:Int),recovered:=false }]/\w'=w3):=hidP (refuse_yes b 8 at_ w3 HP3.out.c4)
   have HC:Hid (tkCode ⟨F,C⟩ x.pg=8):=hidP (by unfold tkCode; rw [if_pos hfit,if_pos hmt])
   refine wpAnyH_ready (rs:=[7]) (by kernel_rfl) (by simp) ?_
   refine AllReadyH.cons rfl (fun K hK=>?_) AllReadyH.nil
   go_simp
   refine t4.out.mono ?_
   rintro e w4 ⟨rfl,ew⟩
   obtain rfl:w3=w4:=ew.symm
   exact ⟨rfl,HT3.out,Ends.no HC.out (by decide)⟩
  ·have hmf:x.pg.any (meetR ⟨F,C⟩)=false:=by simpa using hmt
   rw [hmf]
   have t4:Hid (Calls Tryz.prog 154 #[.pointer (some ⟨b,0,none⟩),.bool false,.int .i64 8] w3 fun e w'=>e=.returned (.tuple #[])/\w'=w3):=hidP (refuse_no b 8 w3)
   have HC:Hid (tkCode ⟨F,C⟩ x.pg=0):=hidP (by unfold tkCode; rw [if_pos hfit,if_neg hmt])
   refine wpAnyH_ready (rs:=[7]) (by kernel_rfl) (by simp) ?_
   refine AllReadyH.cons rfl (fun K hK=>?_) AllReadyH.nil
   go_simp
   refine t4.out.mono ?_
   rintro e w4 ⟨rfl,ew⟩
   obtain rfl:w3=w4:=ew.symm
   refine hK.out _ _ (HS.out _ hb13) (fun hHeld3=>?_)
   clear hK K t4 hHeld3
   refine wpAnyH_done (by kernel_rfl) ?_ _
   have q2:=HP3.out.c2
   have f2:=HP3.out.fz 2
   have HOWN:Hid ((w3.drew.alloc (.cells #[.int .i64 F,.int .i64 C] 169)).ownsRow B 169 2 (.slice v.pa x.pg.length v.pc) x.pg.length (ecells eRunR x.pg)):=hidP (HP3.out.rp.below ((Below.refl _ _).drew.alloc (by simp) _))
   have HNEWS:Hid (∀ j u,([.int .i64 F,.int .i64 C]:List Value)[j]?=some u->(w3.drew.alloc (.cells #[.int .i64 F,.int .i64 C] 169)).cell? ((⟨w3.heap.size,0,none⟩:Addr).add j)=some u):=hidP (World.news_of_block (cs:=#[.int .i64 F,.int .i64 C]) (heap_alloc_new w3.drew _))
   have hb3:B<=w3.heap.size:=HP3.out.bd
   have hbl3:b < w3.heap.size:=HP3.out.blt
   have HNE:Hid (∀ wn,(w3.drew.alloc (.cells #[.int .i64 F,.int .i64 C] 169)).grownBy wn (oP v.pa)->(∀ k,k < w3.heap.size->oP v.pa ≠ some k->wn.heap[k]?=w3.heap[k]?)):=hidP (fun wn hg k hk hn=>(hg.block k (by simp; omega) (fun e=>hn e.symm)).trans (Below.heap_alloc _ _ _ hk))
   have nb:oP v.pa ≠ some b:=fun e=>by have:=(HP3.out.of.2.1 b e).1; have:=HBB.out; omega
   have nr:oP v.pa ≠ some w.heap.size:=fun e=>by have:=HOW.out _ e; omega
   have HEND:Hid (∀ g1 cap1 wn,wn.ownsRow B 169 2 (.slice (some ⟨g1,0,none⟩) (x.pg.length+1) cap1) (x.pg.length+1) (ecells eRunR x.pg ++ [.int .i64 F,.int .i64 C])->(w3.drew.alloc (.cells #[.int .i64 F,.int .i64 C] 169)).grownBy wn (oP v.pa)->(oP v.pa=some g1\/g1=w3.heap.size+1)->Touch (fun k=>k=b\/oP v.pa=some k) w (wn.setCell ⟨b,2,none⟩ (.slice (some ⟨g1,0,none⟩) (x.pg.length+1) cap1))/\∃ v',(v'.ra=v.ra/\v'.fa=v.fa/\∀ k,oP v'.pa=some k->oP v.pa=some k\/w.heap.size<=k)/\PI (wn.setCell ⟨b,2,none⟩ (.slice (some ⟨g1,0,none⟩) (x.pg.length+1) cap1)) b mb B at_ v' ⟨x.g,x.fr,x.pg ++ [⟨F,C⟩],x.rg⟩):=hidP (fun g1 cap1 wn hown hgrow hat=>by
    have ht:Touch (fun k=>oP v.pa=some k) w3 wn:=(Touch.of_below ((Below.refl _ _).drew.alloc (by simp) (.cells #[.int .i64 F,.int .i64 C] 169))).trans (Touch.of_grown hgrow (fun k e=>e))
    refine ⟨HT3.out.trans ((show Touch (fun k=>k=b\/oP v.pa=some k) w3 wn from ⟨ht.os,ht.tape,ht.output,ht.size,fun k hk hn=>ht.block k hk (fun e=>hn (.inr e))⟩).trans ?_),⟨v.fa,v.fc,some ⟨g1,0,none⟩,cap1,v.ra,v.rc⟩,⟨rfl,rfl,fun k hk=>?_⟩,HP3.out.addP ht (erow_push (E:=eRunR) (x:=⟨F,C⟩) rfl hown) ?_⟩
    ·exact ⟨rfl,rfl,rfl,by simp [World.setCell],fun k hk hn=>Below.heap_setCell _ _ _ _ (fun e=>hn (.inl e))⟩
    ·rw [oP_some] at hk
     injection hk with hk
     subst hk
     rcases hat with e | e
     ·exact .inl e
     ·exact .inr (by omega)
    ·rcases hat with e | e
     ·exact .inl e
     ·exact .inr (by omega))
   clear hmt hmf hfit
   go_wp2_with fail
   refine wp_region_held_drew (S:=fun wX=>wX.cell? ⟨w.heap.size,0,none⟩=some (.int .i64 F)/\wX.cell? ⟨w.heap.size,1,none⟩=some (.int .i64 C)) (by kernel_rfl) (HR3.out _ (Below.refl _ _).drew) (fun hHeld=>?_)
   refine tk 0 ?_
   refine tk 1 ?_
   refine tk 2 ?_
   refine tk 3 ?_
   refine tk 5 ?_
   refine wpAnyH_ready (rs:=[4,6]) (by kernel_rfl) (by simp) ?_
   refine AllReadyH.cons rfl (fun K hK=>?_) (AllReadyH.cons rfl (fun K hK=>?_) AllReadyH.nil)
   ·go_simp
    refine hK.out _ _ (HR3.out _ ((Below.refl _ _).drew)) (fun hHeld2=>?_)
    clear hK K
    refine wpAnyH_ready (rs:=[6]) (by kernel_rfl) (by simp) ?_
    refine AllReadyH.cons rfl (fun K hK=>?_) AllReadyH.nil
    go_simp
    refine hK.out _ _ (HR3.out _ ((Below.refl _ _).drew.alloc (by simp) _)) (fun hHeld3=>?_)
    clear hK K
    refine wpAnyH_ready (rs:=[7]) (by kernel_rfl) (by simp) ?_
    refine AllReadyH.cons rfl (fun K hK=>?_) AllReadyH.nil
    refine step_append_lies _ (by rfl) (.tmp 21) (.tmp 23) 166 (by rfl) B 169 iR _ 2 16 Tryz.underlying166 hiR hz0 hz1 hz2 rfl (by omega) _ _ _ (by rfl) HOWN.out ⟨w3.heap.size,0,none⟩ 1 1 [.int .i64 F,.int .i64 C] (by rfl) rfl HNEWS.out (by intro v hv; simp at hv; rcases hv with rfl | rfl <;> rfl) (by omega) (by unfold maxLen; omega) (by omega) (by simp; omega) (w3.heap.size+1) (by simp) ?_
    intro g1 cap1 wn hown hgrow hat hlt3
    rw [oP_slice] at hgrow hat
    have HE:=hidP (HEND.out g1 cap1 wn hown hgrow hat)
    have cq2:=(World.cell?_of_block (a:=⟨b,2,none⟩) (HNE.out wn hgrow b hbl3 nb)).trans q2
    have cf2:=(World.frozen?_of_block (a:=⟨b,2,none⟩) (HNE.out wn hgrow b hbl3 nb)).trans f2
    have hS:∀ u:Value,(wn.setCell ⟨b,2,none⟩ u).cell? ⟨w.heap.size,0,none⟩=some (.int .i64 F)/\(wn.setCell ⟨b,2,none⟩ u).cell? ⟨w.heap.size,1,none⟩=some (.int .i64 C):=fun u=>by
     have e:(wn.setCell ⟨b,2,none⟩ u).heap[w.heap.size]?=w3.heap[w.heap.size]?:=(Below.heap_setCell _ _ _ _ (by show w.heap.size ≠ b; omega)).trans (HNE.out wn hgrow _ hz3 nr)
     exact ⟨(World.cell?_of_block e).trans (HR3.out w3 (Below.refl _ _)).1,(World.cell?_of_block e).trans (HR3.out w3 (Below.refl _ _)).2⟩
    have HS2:=hidP hS
    refine hK.out _ _ ⟨(World.cell?_of_block (HNE.out wn hgrow _ hz3 nr)).trans (HR3.out w3 (Below.refl _ _)).1,(World.cell?_of_block (HNE.out wn hgrow _ hz3 nr)).trans (HR3.out w3 (Below.refl _ _)).2⟩ (fun hHeld4=>?_)
    clear hK K hgrow hown hat hS
    refine tk 8 ?_
    refine tk 9 ?_
    refine wpAnyH_ready (rs:=[10]) (by kernel_rfl) (by simp) ?_
    refine AllReadyH.cons rfl (fun K hK=>?_) AllReadyH.nil
    go_simp
    refine hK.out _ _ (HS2.out _) (fun hHeld5=>?_)
    clear hK K
    refine wpAnyH_done (by kernel_rfl) ?_ _
    go_wp2_with fail
    exact bodyPost_end (v:=.tuple #[]) (by simp [results,Tryz.results174,go_sem]) rfl ⟨HE.out.1,Ends.yes HC.out HE.out.2⟩
   ·go_simp
    refine hK.out _ _ (HR3.out _ ((Below.refl _ _).drew.alloc (by simp) _)) (fun hHeld2=>?_)
    clear hK K
    refine wpAnyH_ready (rs:=[4]) (by kernel_rfl) (by simp) ?_
    refine AllReadyH.cons rfl (fun K hK=>?_) AllReadyH.nil
    go_simp
    refine hK.out _ _ (HR3.out _ ((Below.refl _ _).drew.alloc (by simp) _)) (fun hHeld3=>?_)
    clear hK K
    refine wpAnyH_ready (rs:=[7]) (by kernel_rfl) (by simp) ?_
    refine AllReadyH.cons rfl (fun K hK=>?_) AllReadyH.nil
    refine step_append_lies _ (by rfl) (.tmp 21) (.tmp 23) 166 (by rfl) B 169 iR _ 2 16 Tryz.underlying166 hiR hz0 hz1 hz2 rfl (by omega) _ _ _ (by rfl) HOWN.out ⟨w3.heap.size,0,none⟩ 1 1 [.int .i64 F,.int .i64 C] (by rfl) rfl HNEWS.out (by intro v hv; simp at hv; rcases hv with rfl | rfl <;> rfl) (by omega) (by unfold maxLen; omega) (by omega) (by simp; omega) (w3.heap.size+1) (by simp) ?_
    intro g1 cap1 wn hown hgrow hat hlt3
    rw [oP_slice] at hgrow hat
    have HE:=hidP (HEND.out g1 cap1 wn hown hgrow hat)
    have cq2:=(World.cell?_of_block (a:=⟨b,2,none⟩) (HNE.out wn hgrow b hbl3 nb)).trans q2
    have cf2:=(World.frozen?_of_block (a:=⟨b,2,none⟩) (HNE.out wn hgrow b hbl3 nb)).trans f2
    have hS:∀ u:Value,(wn.setCell ⟨b,2,none⟩ u).cell? ⟨w.heap.size,0,none⟩=some (.int .i64 F)/\(wn.setCell ⟨b,2,none⟩ u).cell? ⟨w.heap.size,1,none⟩=some (.int .i64 C):=fun u=>by
     have e:(wn.setCell ⟨b,2,none⟩ u).heap[w.heap.size]?=w3.heap[w.heap.size]?:=(Below.heap_setCell _ _ _ _ (by show w.heap.size ≠ b; omega)).trans (HNE.out wn hgrow _ hz3 nr)
     exact ⟨(World.cell?_of_block e).trans (HR3.out w3 (Below.refl _ _)).1,(World.cell?_of_block e).trans (HR3.out w3 (Below.refl _ _)).2⟩
    have HS2:=hidP hS
    refine hK.out _ _ ⟨(World.cell?_of_block (HNE.out wn hgrow _ hz3 nr)).trans (HR3.out w3 (Below.refl _ _)).1,(World.cell?_of_block (HNE.out wn hgrow _ hz3 nr)).trans (HR3.out w3 (Below.refl _ _)).2⟩ (fun hHeld4=>?_)
    clear hK K hgrow hown hat hS
    refine tk 8 ?_
    refine tk 9 ?_
    refine wpAnyH_ready (rs:=[10]) (by kernel_rfl) (by simp) ?_
    refine AllReadyH.cons rfl (fun K hK=>?_) AllReadyH.nil
    go_simp
    refine hK.out _ _ (HS2.out _) (fun hHeld5=>?_)
    clear hK K
    refine wpAnyH_done (by kernel_rfl) ?_ _
    go_wp2_with fail
    exact bodyPost_end (v:=.tuple #[]) (by simp [results,Tryz.results174,go_sem]) rfl ⟨HE.out.1,Ends.yes HC.out HE.out.2⟩
 ·have hff:fitsB ⟨F,C⟩ 4096=false:=by simpa using hfit
  rw [hff]
  have t2:Hid (Calls Tryz.prog 154 #[.pointer (some ⟨b,0,none⟩),.bool true,.int .i64 7] w1 fun e w'=>e=.panicked [{ v:=diagV 7 (at_:Int),recovered:=false }]/\w'=w1):=hidP (refuse_yes b 7 at_ w1 HP1.out.c4)
  have HC:Hid (tkCode ⟨F,C⟩ x.pg=7):=hidP (by unfold tkCode; rw [if_neg hfit])
  go_wp2_with fail
  refine t2.out.mono ?_
  rintro e w2 ⟨rfl,ew⟩
  obtain rfl:w1=w2:=ew.symm
  exact ⟨rfl,HT1.out,Ends.no HC.out (by decide)⟩
end Go.Proofs.YtnmhkgmmpkjjeacGreat
