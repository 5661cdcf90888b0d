import Derived.Test.YtnmhkgmmpkjjeaaGreatK34
import Derived.Test.YtnmhkgmmpkjjeaaGreatK31
namespace Go.Proofs.YtnmhkgmmpkjjeaaGreat
open Go.ChangeShapes Go.WideShapes Go.ChangeAt Go.RowKit
set_option linter.unusedVariables false
theorem El (qs:List P3) (n:Nat) (x:Int):x∈Ch qs n↔∃k:Nat,k<n/\B5 qs (k:Nat)=false/\x=k:=by
 unfold Ch;rw[Ga];constructor
 ·rintro⟨k,h1,h2,h3⟩;exact⟨k,h1,by simpa using h2,h3⟩
 ·rintro⟨k,h1,h2,h3⟩;exact⟨k,h1,by simpa using h2,h3⟩
theorem Bp (qs:List P3) (n:Nat):Bx (Ch qs n):=DT _ _
theorem TM (t:Nat):K7 (Ch [] t) (t:Nat)=Ch [] (t+1):=by
 refine Ds (I9 (Bp _ _) _) (Bp _ _) (fun x=>?_);rw[Mo (Bp _ _),El,El];constructor
 ·rintro(rfl|⟨k,h1,h2,h3⟩)
  ·exact⟨t,by omega,rfl,rfl⟩
  ·exact⟨k,by omega,h2,h3⟩
 ·rintro⟨k,h1,h2,h3⟩;by_cases e:k=t
  ·exact .inl (by rw[h3,e])
  ·exact .inr ⟨k,by omega,h2,h3⟩
theorem Eb (q:P3) (f:Int):B5 [q] f=decide (q.fr=f):=by
 unfold B5;simp
theorem Ug (qs:List P3) (n:Nat) (q:P3):Lv (Ch qs n) q.fr=Ch (qs++[q]) n:=by
 refine Ds (Pc (Bp _ _) _) (Bp _ _) (fun x=>?_);rw[Vf (Bp _ _),El,El];constructor
 ·rintro⟨⟨k,h1,h2,h3⟩,h4⟩;refine⟨k,h1,?_,h3⟩;rw[CJ,h2,Eb,Bool.false_or];exact decide_eq_false (fun e=>h4 (by rw[h3,e]))
 ·rintro⟨k,h1,h2,h3⟩;rw[CJ,Eb,Bool.or_eq_false_iff] at h2;exact⟨⟨k,h1,h2.1,h3⟩,fun e=>of_decide_eq_false h2.2 (by rw[<- e,h3])⟩
theorem Ow (qs:List P3) (n:Nat):(Ch qs n).length<=n:=by
 unfold Ch Bf;rw[List.length_map];exact Nat.le_trans (List.length_filter_le _ _) (by rw[List.length_range];omega)
def DX (gone:List P3) (n:Nat):List Int:=Bf (fun f=>B5 gone (f:Nat)) n
theorem Nw (qs:List P3) (n:Nat):(DX qs n).length<=n:=by
 unfold DX Bf;rw[List.length_map];exact Nat.le_trans (List.length_filter_le _ _) (by rw[List.length_range];omega)
theorem Fi (qs:List P3) (n:Nat):Bx (DX qs n):=DT _ _
theorem WF (qs:List P3) (n:Nat) (q:P3) (h0:0<=q.fr) (h1:q.fr<n):K7 (DX qs n) q.fr=DX (qs++[q]) n:=by
 refine Ds (I9 (Fi _ _) _) (Fi _ _) (fun x=>?_);rw[Mo (Fi _ _)];unfold DX;rw[Ga,Ga];constructor
 ·rintro(rfl|⟨k,h2,h3,h4⟩)
  ·refine⟨q.fr.toNat,by omega,?_,by omega⟩;rw[CJ,Eb];(have:q.fr=((q.fr.toNat:Nat):Int):=by omega);rw[decide_eq_true this,Bool.or_true]
  ·exact⟨k,h2,by rw[CJ,h3,Bool.true_or],h4⟩
 ·rintro⟨k,h2,h3,h4⟩;rw[CJ,Eb,Bool.or_eq_true] at h3;rcases h3 with h3|h3
  ·exact .inr ⟨k,h2,h3,h4⟩
  ·exact .inl (by rw[h4,of_decide_eq_true h3])
theorem TY (qs:List P3) (n:Nat) (lv pg:Int) (h:Eh qs<n):Ch qs n=((Eh qs:Nat):Int) :: Ch (qs++[⟨(Eh qs:Nat),lv,pg⟩]) n:=by
 obtain⟨_,s1,s2⟩:=FQ qs;refine Ds (Bp _ _) (List.pairwise_cons.2 ⟨fun x hx=>?_,Bp _ _⟩) (fun x=>?_)
 ·obtain⟨k,h1,h2,h3⟩:=(El _ _ _).1 hx;rw[CJ,Eb,Bool.or_eq_false_iff] at h2;have h4:¬((Eh qs:Nat):Int)=(k:Nat):=of_decide_eq_false h2.2;have h5:¬k<Eh qs:=fun hk=>by rw[s1 k hk] at h2;cases h2.1
  omega
 ·rw[List.mem_cons,El,El];constructor
  ·rintro⟨k,h1,h2,h3⟩;by_cases e:k=Eh qs
   ·exact .inl (by rw[h3,e])
   ·refine .inr ⟨k,h1,?_,h3⟩;rw[CJ,h2,Eb,Bool.false_or];exact decide_eq_false (fun e2=>e (by have:((Eh qs:Nat):Int)=(k:Nat):=e2;omega))
  ·rintro(e|⟨k,h1,h2,h3⟩)
   ·exact⟨Eh qs,h,s2,e⟩
   ·rw[CJ,Bool.or_eq_false_iff] at h2;exact⟨k,h1,h2.1,h3⟩
theorem UL (kept:List P3) (q:P3):BF (kept++[q]) []=BF kept []++[⟨q.lv,q.pg,q.fr,true⟩]:=by unfold BF;simp
theorem UY (kept fs:List P3) (q:P3):BF kept (fs++[q])=BF kept fs++[⟨q.lv,q.pg,q.fr,false⟩]:=by unfold BF;simp
theorem R8 {kept fs:List P3} {lv pg:Int} (h:∀q∈kept++fs,¬(q.lv=lv/\q.pg=pg)):F5 (BF kept fs) lv pg=none:=by
 rw[IV];rw[List.find?_eq_none.2 (fun q hq=>by unfold AJ;rw[decide_eq_false (h q (List.mem_append_left _ hq))];decide),List.find?_eq_none.2 (fun q hq=>by unfold AJ;rw[decide_eq_false (h q (List.mem_append_right _ hq))];decide)];rfl
theorem Ot {ps:List P3} (hs:ps.Pairwise (fun a b=>key a<key b)) (t:Nat) (ht:t<ps.length):∀q∈ps.take t,¬(q.lv=(Ai ps t).lv/\q.pg=(Ai ps t).pg):=by
 intro q hq he;obtain⟨i,hi,rfl⟩:=List.getElem_of_mem hq;rw[List.length_take] at hi;rw[List.getElem_take] at he;have:=List.pairwise_iff_getElem.1 hs i t (by omega) ht (by omega);have e:ps[t]=Ai ps t:=by unfold Ai;rw[List.getD_eq_getElem?_getD,List.getElem?_eq_getElem ht];rfl
 unfold key at this;rw[e] at this;omega
theorem Mh {H:Nat->Ht} {n:Nat} {ps:List P3} (hn:0<n) (h:BO n ps) (hw:(AC H 256).length<=n) (k:Nat) (hk:k<(AC H 256).length):∀q∈BK (AA H ps) (AC H 256) k,¬(q.lv=((AC H 256)[k]).1/\q.pg=((AC H 256)[k]).2):=by
 intro q hq he;obtain⟨j,hj,hj2,h1,h2,_⟩:=Cx hn h hw k (by omega) q hq;have:=List.pairwise_iff_getElem.1 (Js H 256) j k hj2 hk hj;unfold JD at this;have e1:((AC H 256)[j]).1=((AC H 256)[k]).1:=by have:=he.1;omega
 have e2:((AC H 256)[j]).2=((AC H 256)[k]).2:=by have:=he.2;omega
 omega
theorem MQ {H:Nat->Ht} {n:Nat} {ps:List P3} (hn:0<n) (h:BO n ps) (hw:(AC H 256).length<=n) (k:Nat) (hk:k<(AC H 256).length):(F5 (BF (AA H ps) (BK (AA H ps) (AC H 256) k)) ((AC H 256)[k]).1 ((AC H 256)[k]).2).isSome=!decide (AE (AA H ps) ((AC H 256)[k]).1 ((AC H 256)[k]).2<0):=by
 by_cases hf:AE (AA H ps) ((AC H 256)[k]).1 ((AC H 256)[k]).2<0
 ·rw[decide_eq_true hf,R8]
  ·rfl
  ·intro q hq he;rcases List.mem_append.1 hq with hq|hq
   ·have hx:=Cg (Cm H h) hq;rw[he.1,he.2] at hx;have:=(h.fr (by omega) (BN.1 hq).1).1;omega
   ·exact Mh hn h hw k hk q hq he
 ·rw[decide_eq_false hf,Ro (by omega)];rfl
theorem Rt {H:Nat->Ht} {n:Nat} {ps:List P3} (hn:0<n) (h:BO n ps) (hw:(AC H 256).length<=n) (k:Nat) (hk:k<(AC H 256).length) (hf:AE (AA H ps) ((AC H 256)[k]).1 ((AC H 256)[k]).2<0):F5 (BF (AA H ps) (BK (AA H ps) (AC H 256) k)) ((AC H 256)[k]).1 ((AC H 256)[k]).2=none:=by
 have:=MQ hn h hw k hk;rw[decide_eq_true hf] at this;simpa using this
theorem Ck.tch {w w':World} {B:Nat} {m:List HE} {S:Nat->Prop} (h:Ck w B m) (hg:BJ S w w') (hn:¬S B):Ck w' B m:=h.of_block (hg.block B h.lt hn)
theorem C9.tch {w w':World} {g:Nat} {H:Nat->Ht} {S:Nat->Prop} (h:C9 w g H) (hg:BJ S w w') (hn:¬S g):C9 w' g H:=h.of_block hg.size (hg.block g h.lt hn)
theorem Ar.tch {w w':World} {g:Nat} {zs:List Int} {S:Nat->Prop} (h:Ar w g zs) (hg:BJ S w w') (hn:¬S g):Ar w' g zs:=h.of_block (hg.block g h.lt hn)
theorem Iu.tch {w w':World} {gp gz cz gl B:Nat} {zs:List Int} {H:Nat->Ht} {m:List HE} {S:Nat->Prop} (h:Iu w gp gz cz gl B zs H m) (hg:BJ S w w') (h1:¬S gp) (h2:¬S gz) (h3:¬S gl) (h4:¬S B):Iu w' gp gz cz gl B zs H m :=
 ⟨Nat.lt_of_lt_of_le h.lt hg.size,(hg.cell (p:=⟨gp,0,none⟩) h.lt h1).trans h.c0,(hg.cell (p:=⟨gp,1,none⟩) h.lt h1).trans h.c1,(hg.cell (p:=⟨gp,2,none⟩) h.lt h1).trans h.c2,h.words.tch hg h2,h.lay.tch hg h3,h.map.tch hg h4⟩
structure TD (w0:World) (gp gz gl M:Nat):Prop where
 p:gp<w0.heap.size
 z:gz<w0.heap.size
 l:gl<w0.heap.size
 m:M<w0.heap.size
 zp:gz≠gp
 lp:gl≠gp
 mp:M≠gp
 zm:gz≠M
 lm:gl≠M
structure SS (w0 w:World) (gp gz cz gl M:Nat) (zs:List Int) (H:Nat->Ht) (m:List HE) (aR:Option Addr) (cR:Nat) (rt:List Int) (aC:Option Addr) (cC:Nat) (cr:List P3):Prop where
 tch:BJ (fun k=>k=gp\/k=M) w0 w
 pst:Iu w gp gz cz gl M zs H m
 ret:BI w gp 4 (w0.heap.size+1) aR cR rt
 c3:w.cell? ⟨gp,3,none⟩=some (.slice aC cr.length cC)
 f3:w.frozen? ⟨gp,3,none⟩=false
 crow:A6 FL w (w0.heap.size+1) (.slice aC cr.length cC) cr
 dif:∀k,oB aR=some k->oB aC≠some k
theorem SS.ownR {w0 w:World} {gp gz cz gl M cR cC:Nat} {zs:List Int} {H:Nat->Ht} {m:List HE} {aR aC:Option Addr} {rt:List Int} {cr:List P3} (h:SS w0 w gp gz cz gl M zs H m aR cR rt aC cC cr):∀k,oB aR=some k->w0.heap.size+1<=k/\k<w.heap.size:=fun k hk=>h.ret.row.own k (by rw[CS];exact hk)
theorem SS.ownC {w0 w:World} {gp gz cz gl M cR cC:Nat} {zs:List Int} {H:Nat->Ht} {m:List HE} {aR aC:Option Addr} {rt:List Int} {cr:List P3} (h:SS w0 w gp gz cz gl M zs H m aR cR rt aC cC cr):∀k,oB aC=some k->w0.heap.size+1<=k/\k<w.heap.size:=fun k hk=>h.crow.own k (by rw[CS];exact hk)
theorem SS.elsewhere {w0 w w':World} {gp gz cz gl M cR cC:Nat} {zs:List Int} {H:Nat->Ht} {m:List HE} {aR aC:Option Addr} {rt:List Int} {cr:List P3} {S:Nat->Prop} (h:SS w0 w gp gz cz gl M zs H m aR cR rt aC cC cr) (hs:TD w0 gp gz gl M) (hg:BJ S w w') (hS:∀k,S k->w0.heap.size<=k/\oB aR≠some k/\oB aC≠some k):SS w0 w' gp gz cz gl M zs H m aR cR rt aC cC cr:=by
 have np:∀k,k<w0.heap.size->¬S k:=fun k hk hh=>by have:=(hS k hh).1;omega
 exact⟨h.tch.then hg (fun k hk hh=>absurd hh (np k hk)),h.pst.tch hg (np _ hs.p) (np _ hs.z) (np _ hs.l) (np _ hs.m),h.ret.tch hg (np _ hs.p) (fun k hk hh=>(hS k hh).2.1 hk),(hg.cell (p:=⟨gp,3,none⟩) h.pst.lt (np _ hs.p)).trans h.c3,(hg.frozen (p:=⟨gp,3,none⟩) h.pst.lt (np _ hs.p)).trans h.f3,h.crow.tch hg (fun k hk hh=>(hS k hh).2.2 hk),h.dif⟩
theorem SS.below {w0 w w':World} {gp gz cz gl M cR cC:Nat} {zs:List Int} {H:Nat->Ht} {m:List HE} {aR aC:Option Addr} {rt:List Int} {cr:List P3} (h:SS w0 w gp gz cz gl M zs H m aR cR rt aC cC cr) (hs:TD w0 gp gz gl M) (hg:Below w.heap.size w w'):SS w0 w' gp gz cz gl M zs H m aR cR rt aC cC cr :=
 h.elsewhere hs (BJ.of_below (S:=fun _=>False) hg) (fun k hh=>hh.elim)
theorem SS.put {w0 w w':World} {gp gz cz gl M cR cC:Nat} {zs:List Int} {H:Nat->Ht} {m m':List HE} {aR aC:Option Addr} {rt:List Int} {cr:List P3} (h:SS w0 w gp gz cz gl M zs H m aR cR rt aC cC cr) (hs:TD w0 gp gz gl M) (hg:w.grownBy w' (some M)) (hm:Ck w' M m'):SS w0 w' gp gz cz gl M zs H m' aR cR rt aC cC cr:=by
 have ht:BJ (fun k=>k=M) w w':=BJ.of_grown hg (fun k e=>by simpa using e.symm);have nr:∀k,oB aR=some k->¬k=M:=fun k hk e=>by have:=(h.ownR k hk).1;have:=hs.m;omega
 have nc:∀k,oB aC=some k->¬k=M:=fun k hk e=>by have:=(h.ownC k hk).1;have:=hs.m;omega
 exact⟨h.tch.then ht (fun k hk hh=>.inr hh),⟨Nat.lt_of_lt_of_le h.pst.lt ht.size,(ht.cell (p:=⟨gp,0,none⟩) h.pst.lt (fun e=>hs.mp e.symm)).trans h.pst.c0,(ht.cell (p:=⟨gp,1,none⟩) h.pst.lt (fun e=>hs.mp e.symm)).trans h.pst.c1,(ht.cell (p:=⟨gp,2,none⟩) h.pst.lt (fun e=>hs.mp e.symm)).trans h.pst.c2,h.pst.words.tch ht hs.zm,h.pst.lay.tch ht hs.lm,hm⟩,h.ret.tch ht (fun e=>hs.mp e.symm) nr,(ht.cell (p:=⟨gp,3,none⟩) h.pst.lt (fun e=>hs.mp e.symm)).trans h.c3,(ht.frozen (p:=⟨gp,3,none⟩) h.pst.lt (fun e=>hs.mp e.symm)).trans h.f3,h.crow.tch ht nc,h.dif⟩
theorem SS.back {w0 w w':World} {gp gz cz gl M cR cR' cC:Nat} {zs:List Int} {H:Nat->Ht} {m:List HE} {aR aR' aC:Option Addr} {rt rt':List Int} {cr:List P3} (h:SS w0 w gp gz cz gl M zs H m aR cR rt aC cC cr) (hs:TD w0 gp gz gl M) (hg:BV w w' gp 4 (w0.heap.size+1) aR aR' cR' rt'):SS w0 w' gp gz cz gl M zs H m aR' cR' rt' aC cC cr:=by
 have nS:∀k,k<w0.heap.size->k≠gp->¬(k=gp\/oB aR=some k):=fun k hk hn hh=>by
  rcases hh with e|e
  ·exact hn e
  ·have:=(h.ownR k e).1;omega
 have nc:∀k,oB aC=some k->¬(k=gp\/oB aR=some k):=fun k hk hh=>by
  rcases hh with e|e
  ·have:=(h.ownC k hk).1;have:=hs.p;omega
  ·exact h.dif k e hk
 refine⟨h.tch.then hg.tch (fun k hk hh=>?_),⟨hg.set.lt,(hg.oth 0 (by decide)).trans h.pst.c0,(hg.oth 1 (by decide)).trans h.pst.c1,(hg.oth 2 (by decide)).trans h.pst.c2,h.pst.words.tch hg.tch (nS _ hs.z hs.zp),h.pst.lay.tch hg.tch (nS _ hs.l hs.lp),h.pst.map.tch hg.tch (nS _ hs.m hs.mp)⟩,hg.set,(hg.oth 3 (by decide)).trans h.c3,(hg.ofz 3).trans h.f3,h.crow.tch hg.tch nc,fun k hk hc=>?_⟩
 ·rcases hh with e|e
  ·exact .inl e
  ·have:=(h.ownR k e).1;omega
 ·rcases hg.own with e|⟨j,e,hj⟩
  ·exact h.dif k (by rw[<- e];exact hk) hc
  ·(have:j=k:=by rw[e] at hk;simpa using hk);have:=(h.ownC k hc).2;omega
theorem SS.make {w0 w wa w1:World} {gp gz cz gl M cR cC cC':Nat} {zs:List Int} {H:Nat->Ht} {m:List HE} {aR aC aC':Option Addr} {rt:List Int} {cr cr':List P3} (h:SS w0 w gp gz cz gl M zs H m aR cR rt aC cC cr) (hs:TD w0 gp gz gl M) (hb:Below w.heap.size w wa) (hr:A6 FL w1 (w0.heap.size+1) (.slice aC' cr'.length cC') cr') (hg:wa.grownBy w1 (oB aC)) (ho:oB aC'=oB aC\/∃j,oB aC'=some j/\w.heap.size<=j):SS w0 (w1.setCell ⟨gp,3,none⟩ (.slice aC' cr'.length cC')) gp gz cz gl M zs H m aR cR rt aC' cC' cr':=by
 have hT:BJ (fun j=>oB aC=some j) w w1:=⟨hg.os.trans hb.os,hg.tape.trans hb.tape,hg.output.trans hb.output,Nat.le_trans hb.size hg.size,fun i hi hn=>(hg.block i (Nat.lt_of_lt_of_le hi hb.size) (fun e=>hn e.symm)).trans (hb.block i hi)⟩;have hw0:=h.tch.size;have nS:∀k,k<w0.heap.size->¬oB aC=some k:=fun k hk e=>by have:=(h.ownC k e).1;omega
 have hP1:Iu w1 gp gz cz gl M zs H m:=h.pst.tch hT (nS _ hs.p) (nS _ hs.z) (nS _ hs.l) (nS _ hs.m);have hR1:BI w1 gp 4 (w0.heap.size+1) aR cR rt:=h.ret.tch hT (nS _ hs.p) (fun k hk hh=>h.dif k hk hh);have h31:w1.cell? ⟨gp,3,none⟩=some (.slice aC cr.length cC):=(hT.cell (p:=⟨gp,3,none⟩) h.pst.lt (nS _ hs.p)).trans h.c3;have hf1:w1.frozen? ⟨gp,3,none⟩=false:=(hT.frozen (p:=⟨gp,3,none⟩) h.pst.lt (nS _ hs.p)).trans h.f3;have hS:BJ (fun j=>j=gp) w1 (w1.setCell ⟨gp,3,none⟩ (.slice aC' cr'.length cC')):=(BJ.refl w1).set _ _ rfl;have oth:∀i,i≠3->(w1.setCell ⟨gp,3,none⟩ (.slice aC' cr'.length cC')).cell? ⟨gp,i,none⟩=w1.cell? ⟨gp,i,none⟩:=fun i hi=>World.cell?_setCell_other _ _ _ _ (fun e=>hi (by simp only[Addr.mk.injEq,true_and,and_true] at e;exact e.symm))
 have np:∀k,oB aR=some k->¬k=gp:=fun k hk e=>by have:=(h.ownR k hk).1;have:=hs.p;omega
 have nc':∀k,oB aC'=some k->¬k=gp:=fun k hk e=>by
  rcases ho with e2|⟨j,e2,hj⟩
  ·have:=(h.ownC k (by rw[<- e2];exact hk)).1;have:=hs.p;omega
  ·(have:j=k:=by rw[e2] at hk;simpa using hk);have:=hs.p;omega
 refine⟨(h.tch.then hT (fun k hk hh=>absurd hh (nS k hk))).then hS (fun k hk hh=>.inl hh),⟨by simpa using hP1.lt,(oth 0 (by decide)).trans hP1.c0,(oth 1 (by decide)).trans hP1.c1,(oth 2 (by decide)).trans hP1.c2,hP1.words.tch hS hs.zp,hP1.lay.tch hS hs.lp,hP1.map.tch hS hs.mp⟩,⟨by simpa using hR1.lt,(oth 4 (by decide)).trans hR1.cell,by simpa using hR1.fz,hR1.row.tch hS np,hR1.off,by simpa using hR1.base⟩,World.cell?_setCell_same _ _ _ h31,by simpa using hf1,hr.tch hS nc',fun k hk hc=>?_⟩;rcases ho with e2|⟨j,e2,hj⟩
 ·exact h.dif k hk (by rw[<- e2];exact hc)
 ·have:j=k:=by rw[e2] at hc;simpa using hc
  have:=(h.ownR k hk).2;omega
end Go.Proofs.YtnmhkgmmpkjjeaaGreat
