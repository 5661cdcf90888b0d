import Derived.Test.YtnmhkgmmpkjjeaaG04
import Derived.Test.YtnmhkgmmpkjjeaaG03
import Derived.Test.YtnmhkgmmpkjjeaaG17
import Derived.Test.YtnmhkgmmpkjjeaaG00
import Derived.Test.YtnmhkgmmpkjjeaaG07
import Derived.Test.YtnmhkgmmpkjjeaaG13
namespace Go.Proofs.Ytnmhkgmmpkjjeaa
open Go.ChangeShapes Go.WideShapes Go.ChangeAt Go.RowKit
set_option linter.unusedVariables false
theorem encI_bd (l k o p:Int):0<=encI l k o p/\encI l k o p < 2 ^ 64:=by
 unfold encI
 split
 ·rename_i h
  obtain ⟨_,h1,h2,h3,h4,_⟩:=h
  unfold encW
  split <;> omega
 ·omega
def Wrd (zs:List Int):Prop:=∀ i,0<=zs.getD i 0/\zs.getD i 0 < 2 ^ 64
theorem getD_set (zs:List Int) (i j:Nat) (v:Int):(zs.set i v).getD j 0=if j=i/\i < zs.length then v else zs.getD j 0:=by
 simp only [List.getD_eq_getElem?_getD,List.getElem?_set]
 by_cases e:i=j
 ·subst e
  by_cases h:i < zs.length
  ·simp [h]
  ·simp [h]
 ·simp [e,Ne.symm e]
theorem Wrd.set {zs:List Int} (h:Wrd zs) (i:Nat) (v:Int) (h0:0<=v) (h1:v < 2 ^ 64):Wrd (zs.set i v):=by
 intro j
 rw [getD_set]
 split
 ·exact ⟨h0,h1⟩
 ·exact h j
theorem getD_app (l:List Int) (x:Int) (i:Nat):(l ++ [x]).getD i 0=if i=l.length then x else l.getD i 0:=by
 simp only [List.getD_eq_getElem?_getD]
 by_cases h:i < l.length
 ·rw [List.getElem?_append_left h,if_neg (by omega)]
 ·by_cases e:i=l.length
  ·subst e; simp
  ·rw [List.getElem?_eq_none (by simp; omega),List.getElem?_eq_none (by omega),if_neg e]
structure DS where
 zs:List Int
 lv:List Int
 fr:List Int
 p:Nat
def dA (cs:List Int) (s:DS):Nat:=(tkV cs s.p s.lv.length).toNat
def dAt (cs:List Int) (s:DS):Nat:=(s.fr.getD (dA cs s) 0 * 16+tkV cs (s.p+1) 16).toNat
def dt1 (cs:List Int) (f:Nat) (s:DS):DS :=
 if s.lv.getD (dA cs s) 0 < 3/\s.zs.getD (dAt cs s) 0=0 then ⟨s.zs.set (dAt cs s) (encI (s.lv.getD (dA cs s) 0) 1 f 0),s.lv ++ [s.lv.getD (dA cs s) 0+1],s.fr ++ [(f:Int)],s.p+2⟩ else ⟨s.zs,s.lv,s.fr,s.p+2⟩
def dtA (cs:List Int) (s:DS):Nat->DS
 | 0=>s
 | k+1=>dt1 cs (k+1) (dtA cs s k)
structure DOk (N p0 k:Nat) (s:DS):Prop where
 len:s.zs.length=N
 same:s.fr.length=s.lv.length
 pos:1<=s.lv.length
 le:s.lv.length<=k+1
 lev:∀ i,i < s.lv.length->1<=s.lv.getD i 0/\s.lv.getD i 0<=3
 frm:∀ i,i < s.lv.length->0<=s.fr.getD i 0/\s.fr.getD i 0<=k
 wrd:Wrd s.zs
 pl:s.p=p0+2 * k
theorem DOk.step {cs:List Int} {N p0 k:Nat} {s:DS} (h:DOk N p0 k s) (hc:Byt cs) (hp:p0+2 * k<=900000):DOk N p0 (k+1) (dt1 cs (k+1) s):=by
 have hA:=tkV_bd cs s.p s.lv.length (by have:=h.pos; omega) hc (by have:=h.pl; omega)
 have hA1:dA cs s < s.lv.length:=by unfold dA; omega
 have hl:=h.lev _ hA1
 unfold dt1
 split
 ·refine ⟨by simp [h.len],by simp [h.same],by simp,by have:=h.le; simp; omega,fun i hi=>?_,fun i hi=>?_,h.wrd.set _ _ (encI_bd _ _ _ _).1 (encI_bd _ _ _ _).2,by have:=h.pl; show s.p+2=_; omega⟩
  ·show 1<=(s.lv ++ [s.lv.getD (dA cs s) 0+1]).getD i 0/\(s.lv ++ [s.lv.getD (dA cs s) 0+1]).getD i 0<=3
   rw [getD_app]
   split
   ·omega
   ·exact h.lev i (by simp at hi; omega)
  ·show 0<=(s.fr ++ [((k+1:Nat):Int)]).getD i 0/\(s.fr ++ [((k+1:Nat):Int)]).getD i 0<=((k+1:Nat):Int)
   rw [getD_app]
   split
   ·omega
   ·have:=h.frm i (by simp at hi; have:=h.same; omega)
    omega
 ·refine ⟨h.len,h.same,h.pos,by have:=h.le; show s.lv.length<=_; omega,h.lev,fun i hi=>?_,h.wrd,by have:=h.pl; show s.p+2=_; omega⟩
  have:=h.frm i hi
  show 0<=s.fr.getD i 0/\s.fr.getD i 0<=((k+1:Nat):Int)
  omega
theorem DOk.all {cs:List Int} {N p0:Nat} {s:DS} (h:DOk N p0 0 s) (hc:Byt cs):∀ k,p0+2 * k<=900000->DOk N p0 k (dtA cs s k)
 | 0,_=>h
 | k+1,hp=>(DOk.all h hc k (by omega)).step hc (by omega)
def dWord (l b:Int):Int:=if l=2 then encI 2 2 (b * 16) (b % 7+1) else encI 3 3 (b * 3) (b % 7+1)
theorem dWord_bd (l b:Int):0<=dWord l b/\dWord l b < 2 ^ 64:=by
 unfold dWord
 split <;> exact encI_bd _ _ _ _
def dAt2 (cs:List Int) (f:Int) (p:Nat):Nat:=(f * 16+tkV cs p 16).toNat
def dt2a (cs:List Int) (l f:Int) (s:List Int × Nat):List Int × Nat :=
 if 1 < l/\s.1.getD (dAt2 cs f s.2) 0=0 then (s.1.set (dAt2 cs f s.2) (dWord l (tkV cs (s.2+1) 4096)),s.2+2) else (s.1,s.2+1)
def dt2b (cs:List Int) (f:Int) (k p:Nat) (zs:List Int):List Int :=
 if k=4/\zs.getD (dAt2 cs f p) 0=0/\tkV cs p 16 % 2=0 then zs.set (dAt2 cs f p) (tkV cs p 16 * 4) else zs
def dt2 (cs:List Int) (l f:Int) (k:Nat) (s:List Int × Nat):List Int × Nat:=(dt2b cs f k s.2 (dt2a cs l f s).1,(dt2a cs l f s).2)
def dtB (cs:List Int) (l f:Int) (s:List Int × Nat):Nat->List Int × Nat
 | 0=>s
 | k+1=>dt2 cs l f k (dtB cs l f s k)
def dtC (cs:List Int) (lv fr:List Int) (s:List Int × Nat):Nat->List Int × Nat
 | 0=>s
 | i+1=>dtB cs (lv.getD i 0) (fr.getD i 0) (dtC cs lv fr s i) 5
structure EOk (N P:Nat) (s:List Int × Nat):Prop where
 len:s.1.length=N
 wrd:Wrd s.1
 pl:s.2<=P
theorem EOk.a {cs:List Int} {N P:Nat} {s:List Int × Nat} (l f:Int) (h:EOk N P s):EOk N (P+2) (dt2a cs l f s):=by
 unfold dt2a
 have:=h.pl
 split
 ·exact ⟨by simp [h.len],h.wrd.set _ _ (dWord_bd _ _).1 (dWord_bd _ _).2,by show s.2+2<=_; omega⟩
 ·exact ⟨h.len,h.wrd,by show s.2+1<=_; omega⟩
theorem EOk.step {cs:List Int} {N P:Nat} {s:List Int × Nat} (l f:Int) (k:Nat) (hc:Byt cs) (h:EOk N P s) (hP:P<=900000):EOk N (P+2) (dt2 cs l f k s):=by
 have ha:=h.a (cs:=cs) l f
 have hb:=tkV_bd cs s.2 16 (by omega) hc (by have:=h.pl; omega)
 unfold dt2 dt2b
 split
 ·exact ⟨by simp [ha.len],ha.wrd.set _ _ (by omega) (by omega),ha.pl⟩
 ·exact ⟨ha.len,ha.wrd,ha.pl⟩
theorem EOk.b {cs:List Int} {N P:Nat} {s:List Int × Nat} (l f:Int) (hc:Byt cs) (h:EOk N P s):∀ k,P+2 * k<=900000->EOk N (P+2 * k) (dtB cs l f s k)
 | 0,_=>h
 | k+1,hP=>by
  have:=(EOk.b l f hc h k (by omega)).step l f k hc (by omega)
  rw [show P+2 * (k+1)=P+2 * k+2 by omega]
  exact this
theorem EOk.c {cs:List Int} {N P:Nat} {s:List Int × Nat} (lv fr:List Int) (hc:Byt cs) (h:EOk N P s):∀ i,P+10 * i<=800000->EOk N (P+10 * i) (dtC cs lv fr s i)
 | 0,_=>h
 | i+1,hP=>by
  have:=(EOk.c lv fr hc h i (by omega)).b (lv.getD i 0) (fr.getD i 0) hc 5 (by omega)
  rw [show P+10 * (i+1)=P+10 * i+2 * 5 by omega]
  exact this
def dN (cs:List Int):Nat:=if 24 < 3+cs.length / 6 then 24 else 3+cs.length / 6
theorem dN_bd (cs:List Int):3<=dN cs/\dN cs<=24:=by unfold dN; split <;> omega
def dX (cs:List Int) (p:Nat):Nat:=(tkV cs p 3).toNat
def d0 (cs:List Int) (p:Nat):DS:=⟨List.replicate (16 * (dN cs+dX cs p)) 0,[1],[0],p+1⟩
def d1 (cs:List Int) (p:Nat):DS:=dtA cs (d0 cs p) (dN cs - 1)
def drawT (cs:List Int) (p:Nat):List Int × Nat:=dtC cs (d1 cs p).lv (d1 cs p).fr ((d1 cs p).zs,(d1 cs p).p) (d1 cs p).fr.length
theorem getD_replicate (n i:Nat):(List.replicate n (0:Int)).getD i 0=0:=by
 rw [List.getD_eq_getElem?_getD,List.getElem?_replicate]
 split <;> rfl
theorem d0_ok (cs:List Int) (p:Nat):DOk (16 * (dN cs+dX cs p)) (p+1) 0 (d0 cs p):=by
 refine ⟨by simp [d0],rfl,Nat.le_refl _,Nat.le_refl _,fun i hi=>?_,fun i hi=>?_,fun i=>?_,rfl⟩
 ·have:i=0:=by simp [d0] at hi; exact hi
  subst this; simp [d0]
 ·have:i=0:=by simp [d0] at hi; exact hi
  subst this; simp [d0]
 ·have e:(d0 cs p).zs.getD i 0=0:=getD_replicate _ _
  rw [e]; omega
theorem d1_ok (cs:List Int) (p:Nat) (hc:Byt cs) (hp:p<=100000):DOk (16 * (dN cs+dX cs p)) (p+1) (dN cs - 1) (d1 cs p):=(d0_ok cs p).all hc _ (by have:=dN_bd cs; omega)
theorem dX_bd (cs:List Int) (p:Nat) (hc:Byt cs) (hp:p<=100000):tkV cs p 3=dX cs p/\dX cs p < 3:=by
 have:=tkV_bd cs p 3 (by omega) hc (by omega)
 unfold dX
 omega
theorem drawT_ok (cs:List Int) (p:Nat) (hc:Byt cs) (hp:p<=100000):EOk (16 * (dN cs+dX cs p)) (p+400) (drawT cs p):=by
 have h1:=d1_ok cs p hc hp
 have hn:=dN_bd cs
 have h:=EOk.c (cs:=cs) (P:=p+49) (s:=((d1 cs p).zs,(d1 cs p).p)) (d1 cs p).lv (d1 cs p).fr hc ⟨h1.len,h1.wrd,by have:=h1.pl; show (d1 cs p).p<=_; omega⟩ (d1 cs p).fr.length (by have:=h1.le; have:=h1.same; omega)
 exact ⟨h.len,h.wrd,by have:=h.pl; have:=h1.le; have:=h1.same; show (drawT cs p).2<=_; unfold drawT; omega⟩
theorem IRow.set {w:World} {g i:Nat} {zs:List Int} {v:Int} (h:IRow w g zs) (hi:i < zs.length):IRow (w.setCell ⟨g,i,none⟩ (.int .u64 v)) g (zs.set i v):=by
 unfold IRow
 rw [List.length_set]
 refine (World.rowIs.set h i _).congr ?_
 intro j hj
 rw [getD_set]
 by_cases e:j=i
 ·rw [if_pos e,if_pos ⟨e,hi⟩]
 ·rw [if_neg e,if_neg (by simp [e])]
structure TS (w wr:World) (gw gl cl gf cf:Nat) (zs lv fr:List Int):Prop where
 bel:Below w.heap.size w wr
 wrd:IRow wr gw zs
 base:w.heap.size<=gw
 rl:ERow eInt wr w.heap.size (.slice (some ⟨gl,0,none⟩) lv.length cl) lv
 rf:ERow eInt wr w.heap.size (.slice (some ⟨gf,0,none⟩) fr.length cf) fr
 n1:gw ≠ gl
 n2:gw ≠ gf
 n3:gl ≠ gf
theorem TS.below {w wr w1:World} {gw gl cl gf cf:Nat} {zs lv fr:List Int} (h:TS w wr gw gl cl gf cf zs lv fr) (hb:Below wr.heap.size wr w1):TS w w1 gw gl cl gf cf zs lv fr :=
 ⟨h.bel.trans (hb.mono h.bel.size),h.wrd.below hb h.wrd.lt,h.base,h.rl.below hb,h.rf.below hb,h.n1,h.n2,h.n3⟩
theorem TS.put {w wr:World} {gw gl cl gf cf i:Nat} {zs lv fr:List Int} {v:Int} (h:TS w wr gw gl cl gf cf zs lv fr) (hi:i < zs.length):TS w (wr.setCell ⟨gw,i,none⟩ (.int .u64 v)) gw gl cl gf cf (zs.set i v) lv fr:=by
 have hg:wr.grownBy (wr.setCell ⟨gw,i,none⟩ (.int .u64 v)) (some gw):=eGrown_set (World.grownBy.refl _ _) i _
 refine ⟨h.bel.setCell h.base _,h.wrd.set hi,h.base,h.rl.kept hg ?_,h.rf.kept hg ?_,h.n1,h.n2,h.n3⟩
 ·intro k hk
  have:gl=k:=by simpa [Value.ownBlock] using hk
  have:=h.n1
  simp; omega
 ·intro k hk
  have:gf=k:=by simpa [Value.ownBlock] using hk
  have:=h.n2
  simp; omega
theorem TS.pushL {w wr wn:World} {gw gl cl gf cf g1 c1:Nat} {zs lv fr:List Int} {x:Int} {o:Obj} (h:TS w wr gw gl cl gf cf zs lv fr)
  (hown:wn.ownsRow w.heap.size eInt.T eInt.sz (.slice (some ⟨g1,0,none⟩) (lv.length+1) c1) (lv.length+1) (ecells eInt lv ++ eInt.enc x))
  (hgrow:(wr.alloc o).grownBy wn (Value.ownBlock (.slice (some ⟨gl,0,none⟩) lv.length cl))) (hat:Value.ownBlock (.slice (some ⟨gl,0,none⟩) lv.length cl)=some g1\/g1=(wr.alloc o).heap.size) :
  TS w wn gw g1 c1 gf cf zs (lv ++ [x]) fr:=by
 have e1:Value.ownBlock (.slice (some ⟨gl,0,none⟩) lv.length cl)=some gl:=rfl
 have hl:=h.wrd.lt
 have hfl:=(h.rf.own gf rfl).2
 have hal:Below wr.heap.size wr (wr.alloc o):=bal
 have hne:∀ q,q < wr.heap.size->q ≠ gl->q ≠ g1:=by
  intro q hq hn
  rcases hat with e | e
  ·rw [e1] at e
   have:gl=g1:=by simpa using e
   omega
  ·rw [World.size_alloc] at e; omega
 refine ⟨(h.bel.alloc h.bel.size _).grown hgrow (by have:=h.bel.size; simp; omega) (fun q hq=>(h.rl.own q hq).1),?_,h.base,?_,?_,hne _ hl h.n1,h.n2,(hne _ hfl (Ne.symm h.n3)).symm⟩
 ·refine World.rowIs.of_block (World.rowIs.of_block h.wrd (hal.block _ hl)) (hgrow.block gw (by simp; omega) ?_)
  rw [e1]; simpa using h.n1
 ·have:=erow_push rfl hown
  rw [List.length_append,List.length_singleton]
  exact this
 ·refine (h.rf.below hal).kept hgrow (fun q hq=>?_)
  have:gf=q:=by simpa [Value.ownBlock] using hq
  rw [e1]
  have:=h.n3
  simp; omega
theorem TS.pushF {w wr wn:World} {gw gl cl gf cf g1 c1:Nat} {zs lv fr:List Int} {x:Int} {o:Obj} (h:TS w wr gw gl cl gf cf zs lv fr)
  (hown:wn.ownsRow w.heap.size eInt.T eInt.sz (.slice (some ⟨g1,0,none⟩) (fr.length+1) c1) (fr.length+1) (ecells eInt fr ++ eInt.enc x))
  (hgrow:(wr.alloc o).grownBy wn (Value.ownBlock (.slice (some ⟨gf,0,none⟩) fr.length cf))) (hat:Value.ownBlock (.slice (some ⟨gf,0,none⟩) fr.length cf)=some g1\/g1=(wr.alloc o).heap.size) :
  TS w wn gw gl cl g1 c1 zs lv (fr ++ [x]):=by
 have e1:Value.ownBlock (.slice (some ⟨gf,0,none⟩) fr.length cf)=some gf:=rfl
 have hl:=h.wrd.lt
 have hll:=(h.rl.own gl rfl).2
 have hal:Below wr.heap.size wr (wr.alloc o):=bal
 have hne:∀ q,q < wr.heap.size->q ≠ gf->q ≠ g1:=by
  intro q hq hn
  rcases hat with e | e
  ·rw [e1] at e
   have:gf=g1:=by simpa using e
   omega
  ·rw [World.size_alloc] at e; omega
 refine ⟨(h.bel.alloc h.bel.size _).grown hgrow (by have:=h.bel.size; simp; omega) (fun q hq=>(h.rf.own q hq).1),?_,h.base,?_,?_,h.n1,hne _ hl h.n2,hne _ hll h.n3⟩
 ·refine World.rowIs.of_block (World.rowIs.of_block h.wrd (hal.block _ hl)) (hgrow.block gw (by simp; omega) ?_)
  rw [e1]; simpa using h.n2
 ·refine (h.rl.below hal).kept hgrow (fun q hq=>?_)
  have:gl=q:=by simpa [Value.ownBlock] using hq
  rw [e1]
  have:=h.n3
  simp; omega
 ·have:=erow_push rfl hown
  rw [List.length_append,List.length_singleton]
  exact this
end Go.Proofs.Ytnmhkgmmpkjjeaa
namespace Go.Proofs.Ytnmhkgmmpkjjeaa
open Go.ChangeShapes Go.WideShapes Go.ChangeAt Go.RowKit
set_option linter.unusedVariables false
set_option maxRecDepth 100000
attribute [local go_sem ↓] Go.wp_at_zero Go.wp_at_succ
def spW (zs:List Int) (at_:Nat) (x:Int):Int:=bits .xor .u64 (zs.getD at_ 0) (1+2 * (x % 2)+64 * (x % 3))
def spAt (zs:List Int) (at_:Nat) (x:Int):Nat:=if (plist zs).length=0 then at_ else ((pAt (plist zs) (x.toNat % (plist zs).length)).fr * 16+((at_ % 16:Nat):Int)).toNat
def spoilL (zs:List Int) (a:Int) (at_:Nat) (x:Int):List Int :=
 if a=0 then zs ++ [0] else if a=1 then [] else if a < 5 then zs.set (spAt zs at_ x) (encI 1 1 ((x+a) % ((zs.length / 16:Nat)+1)) 0)
 else zs.set at_ (spW zs at_ x)
def spoilZ (cs:List Int) (p:Nat) (zs:List Int):List Int:=spoilL zs (tkV cs p 8) (tkV cs (p+1) zs.length).toNat (tkV cs (p+2) 64)
theorem spW_bd (zs:List Int) (at_:Nat) (x:Int):0<=spW zs at_ x/\spW zs at_ x < 2 ^ 64:=by
 unfold spW
 have e:∀ u v:Int,bits .xor .u64 u v=IntKind.u64.wrap ((BitVec.ofInt 64 u ^^^ BitVec.ofInt 64 v).toNat:Int):=fun u v=>rfl
 rw [e,IntKind.wrap_u64]
 omega
theorem spoilL_ok (zs:List Int) (a:Int) (at_:Nat) (x:Int) (h:Wrd zs):Wrd (spoilL zs a at_ x)/\(spoilL zs a at_ x).length<=zs.length+1:=by
 unfold spoilL
 split
 ·refine ⟨fun i=>?_,by simp⟩
  rw [getD_app]
  split
  ·omega
  ·exact h i
 ·split
  ·exact ⟨fun i=>by simp,by simp⟩
  ·split
   ·exact ⟨h.set _ _ (encI_bd _ _ _ _).1 (encI_bd _ _ _ _).2,by simp⟩
   ·exact ⟨h.set _ _ (spW_bd _ _ _).1 (spW_bd _ _ _).2,by simp⟩
theorem ERow.setW {w:World} {b g c i:Nat} {zs:List Int} {v:Int} (h:ERow eWord w b (.slice (some ⟨g,0,none⟩) zs.length c) zs) (hi:i < zs.length):ERow eWord (w.setCell ⟨g,i,none⟩ (.int .u64 v)) b (.slice (some ⟨g,0,none⟩) zs.length c) (zs.set i v):=by
 rcases h.2 with ⟨e,h0⟩ | ⟨g',cap,cur,e,hb,hg,hn,hm,hs,ht⟩
 ·cases e
 ·simp only [Value.slice.injEq,Option.some.injEq,Addr.mk.injEq,and_true,true_and] at e
  obtain ⟨rfl,rfl⟩:=e
  obtain ⟨a,c',e',hf⟩:=eWord_form h
  simp only [Value.slice.injEq,true_and] at e'
  obtain ⟨rfl,rfl⟩:=e'
  have hr:w.rowIs g 61 cur.size (fun i=>cur.getD i (.bool false)):=⟨cur,hg,rfl,fun i hi=>by simp [hi]⟩
  have hs':cur.size=c * eWord.sz:=hs
  have hs1:cur.size=c:=by rw [hs']; show c * 1=c; omega
  refine ERow.of_row (cap:=c) (by simp) hb (hr.set i (.int .u64 v)) hs' (by simpa using hn) hm ?_
  intro j hj l hl
  have hl0:l=0:=by simp [eWord] at hl; omega
  subst hl0
  have e1:j * eWord.sz+0=j:=by show j * 1+0=j; omega
  rw [e1]
  have e2:eCell eWord (zs.set i v) j 0=.int .u64 ((zs.set i v).getD j 0):=by simp [eCell,eWord,eAt]
  rw [e2,getD_set]
  by_cases eij:j=i
  ·rw [if_pos eij,if_pos ⟨eij,hi⟩]
  ·rw [if_neg eij,if_neg (by simp [eij])]
   obtain ⟨g2,N,f,p1,_,r,s,t⟩:=hf (by omega)
   simp only [Option.some.injEq,Addr.mk.injEq,and_true] at p1
   subst p1
   have h1:=r.cell (i:=j) (by omega)
   have h2:=hr.cell (i:=j) (by omega)
   rw [h1,t j (by simpa using hj)] at h2
   exact (Option.some.inj h2).symm
theorem eword_cell {w:World} {b g c i:Nat} {zs:List Int} (h:ERow eWord w b (.slice (some ⟨g,0,none⟩) zs.length c) zs) (hi:i < zs.length):w.cell? ⟨g,i,none⟩=some (.int .u64 (zs.getD i 0))/\w.frozen? ⟨g,i,none⟩=false/\g < w.heap.size/\b<=g:=by
 obtain ⟨a,c',e',hf⟩:=eWord_form h
 simp only [Value.slice.injEq,true_and] at e'
 obtain ⟨rfl,rfl⟩:=e'
 obtain ⟨g2,N,f,p1,hb,r,s,t⟩:=hf (by omega)
 simp only [Option.some.injEq,Addr.mk.injEq,and_true] at p1
 subst p1
 exact ⟨by rw [r.cell (i:=i) (by omega),t i hi],r.frozen i,r.lt,hb⟩
theorem ERow.crow {w:World} {b g c:Nat} {zs:List Int} (h:ERow eWord w b (.slice (some ⟨g,0,none⟩) zs.length c) zs):CRow w g zs :=
 ⟨(h.own g rfl).2,fun i hi=>(eword_cell h hi).1⟩
structure CW (w wr:World) (g c k:Nat) (zs:List Int):Prop where
 bel:Below w.heap.size w wr
 row:wr.ownsRow w.heap.size 61 1 (.slice (some ⟨g,0,none⟩) k c) k (ecells eWord (zs.take k))
 le:k<=zs.length
theorem CW.all {w wr:World} {g c k:Nat} {zs:List Int} (h:CW w wr g c k zs) (hk:k=zs.length):ERow eWord wr w.heap.size (.slice (some ⟨g,0,none⟩) zs.length c) zs:=by
 subst hk
 have:=h.row
 rw [List.take_length] at this
 exact this
theorem CW.push {w wr wn:World} {g c k g1 c1:Nat} {zs:List Int} {o:Obj} (h:CW w wr g c k zs) (hk:k < zs.length)
  (hown:wn.ownsRow w.heap.size 61 1 (.slice (some ⟨g1,0,none⟩) (k+1) c1) (k+1) (ecells eWord (zs.take k) ++ [.int .u64 (zs.getD k 0)]))
  (hgrow:(wr.alloc o).grownBy wn (Value.ownBlock (.slice (some ⟨g,0,none⟩) k c))):CW w wn g1 c1 (k+1) zs:=by
 refine ⟨(h.bel.alloc h.bel.size _).grown hgrow (by have:=h.bel.size; simp; omega) (fun q hq=>(World.ownsRow.lt h.row q hq).1),?_,hk⟩
 rw [take_snocE eWord zs k hk,ecells_append]
 exact hown
end Go.Proofs.Ytnmhkgmmpkjjeaa
