import Derived.Test.YtnmhkgmmpkjjeacGreatG14
import Derived.Test.YtnmhkgmmpkjjeacGreatG13
import Derived.Test.YtnmhkgmmpkjjeacGreatG25
namespace Go.Proofs.YtnmhkgmmpkjjeacGreat
open Go.ChangeShapes Go.WideShapes Go.ChangeAt Go.RowKit
set_option linter.unusedVariables false
theorem implAdd_any (g:Nat) (zs:List Int) (c:Nat) (hz:OkMem zs) (hcc:zs.length<=c) (B:Nat) (hgB:g < B):∀ (d:Nat),d<=2->∀ (p:P3) (v:Value) (qs:List P3) (w:World),OkP zs d p->CRow w g zs->B<=w.heap.size->qs.length<=100000 - 10000 * d->PRow w B v qs ->
  Calls Tryz.prog 86 #[v,.agg #[.slice (some ⟨g,0,none⟩) zs.length c],.agg #[.int .i64 p.fr,.int .i64 p.lv,.int .i64 p.pg]] w fun e w'=>Grew w B v (qs ++ belowL zs (nfr zs.length) d p) e w'
 | 0,_,p,v,qs,w,hp,hg,hB,hq,hv=>by
  have hm:=nfr_mul zs.length hz.n0
  have hle:=nfr_le zs.length
  obtain ⟨a,b,c1,e,f,g1⟩:=hp
  have hl:p.lv=3:=by omega
  exact add_last g zs c p hl B hgB 100000 (by omega) v qs (by omega) w hg hB hv
 | d+1,hd,p,v,qs,w,hp,hg,hB,hq,hv=>by
  have hm:=nfr_mul zs.length hz.n0
  have hle:=nfr_le zs.length
  have hp':=hp
  obtain ⟨a,b,c1,e,f,g1⟩:=hp'
  refine add_step g zs c p p.fr.toNat (by omega) (by omega) (by omega) hcc b (by omega) f g1 (belowL zs (nfr zs.length) d) ?_ (nfr zs.length) hm.1
   (fun i hi w=>implDecode_any p.lv (wordAt zs p.fr i) (hz.rng _).1 (hz.rng _).2 w) B hgB (100000 - 10000 * (d+1)) (by omega) ?_ v qs hq w hg hB hv
  ·intro q
   have:=belowL_length zs (nfr zs.length) d q
   have:bnd d<=17:=by
    rcases (show d=0\/d=1 by omega) with rfl | rfl <;> decide
   omega
  ·intro i w v qs hi hl hg hB hq hv
   exact implAdd_any g zs c hz hcc B hgB d (by omega) (under zs p i) v qs w (okP_under hp i hi hl) hg hB (by omega) hv
theorem psOk_plist (zs:List Int) (hz:OkMem zs):PsOk zs (plist zs):=by
 have hm:=nfr_mul zs.length hz.n0
 refine ⟨plist_length zs,?_,?_⟩
 ·unfold plist
  rw [if_neg hz.n0]
  simp [belowL,downs]
 ·intro i hi
  have hmem:pAt (plist zs) i ∈ plist zs:=by
   unfold pAt
   rw [List.getD_eq_getElem?_getD,List.getElem?_eq_getElem hi]
   exact List.getElem_mem hi
  have e:plist zs=belowL zs (nfr zs.length) 2 ⟨0,1,0⟩:=by unfold plist; rw [if_neg hz.n0]
  rw [e] at hmem
  obtain ⟨d',h⟩:=belowL_ok 2 ⟨0,1,0⟩ ⟨rfl,by simp,by simp,by show (0:Int) < _; omega,by simp,by simp⟩ _ hmem
  obtain ⟨_,_,a,b,_,_⟩:=h
  refine ⟨(pAt (plist zs) i).fr.toNat,?_,?_⟩
  ·rw [e]; omega
  ·rw [e]; omega
theorem okRoot (zs:List Int) (hz:OkMem zs):OkP zs 2 ⟨0,1,0⟩:=by
 have hm:=nfr_mul zs.length hz.n0
 exact ⟨rfl,by simp,by simp,by show (0:Int) < _; omega,by simp,by simp⟩
def PlacesPost (zs:List Int) (w:World) (e:Ending) (w':World):Prop :=
 ∃ a c',e=.returned (.tuple #[.slice a (plist zs).length c',.bool (ptree zs)])/\PRow w' w.heap.size (.slice a (plist zs).length c') (plist zs)/\Below w.heap.size w w'
theorem specPlaces_any (g:Nat) (zs:List Int) (c:Nat) (hn:zs.length<=1048576) (hr:∀ i,0<=zs.getD i 0/\zs.getD i 0 < 2 ^ 64) (w:World) (hg:CRow w g zs) :
  Calls Tryz.prog 26 #[.agg #[.slice (some ⟨g,0,none⟩) zs.length c]] w fun e w'=>PlacesPost zs w e w':=by
 unfold PlacesPost ptree
 by_cases h0:nfr zs.length=0
 ·have e:plist zs=[]:=by unfold plist; rw [if_pos h0]
  rw [e]
  simp only [h0,decide_true,Bool.not_true,Bool.false_and]
  exact specPlaces_no g zs.length c hn h0 w
 ·have hz:OkMem zs:=⟨h0,hr⟩
  have hm:=nfr_mul zs.length h0
  have hle:=nfr_le zs.length
  have e:plist zs=belowL zs (nfr zs.length) 2 ⟨0,1,0⟩:=by unfold plist; rw [if_neg h0]
  simp only [h0,decide_false,Bool.not_false,Bool.true_and]
  refine specPlaces_yes g zs c (nfr zs.length) (plist zs) rfl h0 (by omega) (psOk_plist zs hz) ?_ ?_ w hg
  ·intro i k hi hk w
   exact specDecode_any _ _ (hr _).1 (hr _).2 w
  ·intro w hg
   have:=specBelow_any g zs c hz 2 (by omega) ⟨0,1,0⟩ w (okRoot zs hz) hg
   rw [<- e] at this
   exact this
theorem placesOf_any (g:Nat) (zs:List Int) (c:Nat) (hz:OkMem zs) (hcc:zs.length<=c) (w:World) (hg:CRow w g zs) :
  Calls Tryz.prog 64 #[.agg #[.slice (some ⟨g,0,none⟩) zs.length c]] w fun e w'=>∃ g' c',e=.returned (.slice (some ⟨g',0,none⟩) (plist zs).length c')/\PRow w' w.heap.size (.slice (some ⟨g',0,none⟩) (plist zs).length c') (plist zs)/\Below w.heap.size w w':=by
 have e:plist zs=belowL zs (nfr zs.length) 2 ⟨0,1,0⟩:=by unfold plist; rw [if_neg hz.n0]
 have hadd:=implAdd_any g zs c hz hcc w.heap.size hg.lt 2 (by omega) ⟨0,1,0⟩ (.slice none 0 0) []
 rw [<- e] at hadd
 have hok:=okRoot zs hz
 generalize plist zs=ps at *
 obtain ⟨wb,hwb⟩:∃ wb,wb=w.alloc (.cells #[.slice (some ⟨g,0,none⟩) zs.length c] 31):=⟨_,rfl⟩
 have hbb:Below w.heap.size w wb:=by rw [hwb]; exact (Below.refl _ _).alloc (Nat.le_refl _) _
 have hzb:wb.heap.size=w.heap.size+1:=by rw [hwb]; simp
 have h1:=hadd wb hok (hg.below hbb hg.lt) (by omega) (by simp) (World.ownsRow_nil _ _ _ _)
 have HBB:Hid (Below _ _ _):=hbb
 have HWB:Hid (wb=_):=hwb
 rw [hwb] at h1
 clear hadd hbb hwb e hok hz
 go_enter Tryz.func64,Tryz.ntmps64
 go_wp2_with fail
 refine h1.mono ?_
 rintro e w2 ⟨g2,c2,rfl,hp2,hgr2,_⟩
 have hgr2':wb.grownBy w2 none:=by rw [HWB.out]; exact hgr2
 have hb2:Below wb.heap.size wb w2:=⟨hgr2'.os,hgr2'.tape,hgr2'.output,hgr2'.size,fun k hk=>hgr2'.block k hk (by simp)⟩
 have HP2:Hid (PRow _ _ _ _):=hp2
 have HB2:Hid (Below w.heap.size w w2):=HBB.out.trans (hb2.mono (by omega))
 clear hgr2 hgr2' hb2 hp2 h1
 go_wp2_with fail
 go_ret
 exact ⟨g2,c2,rfl,HP2.out,HB2.out⟩
end Go.Proofs.YtnmhkgmmpkjjeacGreat
namespace Go.Proofs.YtnmhkgmmpkjjeacGreat
open Go.ChangeShapes Go.WideShapes Go.ChangeAt Go.RowKit
set_option linter.unusedVariables false
set_option maxRecDepth 100000
attribute [local go_sem ↓] Go.wp_at_zero Go.wp_at_succ
def ePl:Elt P3:=⟨62,3,fun p=>[.int .i64 p.fr,.int .i64 p.lv,.int .i64 p.pg],⟨0,0,0⟩,by omega,fun _=>rfl⟩
theorem PRow.e {w:World} {b:Nat} {v:Value} {ps:List P3} (h:PRow w b v ps):ERow ePl w b v ps:=h
theorem ERow.p {w:World} {b:Nat} {v:Value} {ps:List P3} (h:ERow ePl w b v ps):PRow w b v ps:=h
theorem ePl_cells {w:World} {b g c:Nat} {ps:List P3} (h:ERow ePl w b (.slice (some ⟨g,0,none⟩) ps.length c) ps) (i:Nat) (hi:i < ps.length):g < w.heap.size/\w.cell? ⟨g,i * 3,none⟩=some (.int .i64 (pAt ps i).fr)/\w.cell? ⟨g,i * 3+1,none⟩=some (.int .i64 (pAt ps i).lv)/\w.cell? ⟨g,i * 3+2,none⟩=some (.int .i64 (pAt ps i).pg):=by
 obtain ⟨a,c',e,h1⟩:=h.form
 obtain ⟨g',N,f,e2,_,hr,hN,hf⟩:=h1 (by omega)
 have hN':ps.length * 3<=N:=hN
 simp only [Value.slice.injEq] at e
 obtain ⟨e,_,_⟩:=e
 rw [e2] at e
 simp only [Option.some.injEq,Addr.mk.injEq,and_true] at e
 subst e
 refine ⟨hr.lt,?_,?_,?_⟩
 ·rw [hr.cell (i:=i * 3) (by omega)]; exact congrArg some (hf i hi 0 (by decide))
 ·rw [hr.cell (i:=i * 3+1) (by omega)]; exact congrArg some (hf i hi 1 (by decide))
 ·rw [hr.cell (i:=i * 3+2) (by omega)]; exact congrArg some (hf i hi 2 (by decide))
theorem eEn_cells {w:World} {b g c:Nat} {es:List En} (h:ERow eEn w b (.slice (some ⟨g,0,none⟩) es.length c) es) (i:Nat) (hi:i < es.length):g < w.heap.size/\w.cell? ⟨g,i * 3,none⟩=some (.int .i64 (eAt eEn es i).lv)/\w.cell? ⟨g,i * 3+1,none⟩=some (.int .i64 (eAt eEn es i).pg)/\w.cell? ⟨g,i * 3+2,none⟩=some (.int .i64 (eAt eEn es i).ad):=by
 obtain ⟨a,c',e,h1⟩:=h.form
 obtain ⟨g',N,f,e2,_,hr,hN,hf⟩:=h1 (by omega)
 have hN':es.length * 3<=N:=hN
 simp only [Value.slice.injEq] at e
 obtain ⟨e,_,_⟩:=e
 rw [e2] at e
 simp only [Option.some.injEq,Addr.mk.injEq,and_true] at e
 subst e
 refine ⟨hr.lt,?_,?_,?_⟩
 ·rw [hr.cell (i:=i * 3) (by omega)]; exact congrArg some (hf i hi 0 (by decide))
 ·rw [hr.cell (i:=i * 3+1) (by omega)]; exact congrArg some (hf i hi 1 (by decide))
 ·rw [hr.cell (i:=i * 3+2) (by omega)]; exact congrArg some (hf i hi 2 (by decide))
theorem l5Needs_any (g c b:Nat) (Hs:List Ht) (lv p:Nat) (w:World) (hl:Hs.length=4096) (h1:1<=lv) (h3:lv<=3) (hp:p+tpg lv<=4096) (h:ERow eHit w b (.slice (some ⟨g,0,none⟩) Hs.length c) Hs) :
  Calls Tryz.prog 31 #[.slice (some ⟨g,0,none⟩) 4096 c,.int .i64 lv,.int .i64 p] w fun e w'=>e=.returned (.bool (nd (hF Hs) lv p))/\Below w.heap.size w w':=by
 rcases (show lv=1\/lv=2\/lv=3 by omega) with rfl | rfl | rfl
 ·rw [nd_one]; exact l5Needs_one _ _ w
 ·exact l5Needs_2 g c b Hs p w hl hp h
 ·exact l5Needs_3 g c b Hs p w hl hp h
structure Two {α β:Type} (E:Elt α) (F:Elt β) (w wr:World) (v1 v2:Value) (l1:List α) (l2:List β):Prop where
 rows:∃ g1 c1 g2 c2:Nat,v1=.slice (some ⟨g1,0,none⟩) l1.length c1/\v2=.slice (some ⟨g2,0,none⟩) l2.length c2/\ERow E wr w.heap.size (.slice (some ⟨g1,0,none⟩) l1.length c1) l1/\ERow F wr w.heap.size (.slice (some ⟨g2,0,none⟩) l2.length c2) l2/\g1 ≠ g2
 bel:Below w.heap.size w wr
theorem Two.below {α β:Type} {E:Elt α} {F:Elt β} {w wr w1:World} {v1 v2:Value} {l1:List α} {l2:List β} (h:Two E F w wr v1 v2 l1 l2) (hb:Below wr.heap.size wr w1):Two E F w w1 v1 v2 l1 l2:=by
 obtain ⟨⟨g1,c1,g2,c2,e1,e2,h1,h2,hne⟩,hbel⟩:=h
 exact ⟨⟨g1,c1,g2,c2,e1,e2,h1.below hb,h2.below hb,hne⟩,hbel.trans (hb.mono hbel.size)⟩
theorem Two.swap {α β:Type} {E:Elt α} {F:Elt β} {w wr:World} {v1 v2:Value} {l1:List α} {l2:List β} (h:Two E F w wr v1 v2 l1 l2):Two F E w wr v2 v1 l2 l1:=by
 obtain ⟨⟨g1,c1,g2,c2,e1,e2,h1,h2,hne⟩,hbel⟩:=h
 exact ⟨⟨g2,c2,g1,c1,e2,e1,h2,h1,fun e=>hne e.symm⟩,hbel⟩
theorem Two.second {α β:Type} {E:Elt α} {F:Elt β} {w wr:World} {v1:Value} {l1:List α} (h:LSt E w wr v1 l1):Two E F w (wr.alloc (.cells #[] F.T)) v1 (.slice (some ⟨wr.heap.size,0,none⟩) 0 0) l1 []:=by
 obtain ⟨⟨g1,c1,e1,h1⟩,hbel⟩:=h
 have hb:Below wr.heap.size wr (wr.alloc (.cells #[] F.T)):=bal
 refine ⟨⟨g1,c1,wr.heap.size,0,e1,rfl,h1.below hb,?_,?_⟩,hbel.trans (hb.mono hbel.size)⟩
 ·exact (ERow.empty F wr wr.heap.size (Nat.le_refl _)).rebase hbel.size
 ·have:=(h1.own g1 rfl).2
  omega
theorem LSt.new {α:Type} (E:Elt α) (w:World):LSt E w (w.alloc (.cells #[] E.T)) (.slice (some ⟨w.heap.size,0,none⟩) 0 0) []:=⟨⟨w.heap.size,0,rfl,ERow.empty E w w.heap.size (Nat.le_refl _)⟩,bal⟩
theorem Two.push1 {α β:Type} {E:Elt α} {F:Elt β} {w w1 wn:World} {g1 c1 g1' c1':Nat} {v2:Value} {l1:List α} {l2:List β} {x:α} {o:Obj} (h:Two E F w w1 (.slice (some ⟨g1,0,none⟩) l1.length c1) v2 l1 l2) (hown:wn.ownsRow w.heap.size E.T E.sz (.slice (some ⟨g1',0,none⟩) (l1.length+1) c1') (l1.length+1) (ecells E l1 ++ E.enc x)) (hgrow:(w1.alloc o).grownBy wn (Value.ownBlock (.slice (some ⟨g1,0,none⟩) l1.length c1))) (hat:Value.ownBlock (.slice (some ⟨g1,0,none⟩) l1.length c1)=some g1'\/g1'=w1.heap.size+1) :
  Two E F w wn (.slice (some ⟨g1',0,none⟩) (l1.length+1) c1') v2 (l1 ++ [x]) l2:=by
 obtain ⟨⟨g,c,g2,c2,e1,e2,h1,h2,hne⟩,hbel⟩:=h
 simp only [Value.slice.injEq,Option.some.injEq,Addr.mk.injEq,and_true,true_and] at e1
 obtain ⟨rfl,rfl⟩:=e1
 have hg2:=(h2.own g2 rfl).2
 have h2a:ERow F (w1.alloc o) w.heap.size (.slice (some ⟨g2,0,none⟩) l2.length c2) l2:=h2.below bal
 have h2n:=h2a.kept hgrow (fun k hk e=>by
  have hk':some g2=some k:=hk
  have e':some k=some g1:=e
  rw [<- hk'] at e'
  simp only [Option.some.injEq] at e'
  exact hne e'.symm)
 refine ⟨⟨g1',c1',g2,c2,by simp,e2,?_,h2n,?_⟩,?_⟩
 ·have:=ERow.push rfl hown
  rw [List.length_append,List.length_singleton]
  exact this
 ·rcases hat with e | e
  ·have e':some g1=some g1':=e
   simp only [Option.some.injEq] at e'
   rw [<- e']
   exact hne
  ·omega
 ·exact (hbel.alloc hbel.size _).grown hgrow (by have:=hbel.size; simp; omega) (fun q hq=>(h1.own q hq).1)
theorem Two.push2 {α β:Type} {E:Elt α} {F:Elt β} {w w1 wn:World} {g2 c2 g2' c2':Nat} {v1:Value} {l1:List α} {l2:List β} {x:β} {o:Obj} (h:Two E F w w1 v1 (.slice (some ⟨g2,0,none⟩) l2.length c2) l1 l2) (hown:wn.ownsRow w.heap.size F.T F.sz (.slice (some ⟨g2',0,none⟩) (l2.length+1) c2') (l2.length+1) (ecells F l2 ++ F.enc x)) (hgrow:(w1.alloc o).grownBy wn (Value.ownBlock (.slice (some ⟨g2,0,none⟩) l2.length c2))) (hat:Value.ownBlock (.slice (some ⟨g2,0,none⟩) l2.length c2)=some g2'\/g2'=w1.heap.size+1) :
  Two E F w wn v1 (.slice (some ⟨g2',0,none⟩) (l2.length+1) c2') l1 (l2 ++ [x]):=(Two.push1 h.swap hown hgrow hat).swap
theorem Two.open1 {α β:Type} {E:Elt α} {F:Elt β} {w wr:World} {v1 v2:Value} {l1:List α} {l2:List β} (h:Two E F w wr v1 v2 l1 l2):∃ g c:Nat,v1=.slice (some ⟨g,0,none⟩) l1.length c/\ERow E wr w.heap.size (.slice (some ⟨g,0,none⟩) l1.length c) l1:=by
 obtain ⟨⟨g1,c1,g2,c2,e1,e2,h1,h2,hne⟩,hbel⟩:=h
 exact ⟨g1,c1,e1,h1⟩
theorem Two.open2 {α β:Type} {E:Elt α} {F:Elt β} {w wr:World} {v1 v2:Value} {l1:List α} {l2:List β} (h:Two E F w wr v1 v2 l1 l2):∃ g c:Nat,v2=.slice (some ⟨g,0,none⟩) l2.length c/\ERow F wr w.heap.size (.slice (some ⟨g,0,none⟩) l2.length c) l2:=h.swap.open1
def keptTo (H:Nat->Ht) (ps:List P3) (k:Nat):List P3:=keptL H (ps.take k)
def goneTo (H:Nat->Ht) (ps:List P3) (k:Nat):List P3:=goneL H (ps.take k)
theorem take_snocP (ps:List P3) (t:Nat) (h:t < ps.length):ps.take (t+1)=ps.take t ++ [pAt ps t]:=take_snocE ePl ps t h
theorem keptTo_succ (H:Nat->Ht) (ps:List P3) (k:Nat) (hk:k < ps.length):keptTo H ps (k+1)=keptTo H ps k ++ (if ndP H (pAt ps k) then [pAt ps k] else []):=by
 unfold keptTo keptL
 rw [take_snocP ps k hk,List.filter_append]
 congr 1
 cases h:ndP H (pAt ps k) <;> simp [h]
theorem goneTo_succ (H:Nat->Ht) (ps:List P3) (k:Nat) (hk:k < ps.length):goneTo H ps (k+1)=goneTo H ps k ++ (if ndP H (pAt ps k) then [] else [pAt ps k]):=by
 unfold goneTo goneL
 rw [take_snocP ps k hk,List.filter_append]
 congr 1
 cases h:ndP H (pAt ps k) <;> simp [h]
theorem keptTo_len (H:Nat->Ht) (ps:List P3) (k:Nat):(keptTo H ps k).length<=ps.length:=by
 unfold keptTo keptL
 exact Nat.le_trans (List.length_filter_le _ _) (by rw [List.length_take]; omega)
theorem goneTo_len (H:Nat->Ht) (ps:List P3) (k:Nat):(goneTo H ps k).length<=ps.length:=by
 unfold goneTo goneL
 exact Nat.le_trans (List.length_filter_le _ _) (by rw [List.length_take]; omega)
theorem keptTo_all (H:Nat->Ht) (ps:List P3):keptTo H ps ps.length=keptL H ps:=by unfold keptTo; rw [List.take_length]
theorem goneTo_all (H:Nat->Ht) (ps:List P3):goneTo H ps ps.length=goneL H ps:=by unfold goneTo; rw [List.take_length]
theorem PlcOk.nat {n:Int} {ps:List P3} (h:PlcOk n ps) {q:P3} (hq:q ∈ ps):∃ lv pg:Nat,q.lv=lv/\q.pg=pg/\1<=lv/\lv<=3/\pg+tpg lv<=4096:=by
 rcases h.mem q hq with e | ⟨i,hi,e,hp,_⟩ | ⟨i,j,hi,hj,e,hp,_⟩
 ·exact ⟨1,0,by rw [e]; rfl,by rw [e]; rfl,by decide,by decide,by decide⟩
 ·exact ⟨2,i * 256,e,hp,by decide,by decide,show i * 256+256<=4096 by omega⟩
 ·exact ⟨3,i * 256+j * 16,e,hp,by decide,by decide,show i * 256+j * 16+16<=4096 by omega⟩
theorem plcOk_plist (zs:List Int) (h:nfr zs.length ≠ 0):PlcOk (nfr zs.length) (plist zs):=by
 unfold plist
 rw [if_neg h]
 exact plcOk_below zs (nfr zs.length)
theorem ptree_nfr {zs:List Int} (h:ptree zs=true):nfr zs.length ≠ 0:=by
 unfold ptree at h
 simp at h
 exact h.1
end Go.Proofs.YtnmhkgmmpkjjeacGreat
namespace Go.Proofs.YtnmhkgmmpkjjeacGreat
open Go.ChangeShapes Go.WideShapes Go.ChangeAt Go.RowKit
set_option linter.unusedVariables false
attribute [local go_sem ↓] Go.wp_at_zero Go.wp_at_succ
set_option maxHeartbeats 1000000 in
theorem sound_any (g:Nat) (zs:List Int) (c:Nat) (p:P3) (F:Nat) (hF:p.fr=F) (hF2:F * 16+16<=zs.length) (hlen:zs.length<=8192) (hcc:zs.length<=c) (n:Int) (hn:n * 16=zs.length)
  (hd:∀ i,i < 16->∀ w,Calls Tryz.prog 122 #[.int .i64 p.lv,.int .u64 (wordAt zs p.fr i)] w fun e w'=>e=.returned (.agg #[.int .i64 (dKind p.lv (wordAt zs p.fr i)),.int .i64 (dOut p.lv (wordAt zs p.fr i)),.int .i64 (dPerm p.lv (wordAt zs p.fr i))])/\Below w.heap.size w w')
  (w:World) (hg:CRow w g zs) :
  Calls Tryz.prog 87 #[.agg #[.slice (some ⟨g,0,none⟩) zs.length c],.agg #[.int .i64 p.fr,.int .i64 p.lv,.int .i64 p.pg]] w fun e w'=>e=.returned (.bool (soundP zs n p))/\Below w.heap.size w w':=by
 obtain ⟨w2,hw2⟩:∃ w2,w2=(w.alloc (.cells #[.slice (some ⟨g,0,none⟩) zs.length c] 31)).alloc (.cells #[.int .i64 p.fr,.int .i64 p.lv,.int .i64 p.pg] 62):=⟨_,rfl⟩
 have hz2:w2.heap.size=w.heap.size+2:=by rw [hw2]; simp
 have hb2:Below w.heap.size w w2:=by rw [hw2]; exact ((Below.refl _ _).alloc (Nat.le_refl _) _).alloc (by simp) _
 have q0:w2.cell? ⟨w.heap.size,0,none⟩=some (.slice (some ⟨g,0,none⟩) zs.length c):=by rw [hw2]; simp [go_sem]
 have q2:w2.cell? ⟨w.heap.size+1,1,none⟩=some (.int .i64 p.lv):=by rw [hw2]; simp [go_sem]
 have htab:=tableAt_any g zs c F hF2 hlen hcc w2 (hg.below hb2 hg.lt)
 rw [hw2,<- hF] at htab
 have HQ:Hid (w2.cell? ⟨w.heap.size,0,none⟩=some (.slice (some ⟨g,0,none⟩) zs.length c)/\w2.cell? ⟨w.heap.size+1,1,none⟩=some (.int .i64 p.lv)):=⟨q0,q2⟩
 have HZ:Hid (w2.heap.size=w.heap.size+2):=hz2
 have HW2:Hid (w2=_):=hw2
 have HB2:Hid (Below _ _ _):=hb2
 have HD:Hid _:=hd
 have HF:Hid (p.fr=F):=hF
 clear hz2 hw2 hb2 q0 q2 hd hF hg
 go_enter Tryz.func87,Tryz.ntmps87
 go_wp2_with fail
 refine htab.mono ?_
 rintro e wt ⟨⟨T,rfl,hTs,hT⟩,hbt⟩
 have hbt2:Below w2.heap.size w2 wt:=by rw [HW2.out]; exact hbt
 have HT:Hid _:=hT
 clear htab hT hTs hbt
 go_wp2_with fail
 go_loopw [12] (fun iv wr=>∃ k:Nat,k<=16/\iv=.int .i64 k/\(List.range k).all (soundW zs n p)=true/\Below w2.heap.size w2 wr) (fun iv _=>16 - (intOf iv).toNat)
 case atStart=>exact ⟨0,by omega,rfl,rfl,hbt2⟩
 case round =>
  obtain ⟨k,hk,rfl,hall,hb⟩:=hrel
  have hsz:=hb.size
  have hz:=HZ.out
  by_cases hlt:k < 16
  ·obtain ⟨q0,q2⟩:=HQ.out
   have c0:=(hb.cell (p:=⟨w.heap.size,0,none⟩) (by simp; omega)).trans q0
   have c2:=(hb.cell (p:=⟨w.heap.size+1,1,none⟩) (by simp; omega)).trans q2
   have hTk:=HT.out k hlt
   have ew:zs.getD (F * 16+k) 0=wordAt zs p.fr k:=by simp [wordAt,HF.out]; congr 1
   rw [ew] at hTk
   have hdk:=HD.out k hlt
   have dO:=dOut_lo p.lv (wordAt zs p.fr k)
   have hsw:=all_range_succ (soundW zs n p) k
   rw [hall,Bool.true_and] at hsw
   have hfa:soundW zs n p k=false->soundP zs n p=false:=fun h=>by rw [soundP,all_range_false _ k 16 hlt h]
   have hsk:soundW zs n p k=!(decide (dKind p.lv (wordAt zs p.fr k)=4) || (decide (dKind p.lv (wordAt zs p.fr k)=1) && decide (n<=dOut p.lv (wordAt zs p.fr k)))):=rfl
   have HSW:Hid _:=hsw
   have HFA:Hid _:=hfa
   have HBk:Hid (Below _ _ _):=hb
   have N0:w.heap.size+2<=wr.heap.size:=by omega
   clear ew hsw hfa hall hb q0 q2 hz hsz hbt2
   generalize wordAt zs p.fr k=X at *
   generalize dKind p.lv X=K at *
   generalize dOut p.lv X=O at *
   generalize dPerm p.lv X=M at *
   have HSK:Hid _:=hsk
   have hix:=run_index_tab T k hlt X hTk
   have hfr:=hasFrame_any (some ⟨g,0,none⟩) zs.length c O n hn dO.1 hlen
   have L1:(0:Int)<=(k:Int):=by omega
   have L2:(k:Int) < 16:=by omega
   clear hsk hTk
   go_wp2_with fail
   refine (hdk wr).mono ?_
   rintro e w1 ⟨rfl,hb1⟩
   have hs1:=hb1.size
   have e0:=(hb1.cell (p:=⟨w.heap.size,0,none⟩) (by simp; omega)).trans c0
   have N1:w.heap.size < w1.heap.size:=by omega
   have hbw:Below w2.heap.size w2 (w1.alloc (.cells #[.int .i64 K,.int .i64 O,.int .i64 M] 106)):=(HBk.out.trans (hb1.mono HBk.out.size)).alloc (by have:=HBk.out.size; omega) _
   have HBW:Hid (Below _ _ _):=hbw
   clear c0 c2 hdk hix hb1 hbw
   by_cases hK4:K=4
   ·subst hK4
    have HFA2:Hid (soundP zs n p=false):=HFA.out (by rw [HSK.out]; simp)
    clear HFA HSW HSK
    go_wp2_with fail
    go_ret
    exact ⟨by rw [HFA2.out]; rfl,HB2.out.trans (HBW.out.mono (by have:=HZ.out; omega))⟩
   ·by_cases hK1:K=1
    ·subst hK1
     by_cases hO:O < n
     ·have hO':decide (O < n)=true:=by simpa using hO
      rw [hO'] at hfr
      have HST:Hid ((List.range (k+1)).all (soundW zs n p)=true):=by
       exact (show _=true by rw [HSW.out,HSK.out]; simp; omega)
      clear HFA HSW HSK
      go_wp2_with (go_at_call 123; refine (hfr _).mono ?_; rintro e w4 ⟨rfl,hb4⟩)
      go_roundw
      case rel=>exact ⟨k+1,by omega,by go_num,HST.out,HBW.out.trans (hb4.mono (by have:=HBW.out.size; omega))⟩
      case measure=>simp [intOf]; omega
     ·have hO':decide (O < n)=false:=by simpa using hO
      rw [hO'] at hfr
      have HFA2:Hid (soundP zs n p=false):=HFA.out (by rw [HSK.out]; simp; omega)
      clear HFA HSW HSK
      go_wp2_with (go_at_call 123; refine (hfr _).mono ?_; rintro e w4 ⟨rfl,hb4⟩)
      go_ret
      exact ⟨by rw [HFA2.out]; rfl,HB2.out.trans ((HBW.out.trans (hb4.mono (by have:=HBW.out.size; omega))).mono (by have:=HZ.out; omega))⟩
    ·have hK4':(K == 4)=false:=by simpa using hK4
     have hK1':(K == 1)=false:=by simpa using hK1
     have HST:Hid ((List.range (k+1)).all (soundW zs n p)=true):=by
      exact (show _=true by rw [HSW.out,HSK.out]; simp [hK4,hK1])
     clear HFA HSW HSK
     go_wp2_with fail
     go_roundw
     case rel=>exact ⟨k+1,by omega,by go_num,HST.out,HBW.out⟩
     case measure=>simp [intOf]; omega
  ·have e:k=16:=by omega
   subst e
   have hS:soundP zs n p=true:=hall
   have HS:Hid _:=hS
   clear hS hall
   go_wp2_with fail
   go_ret
   exact ⟨by rw [HS.out]; rfl,HB2.out.trans (hb.mono (by omega))⟩
theorem zero512:Tryz.zeroCells151=Array.replicate 512 (.bool false):=by kernel_rfl
def seen (ps:List P3) (i:Nat) (f:Nat):Bool:=(List.range i).any fun j=>decide ((pAt ps j).fr=(f:Int))
theorem seen_succ (ps:List P3) (i f:Nat):seen ps (i+1) f=(seen ps i f || decide ((pAt ps i).fr=(f:Int))):=by
 simp [seen,List.range_succ,List.any_append]
theorem seen_fresh (ps:List P3) (i F:Nat) (h:(pAt ps i).fr=F):freshP ps i=!seen ps i F:=by
 simp only [freshP,seen,h,List.not_any_eq_all_not]
 congr 1
 funext j
 by_cases e:(F:Int)=(pAt ps j).fr
 ·simp [e]
 ·simp [e]
  exact fun h=>e h.symm
set_option maxHeartbeats 1000000 in
set_option maxRecDepth 100000 in
theorem isTree_any (g:Nat) (zs:List Int) (c:Nat) (ps:List P3) (hps:PsOk zs ps) (hlen:zs.length<=8192) (hcc:zs.length<=c) (n:Int) (hn:n * 16=zs.length)
  (hsd:∀ i w,i < ps.length->CRow w g zs->Calls Tryz.prog 87 #[.agg #[.slice (some ⟨g,0,none⟩) zs.length c],.agg #[.int .i64 (pAt ps i).fr,.int .i64 (pAt ps i).lv,.int .i64 (pAt ps i).pg]] w fun e w'=>e=.returned (.bool (soundP zs n (pAt ps i)))/\Below w.heap.size w w')
  (v:Value) (bv:Nat) (w:World) (hg:CRow w g zs) (hv:PRow w bv v ps) :
  Calls Tryz.prog 65 #[.agg #[.slice (some ⟨g,0,none⟩) zs.length c],v] w fun e w'=>e=.returned (.bool (treeTo zs n ps ps.length))/\Below w.heap.size w w':=by
 obtain ⟨a3,c3,rfl,hform⟩:=hv.form
 obtain ⟨gp,N,f,rfl,_,hrw,hN,hpa⟩:=hform hps.pos
 have hpl:=hps.le
 obtain ⟨wb,hwb⟩:∃ wb,wb=w.alloc (.cells #[.slice (some ⟨g,0,none⟩) zs.length c] 31):=⟨_,rfl⟩
 have hzb:wb.heap.size=w.heap.size+1:=by rw [hwb]; simp
 have hbb:Below w.heap.size w wb:=by rw [hwb]; exact (Below.refl _ _).alloc (Nat.le_refl _) _
 have qb:wb.cell? ⟨w.heap.size,0,none⟩=some (.slice (some ⟨g,0,none⟩) zs.length c):=by rw [hwb]; simp [go_sem]
 have HPR:Hid (w.rowIs gp 62 N f/\ps.length * 3<=N/\∀ i,i < ps.length->f (i * 3)=.int .i64 (pAt ps i).fr/\f (i * 3+1)=.int .i64 (pAt ps i).lv/\f (i * 3+2)=.int .i64 (pAt ps i).pg):=⟨hrw,hN,hpa⟩
 have HG:Hid (CRow w g zs):=hg
 have HPS:Hid (PsOk zs ps):=hps
 have HSD:Hid _:=hsd
 have HWB:Hid (wb=_):=hwb
 have HZB:Hid (wb.heap.size=w.heap.size+1):=hzb
 have HBB:Hid (Below _ _ _):=hbb
 have HQB:Hid (wb.cell? ⟨w.heap.size,0,none⟩=some (.slice (some ⟨g,0,none⟩) zs.length c)):=qb
 clear hv hform hrw hN hpa hg hps hsd hwb hzb hbb qb
 go_enter Tryz.func65,Tryz.ntmps65
 go_wp2_with fail
 go_loopw [10] (fun iv wr=>∃ i:Nat,i<=ps.length/\iv=.int .i64 i/\treeTo zs n ps i=true/\wr.rowIs (w.heap.size+1) 151 512 (fun q=>.bool (seen ps i q))/\Below (w.heap.size+1) wb wr) (fun iv _=>ps.length - (intOf iv).toNat)
 case atStart =>
  refine ⟨0,Nat.zero_le _,rfl,rfl,?_,?_⟩
  ·have h:=World.rowIs_alloc wb Tryz.zeroCells151 151 (fun q=>.bool (seen ps 0 q)) (by
    intro i hi
    rw [zero512] at hi ⊢
    rw [Array.getElem?_eq_getElem hi]
    simp [seen])
   rw [HZB.out,HWB.out] at h
   rw [zero512,Array.size_replicate] at h
   rw [zero512]
   exact h
  ·rw [HWB.out]
   exact (Below.refl (w.heap.size+1) _).alloc (by simp) _
 case round =>
  obtain ⟨i,hi,rfl,htr,hrch,hb⟩:=hrel
  by_cases hlt:i < ps.length
  ·obtain ⟨hrw,hN,hpa⟩:=HPR.out
   obtain ⟨F,hF,hF2⟩:=HPS.out.ok i hlt
   have hbw:Below w.heap.size w wr:=HBB.out.trans (hb.mono (by omega))
   have hr1:wr.rowIs gp _ N f:=hrw.of_block (hbw.block gp hrw.lt)
   obtain ⟨x1,x2,x3⟩:=hpa i hlt
   have k1:=hr1.cell (i:=i * 3) (by omega)
   have k2:=hr1.cell (i:=i * 3+1) (by omega)
   have k3:=hr1.cell (i:=i * 3+2) (by omega)
   rw [x1,hF] at k1
   rw [x2] at k2
   rw [x3] at k3
   have hgr:CRow wr g zs:=HG.out.below hbw HG.out.lt
   have c0:=(hb.cell (p:=⟨w.heap.size,0,none⟩) (by simp)).trans HQB.out
   have rF:=hrch.cell (i:=F) (by omega)
   have fF:=hrch.frozen F
   have hsd:=HSD.out i
   rw [hF] at hsd
   have hfs:=seen_fresh ps i F hF
   have hsu:=treeTo_succ zs n ps i
   rw [htr,Bool.true_and,hfs] at hsu
   have htf:(freshP ps i && soundP zs n (pAt ps i))=false->treeTo zs n ps ps.length=false:=treeTo_false zs n ps i _ hlt
   rw [hfs] at htf
   have hss:∀ q,seen ps (i+1) q=(seen ps i q || decide ((F:Int)=(q:Int))):=fun q=>by rw [seen_succ,hF]
   have hrl:=hrch.lt
   have HRCH:Hid (wr.rowIs (w.heap.size+1) _ 512 _):=hrch
   have HB:Hid (Below (w.heap.size+1) wb wr):=hb
   have HSS:Hid _:=hss
   have HSU:Hid _:=hsu
   have HTF:Hid _:=htf
   have HGR:Hid (CRow _ _ _):=hgr
   have HSDI:Hid _:=hsd
   have I1:(0:Int)<=(i:Int):=by omega
   have I2:(i:Int) < (ps.length:Int):=by omega
   have F1:(F:Int) < 512:=by omega
   have N1:w.heap.size < wr.heap.size:=by omega
   clear hrw hpa x1 x2 x3 hr1 hgr hsd hfs hsu htf hss hrch hb hbw htr hF HPR HSD
   generalize (pAt ps i).lv=L at *
   generalize (pAt ps i).pg=G at *
   generalize soundP zs n (pAt ps i)=S at *
   cases hsn:seen ps i F
   ·rw [hsn] at rF
    go_wp2_with fail
    refine (HSDI.out _ hlt ?_).mono ?_
    ·exact HGR.out.of_block (Below.heap_alloc _ _ _ HGR.out.lt)
    rintro e w4 ⟨rfl,hb4⟩
    have hs4:=hb4.size
    simp at hs4
    have hrow4:w4.rowIs (w.heap.size+1) 151 512 (fun q=>.bool (seen ps i q)):=(HRCH.out.alloc (.cells #[.int .i64 F,.int .i64 L,.int .i64 G] 62)).of_block (hb4.block _ (by simp; omega))
    have hb5:Below (w.heap.size+1) wb w4:=(HB.out.alloc (by omega) (.cells #[.int .i64 F,.int .i64 L,.int .i64 G] 62)).trans (hb4.mono (by simp; omega))
    have p1:w4.cell? ⟨wr.heap.size,0,none⟩=some (.int .i64 F):=by rw [hb4.cell (by simp)]; simp [go_sem]
    have r1:=hrow4.cell (i:=F) (by omega)
    have f1:=hrow4.frozen F
    have HR4:Hid (w4.rowIs (w.heap.size+1) _ 512 _):=hrow4
    have HB5:Hid (Below _ wb w4):=hb5
    clear hrow4 hb5 hb4 k1 k2 k3 c0 rF fF
    cases S
    ·have HFA2:Hid (treeTo zs n ps ps.length=false):=HTF.out (by simp)
     go_wp2_with fail
     go_ret
     exact ⟨by rw [HFA2.out]; rfl,HBB.out.trans (HB5.out.mono (by omega))⟩
    ·have HT2:Hid (treeTo zs n ps (i+1)=true):=by
      exact (show _=true by rw [HSU.out,hsn]; rfl)
     clear hsn
     go_wp2_with fail
     go_roundw
     case rel =>
      refine ⟨i+1,by omega,by go_num,HT2.out,?_,HB5.out.setCell (by simp) _⟩
      refine (HR4.out.set F _).congr ?_
      intro q hq
      rw [HSS.out q]
      by_cases e:q=F
      ·subst e; simp
      ·rw [if_neg e]; simp [show ¬ (F:Int)=(q:Int) by omega]
     case measure=>simp [intOf]; omega
   ·rw [hsn] at rF
    have HFA2:Hid (treeTo zs n ps ps.length=false):=HTF.out (by rw [hsn]; rfl)
    clear hsn
    go_wp2_with fail
    go_ret
    exact ⟨by rw [HFA2.out]; rfl,HBB.out.trans ((HB.out.mono (by omega)).alloc (by omega) _)⟩
  ·have e:i=ps.length:=by omega
   subst e
   have HT:Hid _:=htr
   clear htr
   go_wp2_with fail
   go_ret
   exact ⟨by rw [HT.out]; rfl,HBB.out.trans (hb.mono (by omega))⟩
end Go.Proofs.YtnmhkgmmpkjjeacGreat
