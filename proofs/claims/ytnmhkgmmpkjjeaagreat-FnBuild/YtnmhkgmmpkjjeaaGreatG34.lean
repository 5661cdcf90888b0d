import Derived.Test.YtnmhkgmmpkjjeaaGreatG28
import Derived.Test.YtnmhkgmmpkjjeaaGreatG23
import Derived.Test.YtnmhkgmmpkjjeaaGreatG33
namespace Go.Proofs.YtnmhkgmmpkjjeaaGreat
open Go.ChangeShapes Go.WideShapes Go.ChangeAt Go.RowKit
set_option linter.unusedVariables false
theorem psOk_plist (zs:List Int) (hz:OkMem zs):PsOk zs (plist zs):=by
 have hm:=nfr_mul zs.length hz.n0
 refine ⟨plist_length zs,?_,?_⟩
 ·unfold plist
  rw [if_neg hz.n0]
  simp [belowL,downs]
 ·intro i hi
  have hmem:pAt (plist zs) i ∈ plist zs:=by
   unfold pAt
   rw [List.getD_eq_getElem?_getD,List.getElem?_eq_getElem hi]
   exact List.getElem_mem hi
  have e:plist zs=belowL zs (nfr zs.length) 2 ⟨0,1,0⟩:=by unfold plist; rw [if_neg hz.n0]
  rw [e] at hmem
  obtain ⟨d',h⟩:=belowL_ok 2 ⟨0,1,0⟩ ⟨rfl,by simp,by simp,by show (0:Int) < _; omega,by simp,by simp⟩ _ hmem
  obtain ⟨_,_,a,b,_,_⟩:=h
  refine ⟨(pAt (plist zs) i).fr.toNat,?_,?_⟩
  ·rw [e]; omega
  ·rw [e]; omega
theorem okRoot (zs:List Int) (hz:OkMem zs):OkP zs 2 ⟨0,1,0⟩:=by
 have hm:=nfr_mul zs.length hz.n0
 exact ⟨rfl,by simp,by simp,by show (0:Int) < _; omega,by simp,by simp⟩
def PlacesPost (zs:List Int) (w:World) (e:Ending) (w':World):Prop :=
 ∃ a c',e=.returned (.tuple #[.slice a (plist zs).length c',.bool (ptree zs)])/\PRow w' w.heap.size (.slice a (plist zs).length c') (plist zs)/\Below w.heap.size w w'
theorem specPlaces_any (g:Nat) (zs:List Int) (c:Nat) (hn:zs.length<=1048576) (hr:∀ i,0<=zs.getD i 0/\zs.getD i 0 < 2 ^ 64) (w:World) (hg:CRow w g zs) :
  Calls Tryz.prog 21 #[.agg #[.slice (some ⟨g,0,none⟩) zs.length c]] w fun e w'=>PlacesPost zs w e w':=by
 unfold PlacesPost ptree
 by_cases h0:nfr zs.length=0
 ·have e:plist zs=[]:=by unfold plist; rw [if_pos h0]
  rw [e]
  simp only [h0,decide_true,Bool.not_true,Bool.false_and]
  exact specPlaces_no g zs.length c hn h0 w
 ·have hz:OkMem zs:=⟨h0,hr⟩
  have hm:=nfr_mul zs.length h0
  have hle:=nfr_le zs.length
  have e:plist zs=belowL zs (nfr zs.length) 2 ⟨0,1,0⟩:=by unfold plist; rw [if_neg h0]
  simp only [h0,decide_false,Bool.not_false,Bool.true_and]
  refine specPlaces_yes g zs c (nfr zs.length) (plist zs) rfl h0 (by omega) (psOk_plist zs hz) ?_ ?_ w hg
  ·intro i k hi hk w
   exact specDecode_any _ _ (hr _).1 (hr _).2 w
  ·intro w hg
   have:=specBelow_any g zs c hz 2 (by omega) ⟨0,1,0⟩ w (okRoot zs hz) hg
   rw [<- e] at this
   exact this
theorem placesOf_any (g:Nat) (zs:List Int) (c:Nat) (hz:OkMem zs) (hcc:zs.length<=c) (w:World) (hg:CRow w g zs) :
  Calls Tryz.prog 88 #[.agg #[.slice (some ⟨g,0,none⟩) zs.length c]] w fun e w'=>∃ g' c',e=.returned (.slice (some ⟨g',0,none⟩) (plist zs).length c')/\PRow w' w.heap.size (.slice (some ⟨g',0,none⟩) (plist zs).length c') (plist zs)/\Below w.heap.size w w':=by
 have e:plist zs=belowL zs (nfr zs.length) 2 ⟨0,1,0⟩:=by unfold plist; rw [if_neg hz.n0]
 have hadd:=implAdd_any g zs c hz hcc w.heap.size hg.lt 2 (by omega) ⟨0,1,0⟩ (.slice none 0 0) []
 rw [<- e] at hadd
 have hok:=okRoot zs hz
 generalize plist zs=ps at *
 obtain ⟨wb,hwb⟩:∃ wb,wb=w.alloc (.cells #[.slice (some ⟨g,0,none⟩) zs.length c] 35):=⟨_,rfl⟩
 have hbb:Below w.heap.size w wb:=by rw [hwb]; exact (Below.refl _ _).alloc (Nat.le_refl _) _
 have hzb:wb.heap.size=w.heap.size+1:=by rw [hwb]; simp
 have h1:=hadd wb hok (hg.below hbb hg.lt) (by omega) (by simp) (World.ownsRow_nil _ _ _ _)
 have HBB:Hid (Below _ _ _):=hbb
 have HWB:Hid (wb=_):=hwb
 rw [hwb] at h1
 clear hadd hbb hwb e hok hz
 go_enter Tryz.func88,Tryz.ntmps88
 go_wp2_with fail
 refine h1.mono ?_
 rintro e w2 ⟨g2,c2,rfl,hp2,hgr2,_⟩
 have hgr2':wb.grownBy w2 none:=by rw [HWB.out]; exact hgr2
 have hb2:Below wb.heap.size wb w2:=⟨hgr2'.os,hgr2'.tape,hgr2'.output,hgr2'.size,fun k hk=>hgr2'.block k hk (by simp)⟩
 have HP2:Hid (PRow _ _ _ _):=hp2
 have HB2:Hid (Below w.heap.size w w2):=HBB.out.trans (hb2.mono (by omega))
 clear hgr2 hgr2' hb2 hp2 h1
 go_wp2_with fail
 go_ret
 exact ⟨g2,c2,rfl,HP2.out,HB2.out⟩
end Go.Proofs.YtnmhkgmmpkjjeaaGreat
namespace Go.Proofs.YtnmhkgmmpkjjeaaGreat
open Go.ChangeShapes Go.WideShapes Go.ChangeAt Go.RowKit
set_option linter.unusedVariables false
set_option maxRecDepth 100000
attribute [local go_sem ↓] Go.wp_at_zero Go.wp_at_succ
def ePl:Elt P3:=⟨67,3,fun p=>[.int .i64 p.fr,.int .i64 p.lv,.int .i64 p.pg],⟨0,0,0⟩,by omega,fun _=>rfl⟩
theorem PRow.e {w:World} {b:Nat} {v:Value} {ps:List P3} (h:PRow w b v ps):ERow ePl w b v ps:=h
theorem ERow.p {w:World} {b:Nat} {v:Value} {ps:List P3} (h:ERow ePl w b v ps):PRow w b v ps:=h
theorem ePl_cells {w:World} {b g c:Nat} {ps:List P3} (h:ERow ePl w b (.slice (some ⟨g,0,none⟩) ps.length c) ps) (i:Nat) (hi:i < ps.length):g < w.heap.size/\w.cell? ⟨g,i * 3,none⟩=some (.int .i64 (pAt ps i).fr)/\w.cell? ⟨g,i * 3+1,none⟩=some (.int .i64 (pAt ps i).lv)/\w.cell? ⟨g,i * 3+2,none⟩=some (.int .i64 (pAt ps i).pg):=by
 obtain ⟨a,c',e,h1⟩:=h.form
 obtain ⟨g',N,f,e2,_,hr,hN,hf⟩:=h1 (by omega)
 have hN':ps.length * 3<=N:=hN
 simp only [Value.slice.injEq] at e
 obtain ⟨e,_,_⟩:=e
 rw [e2] at e
 simp only [Option.some.injEq,Addr.mk.injEq,and_true] at e
 subst e
 refine ⟨hr.lt,?_,?_,?_⟩
 ·rw [hr.cell (i:=i * 3) (by omega)]; exact congrArg some (hf i hi 0 (by decide))
 ·rw [hr.cell (i:=i * 3+1) (by omega)]; exact congrArg some (hf i hi 1 (by decide))
 ·rw [hr.cell (i:=i * 3+2) (by omega)]; exact congrArg some (hf i hi 2 (by decide))
theorem eEn_cells {w:World} {b g c:Nat} {es:List En} (h:ERow eEn w b (.slice (some ⟨g,0,none⟩) es.length c) es) (i:Nat) (hi:i < es.length):g < w.heap.size/\w.cell? ⟨g,i * 3,none⟩=some (.int .i64 (eAt eEn es i).lv)/\w.cell? ⟨g,i * 3+1,none⟩=some (.int .i64 (eAt eEn es i).pg)/\w.cell? ⟨g,i * 3+2,none⟩=some (.int .i64 (eAt eEn es i).ad):=by
 obtain ⟨a,c',e,h1⟩:=h.form
 obtain ⟨g',N,f,e2,_,hr,hN,hf⟩:=h1 (by omega)
 have hN':es.length * 3<=N:=hN
 simp only [Value.slice.injEq] at e
 obtain ⟨e,_,_⟩:=e
 rw [e2] at e
 simp only [Option.some.injEq,Addr.mk.injEq,and_true] at e
 subst e
 refine ⟨hr.lt,?_,?_,?_⟩
 ·rw [hr.cell (i:=i * 3) (by omega)]; exact congrArg some (hf i hi 0 (by decide))
 ·rw [hr.cell (i:=i * 3+1) (by omega)]; exact congrArg some (hf i hi 1 (by decide))
 ·rw [hr.cell (i:=i * 3+2) (by omega)]; exact congrArg some (hf i hi 2 (by decide))
theorem l5Needs_any (g c b:Nat) (Hs:List Ht) (lv p:Nat) (w:World) (hl:Hs.length=4096) (h1:1<=lv) (h3:lv<=3) (hp:p+tpg lv<=4096) (h:ERow eHit w b (.slice (some ⟨g,0,none⟩) Hs.length c) Hs) :
  Calls Tryz.prog 73 #[.slice (some ⟨g,0,none⟩) 4096 c,.int .i64 lv,.int .i64 p] w fun e w'=>e=.returned (.bool (nd (hF Hs) lv p))/\Below w.heap.size w w':=by
 rcases (show lv=1\/lv=2\/lv=3 by omega) with rfl | rfl | rfl
 ·rw [nd_one]; exact l5Needs_one _ _ w
 ·exact l5Needs_2 g c b Hs p w hl hp h
 ·exact l5Needs_3 g c b Hs p w hl hp h
structure Two {α β:Type} (E:Elt α) (F:Elt β) (w wr:World) (v1 v2:Value) (l1:List α) (l2:List β):Prop where
 rows:∃ g1 c1 g2 c2:Nat,v1=.slice (some ⟨g1,0,none⟩) l1.length c1/\v2=.slice (some ⟨g2,0,none⟩) l2.length c2/\ERow E wr w.heap.size (.slice (some ⟨g1,0,none⟩) l1.length c1) l1/\ERow F wr w.heap.size (.slice (some ⟨g2,0,none⟩) l2.length c2) l2/\g1 ≠ g2
 bel:Below w.heap.size w wr
theorem Two.below {α β:Type} {E:Elt α} {F:Elt β} {w wr w1:World} {v1 v2:Value} {l1:List α} {l2:List β} (h:Two E F w wr v1 v2 l1 l2) (hb:Below wr.heap.size wr w1):Two E F w w1 v1 v2 l1 l2:=by
 obtain ⟨⟨g1,c1,g2,c2,e1,e2,h1,h2,hne⟩,hbel⟩:=h
 exact ⟨⟨g1,c1,g2,c2,e1,e2,h1.below hb,h2.below hb,hne⟩,hbel.trans (hb.mono hbel.size)⟩
theorem Two.swap {α β:Type} {E:Elt α} {F:Elt β} {w wr:World} {v1 v2:Value} {l1:List α} {l2:List β} (h:Two E F w wr v1 v2 l1 l2):Two F E w wr v2 v1 l2 l1:=by
 obtain ⟨⟨g1,c1,g2,c2,e1,e2,h1,h2,hne⟩,hbel⟩:=h
 exact ⟨⟨g2,c2,g1,c1,e2,e1,h2,h1,fun e=>hne e.symm⟩,hbel⟩
theorem Two.second {α β:Type} {E:Elt α} {F:Elt β} {w wr:World} {v1:Value} {l1:List α} (h:LSt E w wr v1 l1):Two E F w (wr.alloc (.cells #[] F.T)) v1 (.slice (some ⟨wr.heap.size,0,none⟩) 0 0) l1 []:=by
 obtain ⟨⟨g1,c1,e1,h1⟩,hbel⟩:=h
 have hb:Below wr.heap.size wr (wr.alloc (.cells #[] F.T)):=bal
 refine ⟨⟨g1,c1,wr.heap.size,0,e1,rfl,h1.below hb,?_,?_⟩,hbel.trans (hb.mono hbel.size)⟩
 ·exact (ERow.empty F wr wr.heap.size (Nat.le_refl _)).rebase hbel.size
 ·have:=(h1.own g1 rfl).2
  omega
theorem LSt.new {α:Type} (E:Elt α) (w:World):LSt E w (w.alloc (.cells #[] E.T)) (.slice (some ⟨w.heap.size,0,none⟩) 0 0) []:=⟨⟨w.heap.size,0,rfl,ERow.empty E w w.heap.size (Nat.le_refl _)⟩,bal⟩
theorem Two.push1 {α β:Type} {E:Elt α} {F:Elt β} {w w1 wn:World} {g1 c1 g1' c1':Nat} {v2:Value} {l1:List α} {l2:List β} {x:α} {o:Obj} (h:Two E F w w1 (.slice (some ⟨g1,0,none⟩) l1.length c1) v2 l1 l2) (hown:wn.ownsRow w.heap.size E.T E.sz (.slice (some ⟨g1',0,none⟩) (l1.length+1) c1') (l1.length+1) (ecells E l1 ++ E.enc x)) (hgrow:(w1.alloc o).grownBy wn (Value.ownBlock (.slice (some ⟨g1,0,none⟩) l1.length c1))) (hat:Value.ownBlock (.slice (some ⟨g1,0,none⟩) l1.length c1)=some g1'\/g1'=w1.heap.size+1) :
  Two E F w wn (.slice (some ⟨g1',0,none⟩) (l1.length+1) c1') v2 (l1 ++ [x]) l2:=by
 obtain ⟨⟨g,c,g2,c2,e1,e2,h1,h2,hne⟩,hbel⟩:=h
 simp only [Value.slice.injEq,Option.some.injEq,Addr.mk.injEq,and_true,true_and] at e1
 obtain ⟨rfl,rfl⟩:=e1
 have hg2:=(h2.own g2 rfl).2
 have h2a:ERow F (w1.alloc o) w.heap.size (.slice (some ⟨g2,0,none⟩) l2.length c2) l2:=h2.below bal
 have h2n:=h2a.kept hgrow (fun k hk e=>by
  have hk':some g2=some k:=hk
  have e':some k=some g1:=e
  rw [<- hk'] at e'
  simp only [Option.some.injEq] at e'
  exact hne e'.symm)
 refine ⟨⟨g1',c1',g2,c2,by simp,e2,?_,h2n,?_⟩,?_⟩
 ·have:=ERow.push rfl hown
  rw [List.length_append,List.length_singleton]
  exact this
 ·rcases hat with e | e
  ·have e':some g1=some g1':=e
   simp only [Option.some.injEq] at e'
   rw [<- e']
   exact hne
  ·omega
 ·exact (hbel.alloc hbel.size _).grown hgrow (by have:=hbel.size; simp; omega) (fun q hq=>(h1.own q hq).1)
theorem Two.push2 {α β:Type} {E:Elt α} {F:Elt β} {w w1 wn:World} {g2 c2 g2' c2':Nat} {v1:Value} {l1:List α} {l2:List β} {x:β} {o:Obj} (h:Two E F w w1 v1 (.slice (some ⟨g2,0,none⟩) l2.length c2) l1 l2) (hown:wn.ownsRow w.heap.size F.T F.sz (.slice (some ⟨g2',0,none⟩) (l2.length+1) c2') (l2.length+1) (ecells F l2 ++ F.enc x)) (hgrow:(w1.alloc o).grownBy wn (Value.ownBlock (.slice (some ⟨g2,0,none⟩) l2.length c2))) (hat:Value.ownBlock (.slice (some ⟨g2,0,none⟩) l2.length c2)=some g2'\/g2'=w1.heap.size+1) :
  Two E F w wn v1 (.slice (some ⟨g2',0,none⟩) (l2.length+1) c2') l1 (l2 ++ [x]):=(Two.push1 h.swap hown hgrow hat).swap
theorem Two.open1 {α β:Type} {E:Elt α} {F:Elt β} {w wr:World} {v1 v2:Value} {l1:List α} {l2:List β} (h:Two E F w wr v1 v2 l1 l2):∃ g c:Nat,v1=.slice (some ⟨g,0,none⟩) l1.length c/\ERow E wr w.heap.size (.slice (some ⟨g,0,none⟩) l1.length c) l1:=by
 obtain ⟨⟨g1,c1,g2,c2,e1,e2,h1,h2,hne⟩,hbel⟩:=h
 exact ⟨g1,c1,e1,h1⟩
theorem Two.open2 {α β:Type} {E:Elt α} {F:Elt β} {w wr:World} {v1 v2:Value} {l1:List α} {l2:List β} (h:Two E F w wr v1 v2 l1 l2):∃ g c:Nat,v2=.slice (some ⟨g,0,none⟩) l2.length c/\ERow F wr w.heap.size (.slice (some ⟨g,0,none⟩) l2.length c) l2:=h.swap.open1
def keptTo (H:Nat->Ht) (ps:List P3) (k:Nat):List P3:=keptL H (ps.take k)
def goneTo (H:Nat->Ht) (ps:List P3) (k:Nat):List P3:=goneL H (ps.take k)
theorem take_snocP (ps:List P3) (t:Nat) (h:t < ps.length):ps.take (t+1)=ps.take t ++ [pAt ps t]:=take_snocE ePl ps t h
theorem keptTo_succ (H:Nat->Ht) (ps:List P3) (k:Nat) (hk:k < ps.length):keptTo H ps (k+1)=keptTo H ps k ++ (if ndP H (pAt ps k) then [pAt ps k] else []):=by
 unfold keptTo keptL
 rw [take_snocP ps k hk,List.filter_append]
 congr 1
 cases h:ndP H (pAt ps k) <;> simp [h]
theorem goneTo_succ (H:Nat->Ht) (ps:List P3) (k:Nat) (hk:k < ps.length):goneTo H ps (k+1)=goneTo H ps k ++ (if ndP H (pAt ps k) then [] else [pAt ps k]):=by
 unfold goneTo goneL
 rw [take_snocP ps k hk,List.filter_append]
 congr 1
 cases h:ndP H (pAt ps k) <;> simp [h]
theorem keptTo_len (H:Nat->Ht) (ps:List P3) (k:Nat):(keptTo H ps k).length<=ps.length:=by
 unfold keptTo keptL
 exact Nat.le_trans (List.length_filter_le _ _) (by rw [List.length_take]; omega)
theorem goneTo_len (H:Nat->Ht) (ps:List P3) (k:Nat):(goneTo H ps k).length<=ps.length:=by
 unfold goneTo goneL
 exact Nat.le_trans (List.length_filter_le _ _) (by rw [List.length_take]; omega)
theorem keptTo_all (H:Nat->Ht) (ps:List P3):keptTo H ps ps.length=keptL H ps:=by unfold keptTo; rw [List.take_length]
theorem goneTo_all (H:Nat->Ht) (ps:List P3):goneTo H ps ps.length=goneL H ps:=by unfold goneTo; rw [List.take_length]
theorem PlcOk.nat {n:Int} {ps:List P3} (h:PlcOk n ps) {q:P3} (hq:q ∈ ps):∃ lv pg:Nat,q.lv=lv/\q.pg=pg/\1<=lv/\lv<=3/\pg+tpg lv<=4096:=by
 rcases h.mem q hq with e | ⟨i,hi,e,hp,_⟩ | ⟨i,j,hi,hj,e,hp,_⟩
 ·exact ⟨1,0,by rw [e]; rfl,by rw [e]; rfl,by decide,by decide,by decide⟩
 ·exact ⟨2,i * 256,e,hp,by decide,by decide,show i * 256+256<=4096 by omega⟩
 ·exact ⟨3,i * 256+j * 16,e,hp,by decide,by decide,show i * 256+j * 16+16<=4096 by omega⟩
theorem plcOk_plist (zs:List Int) (h:nfr zs.length ≠ 0):PlcOk (nfr zs.length) (plist zs):=by
 unfold plist
 rw [if_neg h]
 exact plcOk_below zs (nfr zs.length)
theorem ptree_nfr {zs:List Int} (h:ptree zs=true):nfr zs.length ≠ 0:=by
 unfold ptree at h
 simp at h
 exact h.1
theorem bitZ_any (x:Int) (h0:0<=x) (h1:x < 18446744073709551616) (w:World) :
  Calls Tryz.prog 78 #[.int .u64 x,.int .i64 0] w fun e w'=>e=.returned (.int .i64 (x % 2))/\w'=w:=by
 have hfl:∀ w:World,Calls Tryz.prog 133 #[.int .u64 x,.int .i64 0,.int .i64 1] w fun e w'=>e=.returned (.int .u64 (x % 2))/\w'=w:=fun w=>by
  go_enter Tryz.func133,Tryz.ntmps133
  go_wp2_with fail
  go_ret
  exact ⟨rfl,rfl⟩
 have hm:0<=x % 2/\x % 2 < 2:=by omega
 go_enter Tryz.func78,Tryz.ntmps78
 go_wp2_with (go_at_call 133; refine (hfl _).mono ?_; rintro e w1 ⟨rfl,hw1⟩; obtain rfl:=hw1.symm)
 go_ret
 exact ⟨rfl,rfl⟩
def planF (zs:List Int) (xs:List SpanE):List OpE × Int :=
 if ptree zs=false then ([],1) else if vsB xs=false then ([],2) else if nfr zs.length < ((wPre (lay xs) 256).length:Nat) then ([],3)
 else (planL zs (nfr zs.length).toNat (lay xs) (plist zs),0)
theorem planF_1 {zs:List Int} {xs:List SpanE} (h:ptree zs=false):planF zs xs=([],1):=by unfold planF; rw [if_pos h]
theorem planF_2 {zs:List Int} {xs:List SpanE} (h:ptree zs=true) (h2:vsB xs=false):planF zs xs=([],2):=by unfold planF; rw [if_neg (by rw [h]; decide),if_pos h2]
theorem planF_3 {zs:List Int} {xs:List SpanE} (h:ptree zs=true) (h2:vsB xs=true) (h3:nfr zs.length < ((wPre (lay xs) 256).length:Nat)):planF zs xs=([],3):=by unfold planF; rw [if_neg (by rw [h]; decide),if_neg (by rw [h2]; decide),if_pos h3]
theorem planF_0 {zs:List Int} {xs:List SpanE} (h:ptree zs=true) (h2:vsB xs=true) (h3:¬ nfr zs.length < ((wPre (lay xs) 256).length:Nat)):planF zs xs=(planL zs (nfr zs.length).toNat (lay xs) (plist zs),0):=by unfold planF; rw [if_neg (by rw [h]; decide),if_neg (by rw [h2]; decide),if_neg h3]
def PlanPost (w:World) (r:List OpE × Int) (e:Ending) (w':World):Prop :=
 ∃ a c,e=.returned (.tuple #[.slice a r.1.length c,.int .i64 r.2])/\ERow eOp w' w.heap.size (.slice a r.1.length c) r.1/\Below w.heap.size w w'
theorem frTo_room {H:Nat->Ht} {n:Nat} {ps:List P3} (hn:0 < n) (h:PlcOk n ps) (hw:(wPre H 256).length<=n) (k:Nat) (hk:k<=(wPre H 256).length):(keptL H ps ++ frTo (keptL H ps) (wPre H 256) k).length<=1100:=by
 have h1:=kept_le (H:=H) (n:=n) (by omega) h
 have h2:=List.countP_le_length (p:=isK (keptL H ps)) (l:=wPre H 256)
 have h3:=frTo_len (keptL H ps) (wPre H 256) k hk
 have h4:=wPre_len H 256
 rw [List.length_append]
 omega
theorem asP_at (s:List (Nat × Nat)) (k:Nat) (hk:k < s.length):pAt (asP s) k=⟨-1,(s[k]).1,(s[k]).2⟩:=by
 unfold pAt asP
 rw [List.getD_eq_getElem?_getD,List.getElem?_map,List.getElem?_eq_getElem hk]
 rfl
structure Thr (w wr:World) (v1 v2:Value) (l1 l2:List OpE) (gm:Nat) (mk:Nat->Bool):Prop where
 two:Two eOp eOp w wr v1 v2 l1 l2
 ne:∀ g n c,(v1=.slice (some ⟨g,0,none⟩) n c\/v2=.slice (some ⟨g,0,none⟩) n c)->gm ≠ g
 mark:wr.rowIs gm 4 4096 (fun p=>.bool (mk p))
 lo:w.heap.size<=gm
theorem Thr.below {w wr w1:World} {v1 v2:Value} {l1 l2:List OpE} {gm:Nat} {mk:Nat->Bool} (h:Thr w wr v1 v2 l1 l2 gm mk) (hb:Below wr.heap.size wr w1):Thr w w1 v1 v2 l1 l2 gm mk :=
 ⟨h.two.below hb,h.ne,h.mark.of_block (hb.block gm h.mark.lt),h.lo⟩
theorem Thr.push1 {w w1 wn:World} {g1 c1 g1' c1':Nat} {v2:Value} {l1 l2:List OpE} {x:OpE} {o:Obj} {gm:Nat} {mk:Nat->Bool} (h:Thr w w1 (.slice (some ⟨g1,0,none⟩) l1.length c1) v2 l1 l2 gm mk) (hown:wn.ownsRow w.heap.size eOp.T eOp.sz (.slice (some ⟨g1',0,none⟩) (l1.length+1) c1') (l1.length+1) (ecells eOp l1 ++ eOp.enc x)) (hgrow:(w1.alloc o).grownBy wn (Value.ownBlock (.slice (some ⟨g1,0,none⟩) l1.length c1))) (hat:Value.ownBlock (.slice (some ⟨g1,0,none⟩) l1.length c1)=some g1'\/g1'=w1.heap.size+1) :
  Thr w wn (.slice (some ⟨g1',0,none⟩) (l1.length+1) c1') v2 (l1 ++ [x]) l2 gm mk:=by
 have hl:=h.mark.lt
 refine ⟨Two.push1 h.two hown hgrow hat,?_,?_,h.lo⟩
 ·intro g n c hh
  rcases hh with hh | hh
  ·simp only [Value.slice.injEq,Option.some.injEq,Addr.mk.injEq,and_true] at hh
   obtain ⟨rfl,_⟩:=hh
   rcases hat with e | e
   ·have e':some g1=some g1':=e
    simp only [Option.some.injEq] at e'
    rw [<- e']
    exact h.ne g1 _ _ (.inl rfl)
   ·omega
  ·exact h.ne g n c (.inr hh)
 ·have hne:some gm ≠ Value.ownBlock (.slice (some ⟨g1,0,none⟩) l1.length c1):=fun e=>h.ne g1 _ _ (.inl rfl) (by have e':some gm=some g1:=e; simpa using e')
  exact h.mark.of_block ((hgrow.block gm (by simp; omega) hne).trans (Below.heap_alloc _ _ _ hl))
theorem Thr.swap {w wr:World} {v1 v2:Value} {l1 l2:List OpE} {gm:Nat} {mk:Nat->Bool} (h:Thr w wr v1 v2 l1 l2 gm mk):Thr w wr v2 v1 l2 l1 gm mk:=⟨h.two.swap,fun g n c hh=>h.ne g n c hh.symm,h.mark,h.lo⟩
theorem Thr.push2 {w w1 wn:World} {g2 c2 g2' c2':Nat} {v1:Value} {l1 l2:List OpE} {x:OpE} {o:Obj} {gm:Nat} {mk:Nat->Bool} (h:Thr w w1 v1 (.slice (some ⟨g2,0,none⟩) l2.length c2) l1 l2 gm mk) (hown:wn.ownsRow w.heap.size eOp.T eOp.sz (.slice (some ⟨g2',0,none⟩) (l2.length+1) c2') (l2.length+1) (ecells eOp l2 ++ eOp.enc x)) (hgrow:(w1.alloc o).grownBy wn (Value.ownBlock (.slice (some ⟨g2,0,none⟩) l2.length c2))) (hat:Value.ownBlock (.slice (some ⟨g2,0,none⟩) l2.length c2)=some g2'\/g2'=w1.heap.size+1) :
  Thr w wn v1 (.slice (some ⟨g2',0,none⟩) (l2.length+1) c2') l1 (l2 ++ [x]) gm mk:=(Thr.push1 h.swap hown hgrow hat).swap
theorem Thr.set {w wr:World} {v1 v2:Value} {l1 l2:List OpE} {gm:Nat} {mk mk':Nat->Bool} {p:Nat} (h:Thr w wr v1 v2 l1 l2 gm mk) (hm:∀ q,mk' q=(mk q || decide (q=p))):Thr w (wr.setCell ⟨gm,p,none⟩ (.bool true)) v1 v2 l1 l2 gm mk':=by
 obtain ⟨⟨⟨g1,c1,g2,c2,e1,e2,h1,h2,hne⟩,hbel⟩,hn,hmk,hlo⟩:=h
 have n1:gm ≠ g1:=hn g1 _ _ (.inl e1)
 have n2:gm ≠ g2:=hn g2 _ _ (.inr e2)
 have hg:wr.grownBy (wr.setCell ⟨gm,p,none⟩ (.bool true)) (some gm):=eGrown_set (World.grownBy.refl _ _) _ _
 refine ⟨⟨⟨g1,c1,g2,c2,e1,e2,h1.kept hg ?_,h2.kept hg ?_,hne⟩,hbel.setCell hlo _⟩,hn,?_,hlo⟩
 ·intro k hk e
  have hk':some g1=some k:=hk
  rw [<- hk'] at e
  simp only [Option.some.injEq] at e
  exact n1 e.symm
 ·intro k hk e
  have hk':some g2=some k:=hk
  rw [<- hk'] at e
  simp only [Option.some.injEq] at e
  exact n2 e.symm
 ·have h5:=hmk.set p (.bool true)
  refine (show (wr.setCell ⟨gm,p,none⟩ (.bool true)).rowIs gm 4 4096 (fun q=>.bool (mk' q)) from ?_)
  have e:(fun q=>Value.bool (mk' q))=(fun q=>if q=p then Value.bool true else Value.bool (mk q)):=by
   funext q
   rw [hm q]
   by_cases hq:q=p
   ·rw [if_pos hq,decide_eq_true hq,Bool.or_true]
   ·rw [if_neg hq,decide_eq_false hq,Bool.or_false]
  rw [e]
  exact h5
theorem brkOps_succ (zs:List Int) (H:Nat->Ht) (all:List P3) (es:List En) (e:En):brkOps zs H all (es ++ [e])=brkOps zs H all es ++ (if brk zs H all e then [⟨1,e.ad,0,0⟩] else []):=by
 unfold brkOps
 rw [List.filter_append,List.map_append]
 cases h:brk zs H all e <;> simp [h]
theorem lnkOps_succ (zs:List Int) (H:Nat->Ht) (all:List P3) (es:List En) (e:En):lnkOps zs H all (es ++ [e])=lnkOps zs H all es ++ (if lnk zs H all e then [⟨1,e.ad,0,rgt H all e.lv e.pg⟩] else []):=by
 unfold lnkOps
 rw [List.filter_append,List.map_append]
 cases h:lnk zs H all e <;> simp [h]
theorem mkB_succ (zs:List Int) (H:Nat->Ht) (all:List P3) (es:List En) (e:En) (p:Nat):mkB zs H all (es ++ [e]) p=(mkB zs H all es p || (brk zs H all e && decide (e.pg<=p/\(p:Int) < e.pg+cov e.lv))):=by
 unfold mkB
 rw [List.any_append]
 simp
theorem brkOps_len (zs:List Int) (H:Nat->Ht) (all:List P3) (es:List En):(brkOps zs H all es).length<=es.length:=by
 unfold brkOps; rw [List.length_map]; exact List.length_filter_le _ _
theorem lnkOps_len (zs:List Int) (H:Nat->Ht) (all:List P3) (es:List En):(lnkOps zs H all es).length<=es.length:=by
 unfold lnkOps; rw [List.length_map]; exact List.length_filter_le _ _
theorem frOf_lt {n:Nat} {ps:List P3} (H:Nat->Ht) (hn:0 < n) (h:PlcOk n ps) (lv pg:Int):frOf (keptL H ps) lv pg < n:=by
 by_cases h0:0<=frOf (keptL H ps) lv pg
 ·obtain ⟨q,hq,_,_,e⟩:=frOf_mem h0
  rw [<- e]
  exact (h.fr (by omega) (kept_mem.1 hq).1).2
 ·omega
theorem ent_at {n:Nat} {ps:List P3} (H:Nat->Ht) (hn:0 < n) (h:PlcOk n ps) (i:Nat) (hi:i < (enTo (keptL H ps) 4096).length):∃ lv pg ad:Nat,eAt eEn (enTo (keptL H ps) 4096) i=⟨lv,pg,ad⟩/\1<=lv/\lv<=3/\pg+epg lv<=4096/\ad < n * 16:=by
 have hm:eAt eEn (enTo (keptL H ps) 4096) i ∈ enTo (keptL H ps) 4096:=by
  unfold eAt
  rw [List.getD_eq_getElem?_getD,List.getElem?_eq_getElem hi]
  exact List.getElem_mem hi
 obtain ⟨page,lv,hp,h1,h3,hmod,e1,e2,h0,e3⟩:=enTo_mem hm
 have hf:=frOf_lt H hn h lv (page - page % (epg lv * 16):Nat)
 obtain ⟨F,hF⟩:∃ F:Nat,frOf (keptL H ps) lv (page - page % (epg lv * 16):Nat)=F:=⟨(frOf (keptL H ps) lv (page - page % (epg lv * 16):Nat)).toNat,by omega⟩
 rw [hF] at e3 hf
 refine ⟨lv,page,F * 16+page / epg lv % 16,?_,h1,h3,?_,?_⟩
 ·rcases hx:eAt eEn (enTo (keptL H ps) 4096) i with ⟨a,b,c⟩
  rw [hx] at e1 e2 e3
  dsimp only at e1 e2 e3
  rw [e1,e2,e3]
  simp
 ·rcases (show lv=1\/lv=2\/lv=3 by omega) with rfl | rfl | rfl
  ·have:page % 256=0:=hmod
   show page+256<=4096
   omega
  ·have:page % 16=0:=hmod
   show page+16<=4096
   omega
  ·show page+1<=4096
   omega
 ·have:page / epg lv % 16 < 16:=Nat.mod_lt _ (by decide)
  omega
theorem eOp_new (w:World) (x:OpE):ERow eOp (w.alloc (.cells #[.int .i64 x.kind,.int .i64 x.a,.int .i64 x.b,.int .u64 x.word] 77)) w.heap.size (.slice (some ⟨w.heap.size,0,none⟩) 1 1) [x] :=
 ⟨by simp [ecells,eOp],.inr ⟨w.heap.size,1,#[.int .i64 x.kind,.int .i64 x.a,.int .i64 x.b,.int .u64 x.word],rfl,Nat.le_refl _,heap_alloc_new w _,Nat.le_refl _,by unfold maxLen; omega,by simp [eOp],by simp [ecells,eOp]⟩⟩
theorem appL (w wr:World) (v:Value) (l:List OpE) (a2:Option Addr) (c2 b2:Nat) (ys:List OpE) (hlen:l.length+ys.length<=100000) (h:LSt eOp w wr v l) (h2:ERow eOp wr b2 (.slice a2 ys.length c2) ys) (hne:∀ k,Value.ownBlock (.slice a2 ys.length c2)=some k->∀ g n c,v=.slice (some ⟨g,0,none⟩) n c->k ≠ g) :
  Calls Tryz.prog 80 #[v,.slice a2 ys.length c2] wr fun e w'=>∃ v',e=.returned v'/\LSt eOp w w' v' (l ++ ys)/\(∀ k,k < wr.heap.size->(∀ g n c,v=.slice (some ⟨g,0,none⟩) n c->k ≠ g)->w'.heap[k]?=wr.heap[k]?)/\wr.heap.size<=w'.heap.size/\(∀ g n c,v'=.slice (some ⟨g,0,none⟩) n c->wr.heap.size<=g\/∃ n c,v=.slice (some ⟨g,0,none⟩) n c):=by
 obtain ⟨⟨g,c,rfl,hr⟩,hbel⟩:=h
 refine (l5Append_any g c w.heap.size l a2 c2 b2 ys wr hlen hbel.size hr h2 (fun k hk=>hne k hk g _ _ rfl)).mono fun e w' ⟨v',he,hg⟩=>?_
 obtain ⟨⟨g',c',e',hr',hg'⟩,hgr⟩:=hg
 have hgl:=(hr.own g rfl).1
 refine ⟨v',he,⟨⟨g',c',e',hr'⟩,⟨hgr.os.trans hbel.os,hgr.tape.trans hbel.tape,hgr.output.trans hbel.output,Nat.le_trans hbel.size hgr.size,fun k hk=>?_⟩⟩,fun k hk hn=>hgr.block k hk (fun e=>hn g _ _ rfl (by simpa using e)),hgr.size,fun g0 n0 c0 e0=>?_⟩
 ·have h1:=hbel.size
  exact (hgr.block k (by omega) (fun e=>by have h9:k=g:=(by simpa using e); omega)).trans (hbel.block k hk)
 ·rw [e'] at e0
  simp only [Value.slice.injEq,Option.some.injEq,Addr.mk.injEq,and_true] at e0
  obtain ⟨rfl,_⟩:=e0
  rcases hg' with e | e
  ·exact .inr ⟨_,_,by rw [e]⟩
  ·exact .inl e
theorem freeTo_succ (gone:List P3) (t:Nat):freeOps (t+1) gone=freeOps t gone ++ (if hasFr gone (t:Nat) then [⟨4,(t:Nat),0,0⟩] else []):=by
 unfold freeOps
 rw [List.range_succ,List.filter_append,List.map_append]
 cases h:hasFr gone (t:Nat) <;> simp [h]
theorem freeOps_len (gone:List P3) (t:Nat):(freeOps t gone).length<=t:=by
 unfold freeOps
 rw [List.length_map]
 exact Nat.le_trans (List.length_filter_le _ _) (by rw [List.length_range]; omega)
theorem fillOne_succ (H:Nat->Ht) (all:List P3) (t:P3) (k:Nat):fillOne H all t (k+1)=fillOne H all t k ++ [⟨1,t.fr * 16+(k:Nat),0,rgt H all t.lv (t.pg+(k:Nat) * cov t.lv)⟩]:=by
 unfold fillOne
 rw [List.range_succ,List.map_append]
 rfl
theorem fillOne_len (H:Nat->Ht) (all:List P3) (t:P3) (k:Nat):(fillOne H all t k).length=k:=by unfold fillOne; simp
theorem fillTo_succ (H:Nat->Ht) (all fs:List P3) (t:Nat) (ht:t < fs.length):fillOps H all (fs.take (t+1))=fillOps H all (fs.take t) ++ fillOne H all (pAt fs t) 16:=by
 unfold fillOps
 rw [take_snocP fs t ht,List.flatMap_append]
 simp
theorem fillOps_len (H:Nat->Ht) (all fs:List P3):(fillOps H all fs).length=fs.length * 16:=by
 unfold fillOps
 induction fs with
 | nil=>rfl
 | cons p r ih=>rw [List.flatMap_cons,List.length_append,ih,fillOne_len,List.length_cons]; omega
theorem fillOps_nil (H:Nat->Ht) (all fs:List P3):fillOps H all fs=[] ↔ fs=[]:=by
 constructor
 ·intro h
  have:=fillOps_len H all fs
  rw [h] at this
  simp at this
  exact List.eq_nil_of_length_eq_zero (by omega)
 ·intro h; rw [h]; rfl
theorem headQ {BR T:List OpE} (h:¬ BR=[]):(if BR.isEmpty then [] else ((BR ++ [dsbO]) ++ T) ++ [dsbO])=(([] ++ BR ++ [dsbO]) ++ T) ++ [dsbO]:=by
 rw [if_neg (by rw [List.isEmpty_iff]; exact h),List.nil_append]
theorem posB {α:Type} {BR:List α} (h:¬ BR=[]):decide ((0:Int) < (BR.length:Int))=true:=decide_eq_true (by have:=List.length_pos_iff.2 h; omega)
theorem posB2 {α:Type} {BR:List α} (h:¬ BR=[]):decide (0 < BR.length)=true:=decide_eq_true (List.length_pos_iff.2 h)
theorem noB {α:Type} {BR:List α} (h:BR=[]):decide ((0:Int) < (BR.length:Int))=false/\decide (0 < BR.length)=false:=by subst h; exact ⟨rfl,rfl⟩
theorem sealF0 (H:Nat->Ht) (AL FR:List P3) (O2:List OpE) (h:FR=[]):O2 ++ sealO (fillOps H AL FR)=O2 ++ fillOps H AL FR:=by rw [(fillOps_nil H AL FR).2 h,sealO_nil]
theorem sealF1 (H:Nat->Ht) (AL FR:List P3) (O2:List OpE) (h:¬ FR=[]):O2 ++ sealO (fillOps H AL FR)=(O2 ++ fillOps H AL FR) ++ [dsbO]:=by rw [sealO_cons (fun e=>h ((fillOps_nil H AL FR).1 e)),List.append_assoc]
end Go.Proofs.YtnmhkgmmpkjjeaaGreat
namespace Go.Proofs.YtnmhkgmmpkjjeaaGreat
open Go.ChangeShapes Go.WideShapes Go.ChangeAt Go.RowKit
set_option linter.unusedVariables false
attribute [local go_sem ↓] Go.wp_at_zero Go.wp_at_succ
theorem implPlaces_any (g:Nat) (zs:List Int) (c:Nat) (hn:zs.length<=1048576) (hcc:zs.length<=c) (hr:∀ i,0<=zs.getD i 0/\zs.getD i 0 < 2 ^ 64) (w:World) (hg:CRow w g zs) :
  Calls Tryz.prog 26 #[.agg #[.slice (some ⟨g,0,none⟩) zs.length c]] w fun e w'=>PlacesPost zs w e w':=by
 have hvm:=valid_any (some ⟨g,0,none⟩) zs.length c (by omega)
 by_cases h0:nfr zs.length=0
 ·have e:plist zs=[]:=by unfold plist; rw [if_pos h0]
  have et:ptree zs=false:=by unfold ptree; simp [h0]
  unfold PlacesPost
  rw [e,et]
  simp only [h0,decide_true,Bool.not_true] at hvm
  clear h0 e et
  go_enter Tryz.func26,Tryz.ntmps26
  go_wp2_with (go_at_call 87; refine (hvm _).mono ?_; rintro e w1 ⟨rfl,hb1⟩)
  go_ret2
  exact ⟨_,_,rfl,World.ownsRow_nil _ _ _ _,((Below.refl _ _).alloc (Nat.le_refl _) _).trans (hb1.mono (by simp))⟩
 ·have hz:OkMem zs:=⟨h0,hr⟩
  have hm:=nfr_mul zs.length h0
  have hle:=nfr_le zs.length
  have e:plist zs=belowL zs (nfr zs.length) 2 ⟨0,1,0⟩:=by unfold plist; rw [if_neg h0]
  have et:ptree zs=treeTo zs (nfr zs.length) (plist zs) (plist zs).length:=by unfold ptree; simp [h0]
  have hps:=psOk_plist zs hz
  have hadd:=placesOf_any g zs c hz hcc
  have htree:=isTree_any g zs c (plist zs) hps (by omega) hcc (nfr zs.length) hm.1 (by
   intro i w hi hg
   obtain ⟨F,hF,hF2⟩:=hps.ok i hi
   exact sound_any g zs c (pAt (plist zs) i) F hF hF2 (by omega) hcc (nfr zs.length) hm.1 (fun i hi w=>implDecode_any _ _ (hr _).1 (hr _).2 w) w hg)
  rw [<- et] at htree
  unfold PlacesPost
  simp only [h0,decide_false,Bool.not_false] at hvm
  generalize ptree zs=tr at *
  generalize plist zs=ps at *
  clear e et hps hm hle hz h0
  go_enter Tryz.func26,Tryz.ntmps26
  go_wp2_with (go_at_call 87; refine (hvm _).mono ?_; rintro e w1 ⟨rfl,hb1⟩; obtain ⟨hc1,hf1⟩:=bcell hb1)
  have hs1:=hb1.size
  simp at hs1
  have hbw1:Below w.heap.size w w1:=((Below.refl _ _).alloc (Nat.le_refl _) _).trans (hb1.mono (by simp))
  refine (hadd w1 (hg.below hbw1 hg.lt)).mono ?_
  rintro e w2 ⟨g2,c2,rfl,hp2',hb2⟩
  have hp2:PRow w2 w.heap.size (.slice (some ⟨g2,0,none⟩) ps.length c2) ps:=hp2'.rebase (by omega)
  have hbx:w2.cell? ⟨w.heap.size,0,none⟩=some (.slice (some ⟨g,0,none⟩) zs.length c):=by
   rw [hb2.cell (by simp; omega),hb1.cell (by simp)]; simp [go_sem]
  have hbw2:Below w.heap.size w w2:=hbw1.trans (hb2.mono (by omega))
  have HP2:Hid (PRow _ _ _ _):=hp2
  have HBW2:Hid (Below _ _ _):=hbw2
  have hgw2:CRow w2 g zs:=hg.below hbw2 hg.lt
  have ht:=htree (.slice (some ⟨g2,0,none⟩) ps.length c2) w.heap.size w2 hgw2 hp2
  clear hadd hc1 hf1 hb1 hbw1 hp2 hp2' hb2 hbw2 hgw2 htree
  go_wp2_with fail
  refine ht.mono ?_
  rintro e w3 ⟨rfl,hb3⟩
  go_wp2_with fail
  go_ret2
  exact ⟨some ⟨g2,0,none⟩,c2,rfl,HP2.out.below hb3,HBW2.out.trans (hb3.mono HBW2.out.size)⟩
end Go.Proofs.YtnmhkgmmpkjjeaaGreat
