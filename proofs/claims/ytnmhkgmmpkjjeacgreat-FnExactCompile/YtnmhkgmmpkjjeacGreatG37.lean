import Derived.Test.YtnmhkgmmpkjjeacGreatG26
import Derived.Test.YtnmhkgmmpkjjeacGreatG34
import Derived.Test.YtnmhkgmmpkjjeacGreatG36
import Derived.Test.YtnmhkgmmpkjjeacGreatG23
import Derived.Test.YtnmhkgmmpkjjeacGreatG05
namespace Go.Proofs.YtnmhkgmmpkjjeacGreat
open Go.ChangeShapes Go.WideShapes Go.ChangeAt Go.RowKit
set_option linter.unusedVariables false
attribute [local go_sem ↓] Go.wp_at_zero Go.wp_at_succ
theorem implPlaces_any (g:Nat) (zs:List Int) (c:Nat) (hn:zs.length<=1048576) (hcc:zs.length<=c) (hr:∀ i,0<=zs.getD i 0/\zs.getD i 0 < 2 ^ 64) (w:World) (hg:CRow w g zs) :
  Calls Tryz.prog 43 #[.agg #[.slice (some ⟨g,0,none⟩) zs.length c]] w fun e w'=>PlacesPost zs w e w':=by
 have hvm:=valid_any (some ⟨g,0,none⟩) zs.length c (by omega)
 by_cases h0:nfr zs.length=0
 ·have e:plist zs=[]:=by unfold plist; rw [if_pos h0]
  have et:ptree zs=false:=by unfold ptree; simp [h0]
  unfold PlacesPost
  rw [e,et]
  simp only [h0,decide_true,Bool.not_true] at hvm
  clear h0 e et
  go_enter Tryz.func43,Tryz.ntmps43
  go_wp2_with (go_at_call 63; refine (hvm _).mono ?_; rintro e w1 ⟨rfl,hb1⟩)
  go_ret2
  exact ⟨_,_,rfl,World.ownsRow_nil _ _ _ _,((Below.refl _ _).alloc (Nat.le_refl _) _).trans (hb1.mono (by simp))⟩
 ·have hz:OkMem zs:=⟨h0,hr⟩
  have hm:=nfr_mul zs.length h0
  have hle:=nfr_le zs.length
  have e:plist zs=belowL zs (nfr zs.length) 2 ⟨0,1,0⟩:=by unfold plist; rw [if_neg h0]
  have et:ptree zs=treeTo zs (nfr zs.length) (plist zs) (plist zs).length:=by unfold ptree; simp [h0]
  have hps:=psOk_plist zs hz
  have hadd:=placesOf_any g zs c hz hcc
  have htree:=isTree_any g zs c (plist zs) hps (by omega) hcc (nfr zs.length) hm.1 (by
   intro i w hi hg
   obtain ⟨F,hF,hF2⟩:=hps.ok i hi
   exact sound_any g zs c (pAt (plist zs) i) F hF hF2 (by omega) hcc (nfr zs.length) hm.1 (fun i hi w=>implDecode_any _ _ (hr _).1 (hr _).2 w) w hg)
  rw [<- et] at htree
  unfold PlacesPost
  simp only [h0,decide_false,Bool.not_false] at hvm
  generalize ptree zs=tr at *
  generalize plist zs=ps at *
  clear e et hps hm hle hz h0
  go_enter Tryz.func43,Tryz.ntmps43
  go_wp2_with (go_at_call 63; refine (hvm _).mono ?_; rintro e w1 ⟨rfl,hb1⟩; obtain ⟨hc1,hf1⟩:=bcell hb1)
  have hs1:=hb1.size
  simp at hs1
  have hbw1:Below w.heap.size w w1:=((Below.refl _ _).alloc (Nat.le_refl _) _).trans (hb1.mono (by simp))
  refine (hadd w1 (hg.below hbw1 hg.lt)).mono ?_
  rintro e w2 ⟨g2,c2,rfl,hp2',hb2⟩
  have hp2:PRow w2 w.heap.size (.slice (some ⟨g2,0,none⟩) ps.length c2) ps:=hp2'.rebase (by omega)
  have hbx:w2.cell? ⟨w.heap.size,0,none⟩=some (.slice (some ⟨g,0,none⟩) zs.length c):=by
   rw [hb2.cell (by simp; omega),hb1.cell (by simp)]; simp [go_sem]
  have hbw2:Below w.heap.size w w2:=hbw1.trans (hb2.mono (by omega))
  have HP2:Hid (PRow _ _ _ _):=hp2
  have HBW2:Hid (Below _ _ _):=hbw2
  have hgw2:CRow w2 g zs:=hg.below hbw2 hg.lt
  have ht:=htree (.slice (some ⟨g2,0,none⟩) ps.length c2) w.heap.size w2 hgw2 hp2
  clear hadd hc1 hf1 hb1 hbw1 hp2 hp2' hb2 hbw2 hgw2 htree
  go_wp2_with fail
  refine ht.mono ?_
  rintro e w3 ⟨rfl,hb3⟩
  go_wp2_with fail
  go_ret2
  exact ⟨some ⟨g2,0,none⟩,c2,rfl,HP2.out.below hb3,HBW2.out.trans (hb3.mono HBW2.out.size)⟩
end Go.Proofs.YtnmhkgmmpkjjeacGreat
namespace Go.Proofs.YtnmhkgmmpkjjeacGreat
open Go.ChangeShapes Go.WideShapes Go.ChangeAt Go.RowKit
set_option linter.unusedVariables false
set_option maxRecDepth 100000
attribute [local go_sem ↓] Go.wp_at_zero Go.wp_at_succ
theorem big_group {xs:List SpanE} (h:VS xs) (p k:Nat) (hp:p % 16=0) (hk:k < 16) (hs:(atL xs (p:Nat)).s=16):(atL xs ((p+k:Nat):Int)).s=16:=by
 cases hf:xs.find? (fun e=>inS e (p:Nat)) with
 | none =>
  unfold atL at hs
  rw [hf] at hs
  cases hs
 | some e =>
  have hm:=List.mem_of_find?_eq_some hf
  obtain ⟨j,hj,he⟩:=List.getElem_of_mem hm
  have he':eAt eSpan xs j=e:=by
   unfold eAt
   rw [List.getD_eq_getElem?_getD,List.getElem?_eq_getElem hj,he]
   rfl
  unfold atL at hs
  rw [hf] at hs
  have hs':(if bigB e (p:Nat) then (16:Int) else 1)=16:=hs
  have hb:bigB e (p:Nat)=true:=by
   cases hbb:bigB e (p:Nat)
   ·rw [hbb] at hs'; cases hs'
   ·rfl
  have hb2:=hb
  unfold bigB at hb2
  rw [Bool.and_eq_true,decide_eq_true_eq] at hb2
  obtain ⟨hh,b1,b2,b3⟩:=hb2
  have e0:((p:Nat):Int) % 16=0:=by omega
  rw [e0] at b1 b2 b3
  have hat:atL xs ((p+k:Nat):Int)=hitS (eAt eSpan xs j) ((p+k:Nat):Int):=by
   refine at_hit _ xs j hj (fun i hi=>?_) ?_
   ·have:=h.lt i j hi hj
    rw [he'] at this
    unfold inS
    exact decide_eq_false (by omega)
   ·rw [he']
    unfold inS
    exact decide_eq_true (by omega)
  rw [hat,he']
  have hb3:bigB e ((p+k:Nat):Int)=true:=by
   unfold bigB
   rw [Bool.and_eq_true,decide_eq_true_eq]
   have e1:((p+k:Nat):Int) % 16=k:=by omega
   rw [e1]
   refine ⟨hh,by omega,by omega,?_⟩
   rw [show e.out+(((p+k:Nat):Int) - (k:Int)) - e.page=e.out+((p:Int) - 0) - e.page by omega]
   exact b3
  show (if bigB e ((p+k:Nat):Int) then (16:Int) else 1)=16
  rw [hb3]
  rfl
theorem big_no {xs:List SpanE} (h:VS xs) (p:Nat) (hp:p % 16=0) (hp2:p+16<=4096) (hs:(lay xs p).s=16):nd (lay xs) 3 p=false:=by
 rw [lay_at xs p (by omega)] at hs
 unfold nd
 have e3:decide ((3:Nat)=1)=false:=rfl
 rw [e3,Bool.false_or,List.any_eq_false]
 intro k hk
 have hk':k < 16:=List.mem_range.1 hk
 unfold hB
 rw [lay_at xs (p+k) (by omega),big_group h p k hp hk' hs]
 simp
theorem all_mem {H:Nat->Ht} {n:Nat} {ps:List P3} (hn:0 < n) (h:PlcOk n ps) (hw:(wPre H 256).length<=n) {q:P3} (hq:q ∈ keptL H ps ++ newL H ps):∃ F lv pg:Nat,q=⟨F,lv,pg⟩/\1<=lv/\lv<=3/\pg+tpg lv<=4096/\nd H lv pg=true/\pg % tpg lv=0/\F < n:=by
 rcases List.mem_append.1 hq with hq | hq
 ·obtain ⟨h1,h2,h3⟩:=kept_wanted h hq
  have hf:=h.fr (by omega) (kept_mem.1 hq).1
  obtain ⟨c1,c2,c3,c4,_,c6⟩:=wanted_cases h1
  refine ⟨q.fr.toNat,q.lv.toNat,q.pg.toNat,?_,c1,c2,c3,c4,c6,by omega⟩
  obtain ⟨a,b,c⟩:=q
  simp only at h2 h3 hf ⊢
  rw [h2,h3]
  simp only [P3.mk.injEq,and_true]
  omega
 ·obtain ⟨j,hj,hj2,h1,h2,_,F,hF,hF2⟩:=fresh_mem hn h hw _ (Nat.le_refl _) q hq
  obtain ⟨c1,c2,c3,c4,_,c6⟩:=wanted_cases (List.getElem_mem hj2)
  refine ⟨F,((wPre H 256)[j]).1,((wPre H 256)[j]).2,?_,c1,c2,c3,c4,c6,hF2⟩
  obtain ⟨a,b,c⟩:=q
  simp only at h1 h2 hF
  rw [h1,h2,hF]
theorem kok_mk {xs:List SpanE} {zs:List Int} {n:Nat} {ps:List P3} (hv:VS xs) (hn:0 < n) (hn2:n<=512) (hz:zs.length=n * 16) (h:PlcOk n ps) (hw:(wPre (lay xs) 256).length<=n):KOk zs (lay xs) (keptL (lay xs) ps) (newL (lay xs) ps):=by
 refine ⟨⟨fun q hq=>?_,fun p hp hs=>?_,fun p=>?_⟩,kept_ok (lay xs) (by omega) h,fun q hq=>?_,by omega,by omega⟩
 ·obtain ⟨F,lv,pg,rfl,_⟩:=all_mem hn h hw hq
  exact Int.natCast_nonneg F
 ·refine Int.not_le.1 (fun h0=>?_)
  obtain ⟨q,hq,e1,e2,_⟩:=frOf_mem h0
  obtain ⟨F,lv,pg,rfl,l1,l3,lp,hnd,hmod,_⟩:=all_mem hn h hw hq
  have e1':lv=3:=by have:(lv:Int)=3:=e1; omega
  have e2':pg=p:=by have:(pg:Int)=(p:Int):=e2; omega
  subst e1' e2'
  have t3:tpg 3=16:=rfl
  rw [t3] at lp hmod
  rw [big_no hv pg hmod lp hs] at hnd
  cases hnd
 ·refine Int.not_le.1 (fun h0=>?_)
  obtain ⟨q,hq,e1,e2,_⟩:=frOf_mem h0
  obtain ⟨F,lv,pg,rfl,l1,l3,_⟩:=all_mem hn h hw hq
  have:(lv:Int)=4:=e1
  omega
 ·obtain ⟨F,lv,pg,rfl,_,_,_,_,_,hF⟩:=all_mem hn h hw (List.mem_append_left _ hq)
  refine ⟨Int.natCast_nonneg F,?_⟩
  show (F:Int) * 16+16<=_
  omega
theorem progIn_mk {xs:List SpanE} {zs:List Int} {n:Nat} {ps:List P3} {w0 w:World} {gp gz cz gl M cR cC:Nat} {aR aC:Option Addr} (hv:VS xs) (hn:0 < n) (hn2:n<=512) (hz:zs.length=n * 16) (hzr:∀ i,0<=zs.getD i 0/\zs.getD i 0 < 18446744073709551616) (h:PlcOk n ps) (hw:(wPre (lay xs) 256).length<=n) (hs:SS w0 w gp gz cz gl M zs (lay xs) (hmOf (keptL (lay xs) ps) (newL (lay xs) ps)) aR cR (retL (goneL (lay xs) ps) n) aC cC (newL (lay xs) ps)) :
  ProgIn w gp gz cz gl M zs (lay xs) n (keptL (lay xs) ps) (goneL (lay xs) ps) (newL (lay xs) ps) aR aC cR (w0.heap.size+1) cC (w0.heap.size+1):=by
 refine ⟨hs.pst,kok_mk hv hn hn2 hz h hw,hzr,by have:=ret_len (goneL (lay xs) ps) n; omega,hs.ret.cell,hs.ret.row,?_,fun q hq=>?_,hs.c3,hs.crow⟩
 ·have:=frTo_len (keptL (lay xs) ps) (wPre (lay xs) 256) _ (Nat.le_refl _)
  have:(newL (lay xs) ps).length<=(wPre (lay xs) 256).length:=this
  omega
 ·obtain ⟨F,lv,pg,rfl,l1,l3,lp,_,_,hF⟩:=all_mem hn h hw (List.mem_append_right _ hq)
  exact ⟨F,lv,pg,rfl,l1,l3,lp,by omega⟩
theorem planL_acc (zs:List Int) (n:Nat) (H:Nat->Ht) (ps:List P3):xAcc zs H n (keptL H ps) (goneL H ps) (newL H ps) 5=planL zs n H ps:=by
 rw [xAcc_all]
 rfl
end Go.Proofs.YtnmhkgmmpkjjeacGreat
namespace Go.Proofs.YtnmhkgmmpkjjeacGreat
open Go.ChangeShapes Go.WideShapes Go.ChangeAt Go.RowKit
set_option linter.unusedVariables false
def OpsIn (n:Nat) (l:List OpE):Prop:=∀ o ∈ l,o.kind=1->0<=o.a/\o.a < n
theorem OpsIn.app {n:Nat} {l m:List OpE} (h1:OpsIn n l) (h2:OpsIn n m):OpsIn n (l ++ m):=fun o ho=>(List.mem_append.1 ho).elim (h1 o) (h2 o)
theorem OpsIn.seal {n:Nat} {l:List OpE} (h:OpsIn n l):OpsIn n (sealO l):=by
 unfold sealO
 split
 ·intro o ho; cases ho
 ·refine h.app (fun o ho hk=>?_)
  rw [List.mem_singleton] at ho
  subst ho
  cases hk
theorem ent_in {n:Nat} {ps:List P3} (H:Nat->Ht) (hn:0 < n) (h:PlcOk n ps) {e:En} (he:e ∈ entL H ps):0<=e.ad/\e.ad < (n * 16:Nat):=by
 obtain ⟨page,lv,hp,h1,h3,hmod,e1,e2,h0,e3⟩:=enTo_mem he
 have hf:=frOf_lt H hn h lv (page - page % (epg lv * 16):Nat)
 have hm:page / epg lv % 16 < 16:=Nat.mod_lt _ (by decide)
 rw [e3]
 omega
theorem planL_in {xs:List SpanE} {zs:List Int} {n:Nat} {ps:List P3} (hn:0 < n) (h:PlcOk n ps) (hw:(wPre (lay xs) 256).length<=n):OpsIn (n * 16) (planL zs n (lay xs) ps):=by
 unfold planL
 refine OpsIn.app (OpsIn.seal (fun o ho hk=>?_)) (OpsIn.app (OpsIn.seal (fun o ho hk=>?_)) (OpsIn.app (fun o ho hk=>?_) (OpsIn.app (OpsIn.seal (fun o ho hk=>?_)) (OpsIn.seal (fun o ho hk=>?_)))))
 ·unfold brkOps at ho
  obtain ⟨e,he,rfl⟩:=List.mem_map.1 ho
  exact ent_in (lay xs) hn h (List.mem_filter.1 he).1
 ·unfold tlbOps at ho
  obtain ⟨e,he,rfl⟩:=List.mem_map.1 ho
  cases hk
 ·unfold freeOps at ho
  obtain ⟨e,he,rfl⟩:=List.mem_map.1 ho
  cases hk
 ·unfold fillOps at ho
  obtain ⟨t,ht,ho⟩:=List.mem_flatMap.1 ho
  unfold fillOne at ho
  obtain ⟨i,hi,rfl⟩:=List.mem_map.1 ho
  obtain ⟨F,lv,pg,rfl,_,_,_,_,_,hF⟩:=all_mem hn h hw (List.mem_append_right _ ht)
  have:=List.mem_range.1 hi
  show 0<=(F:Int) * 16+(i:Nat)/\(F:Int) * 16+(i:Nat) < _
  omega
 ·unfold lnkOps at ho
  obtain ⟨e,he,rfl⟩:=List.mem_map.1 ho
  exact ent_in (lay xs) hn h (List.mem_filter.1 he).1
theorem planF_in (zs:List Int) (xs:List SpanE):OpsIn zs.length (planF zs xs).1:=by
 by_cases hpt:ptree zs=true
 ·by_cases hvb:vsB xs=true
  ·by_cases hfr:nfr zs.length < ((wPre (lay xs) 256).length:Nat)
   ·rw [planF_3 hpt hvb hfr]; intro o ho; cases ho
   ·rw [planF_0 hpt hvb hfr]
    have hnf:=ptree_nfr hpt
    obtain ⟨hnm,hn1⟩:=nfr_mul zs.length hnf
    obtain ⟨n,hnn⟩:∃ n:Nat,nfr zs.length=n:=⟨(nfr zs.length).toNat,by omega⟩
    have hpo:PlcOk n (plist zs):=by rw [<- hnn]; exact plcOk_plist zs hnf
    have hT:(nfr zs.length).toNat=n:=by rw [hnn]; rfl
    rw [hT]
    have:=planL_in (xs:=xs) (zs:=zs) (n:=n) (ps:=plist zs) (by omega) hpo (by omega)
    rwa [show n * 16=zs.length by omega] at this
  ·have hvb':vsB xs=false:=by simpa using hvb
   rw [planF_2 hpt hvb']; intro o ho; cases ho
 ·have hpt':ptree zs=false:=by simpa using hpt
  rw [planF_1 hpt']; intro o ho; cases ho
theorem planF_len0 (zs:List Int) (xs:List SpanE):(planF zs xs).1.length<=200000:=by
 by_cases hpt:ptree zs=true
 ·by_cases hvb:vsB xs=true
  ·by_cases hfr:nfr zs.length < ((wPre (lay xs) 256).length:Nat)
   ·rw [planF_3 hpt hvb hfr]; exact Nat.zero_le _
   ·rw [planF_0 hpt hvb hfr]
    have hnl:=nfr_le zs.length
    have hn0:=(nfr_mul zs.length (ptree_nfr hpt)).2
    have hlen:(newL (lay xs) (plist zs)).length<=(wPre (lay xs) 256).length:=frTo_len (keptL (lay xs) (plist zs)) (wPre (lay xs) 256) _ (Nat.le_refl _)
    have:=xAcc_len zs (lay xs) (nfr zs.length).toNat (keptL (lay xs) (plist zs)) (goneL (lay xs) (plist zs)) (newL (lay xs) (plist zs)) (by have:=ret_len (goneL (lay xs) (plist zs)) (nfr zs.length).toNat; omega) (by omega) 5
    rw [planL_acc] at this
    show (planL zs (nfr zs.length).toNat (lay xs) (plist zs)).length<=200000
    omega
  ·have hvb':vsB xs=false:=by simpa using hvb
   rw [planF_2 hpt hvb']; exact Nat.zero_le _
 ·have hpt':ptree zs=false:=by simpa using hpt
  rw [planF_1 hpt']; exact Nat.zero_le _
def zeroZ (F:Nat):List Int:=List.replicate (F * 16) 0
theorem zeroZ_len (F:Nat):(zeroZ F).length=F * 16:=by unfold zeroZ; simp
theorem zeroZ_at (F i:Nat):(zeroZ F).getD i 0=0:=by
 unfold zeroZ
 rw [List.getD_eq_getElem?_getD,List.getElem?_replicate]
 split <;> rfl
def buildF (xs:List SpanE) (fr:Int):List Int × Int :=
 if vsB xs=false then ([],1) else if fr < 1\/512 < fr then ([],2) else if (planF (zeroZ fr.toNat) xs).2 ≠ 0 then ([],3)
 else (wrs (zeroZ fr.toNat) (planF (zeroZ fr.toNat) xs).1,0)
theorem buildF_len (xs:List SpanE) (fr:Int):(buildF xs fr).1.length<=8192:=by
 unfold buildF
 split
 ·exact Nat.zero_le _
 ·split
  ·exact Nat.zero_le _
  ·split
   ·exact Nat.zero_le _
   ·show (wrs _ _).length<=8192
    rw [wrs_len,zeroZ_len]
    omega
def BuildPost (w:World) (r:List Int × Int) (e:Ending) (w':World):Prop :=
 ∃ a c,e=.returned (.tuple #[.agg #[.slice a r.1.length c],.int .i64 r.2])/\ERow eWord w' w.heap.size (.slice a r.1.length c) r.1/\Below w.heap.size w w'
theorem eWord_nil (w:World) (B:Nat):ERow eWord w B (.slice none 0 0) []:=⟨by simp [ecells],.inl ⟨rfl,rfl⟩⟩
theorem IRow.put {w:World} {g k:Nat} {zs:List Int} {x:Int} (h:IRow w g zs):IRow (w.setCell ⟨g,k,none⟩ (.int .u64 x)) g (zs.set k x):=by
 unfold IRow at h ⊢
 rw [List.length_set]
 refine (World.rowIs.set h k (.int .u64 x)).congr (fun i hi=>?_)
 rw [List.getD_eq_getElem?_getD,List.getD_eq_getElem?_getD,List.getElem?_set]
 by_cases e:i=k
 ·rw [if_pos e,if_pos e.symm,if_pos (by omega)]; rfl
 ·rw [if_neg e,if_neg (fun e2=>e e2.symm)]
theorem IRow.tch {w w':World} {g:Nat} {zs:List Int} {S:Nat->Prop} (h:IRow w g zs) (hg:Tch S w w') (hn:¬ S g):IRow w' g zs:=World.rowIs.of_block h (hg.block g h.lt hn)
theorem op_cells {w:World} {b g c n:Nat} {xs:List OpE} (h:ERow eOp w b (.slice (some ⟨g,0,none⟩) n c) xs) (i:Nat) (hi:i < xs.length):g < w.heap.size/\w.cell? ⟨g,i * 4,none⟩=some (.int .i64 (eAt eOp xs i).kind)/\w.cell? ⟨g,i * 4+1,none⟩=some (.int .i64 (eAt eOp xs i).a)/\w.cell? ⟨g,i * 4+2,none⟩=some (.int .i64 (eAt eOp xs i).b)/\w.cell? ⟨g,i * 4+3,none⟩=some (.int .u64 (eAt eOp xs i).word):=by
 obtain ⟨a,c',e,h1⟩:=h.form
 obtain ⟨g',N,f,e2,_,hr,hN,hf⟩:=h1 (by omega)
 have hN':xs.length * 4<=N:=hN
 simp only [Value.slice.injEq] at e
 obtain ⟨e,_,_⟩:=e
 rw [e2] at e
 simp only [Option.some.injEq,Addr.mk.injEq,and_true] at e
 subst e
 have a0:f (i * 4+0)=eCell eOp xs i 0:=hf i hi 0 (by decide)
 have a1:f (i * 4+1)=eCell eOp xs i 1:=hf i hi 1 (by decide)
 have a2:f (i * 4+2)=eCell eOp xs i 2:=hf i hi 2 (by decide)
 have a3:f (i * 4+3)=eCell eOp xs i 3:=hf i hi 3 (by decide)
 exact ⟨hr.lt,(hr.cell (by omega)).trans (congrArg some a0),(hr.cell (by omega)).trans (congrArg some a1),(hr.cell (by omega)).trans (congrArg some a2),(hr.cell (by omega)).trans (congrArg some a3)⟩
end Go.Proofs.YtnmhkgmmpkjjeacGreat
namespace Go.Proofs.YtnmhkgmmpkjjeacGreat
open Go.ChangeShapes Go.WideShapes Go.ChangeAt Go.RowKit
set_option linter.unusedVariables false
set_option maxRecDepth 100000
attribute [local go_sem ↓] Go.wp_at_zero Go.wp_at_succ
theorem eOp_nil (w:World) (B:Nat):ERow eOp w B (.slice none 0 0) []:=⟨by simp [ecells],.inl ⟨rfl,rfl⟩⟩
theorem nfr_quo (m:Nat) (h:nfr m ≠ 0):((m:Nat):Int) / 16=nfr m:=by
 have:=(nfr_mul m h).1
 omega
set_option maxHeartbeats 4000000 in
theorem implPlan_any (gz:Nat) (zs:List Int) (cz:Nat) (a:Option Addr) (cap b:Nat) (xs:List SpanE) (w:World) (hzl:zs.length<=1048576) (hcc:zs.length<=cz) (hzr:∀ i,0<=zs.getD i 0/\zs.getD i 0 < 2 ^ 64) (hz:CRow w gz zs) (hn:xs.length<=1048576) (hwf:∀ i,i < xs.length->wfS (eAt eSpan xs i)) (h:ERow eSpan w b (.slice a xs.length cap) xs) :
  Calls Tryz.prog 11 #[.agg #[.slice (some ⟨gz,0,none⟩) zs.length cz],.slice a xs.length cap] w fun e w'=>PlanPost w (planF zs xs) e w':=by
 obtain ⟨wb,hwb⟩:∃ wb,wb=w.alloc (.cells #[.slice (some ⟨gz,0,none⟩) zs.length cz] 31):=⟨_,rfl⟩
 have hbb:Below w.heap.size w wb:=by rw [hwb]; exact bal
 have hzb:wb.heap.size=w.heap.size+1:=by rw [hwb]; simp
 have q0:wb.cell? ⟨w.heap.size,0,none⟩=some (.slice (some ⟨gz,0,none⟩) zs.length cz):=by rw [hwb]; simp [go_sem]
 have hpc:=implPlaces_any gz zs cz hzl hcc hzr wb (hz.below hbb hz.lt)
 unfold PlacesPost at hpc
 have HVS:Hid (∀ wX,Below wb.heap.size wb wX->Calls Tryz.prog 44 #[.slice a xs.length cap] wX fun e w'=>e=.returned (.bool (vsB xs))/\Below wX.heap.size wX w'):=hidOf <| fun wX hX=>implVS_any a cap b xs wX hn hwf (h.below (hbb.trans (hX.mono (by omega))))
 have HH:Hid (∀ wX,VS xs->Below wb.heap.size wb wX->Calls Tryz.prog 45 #[.slice a xs.length cap] wX fun e w'=>e=.returned (.pointer (some ⟨wX.heap.size,0,none⟩))/\LayIs w' wX.heap.size (lay xs)/\Below wX.heap.size wX w'):=fun wX hv hX=>layoutOf_any a cap b xs wX hn hv (h.below (hbb.trans (hX.mono (by omega))))
 have HWB:Hid (wb=_):=hwb
 have HBB:Hid (Below w.heap.size w wb):=hbb
 have HZB:Hid (wb.heap.size=w.heap.size+1):=hzb
 have HQ0:Hid (wb.cell? ⟨w.heap.size,0,none⟩=some (.slice (some ⟨gz,0,none⟩) zs.length cz)):=q0
 have HCZ:Hid (CRow w gz zs):=hz
 have N0:w.heap.size < wb.heap.size:=by omega
 have hpl:=plist_length zs
 clear hwb hbb hzb q0 h hwf
 by_cases hpt:ptree zs=true
 ·rw [hpt] at hpc
  by_cases hvb:vsB xs=true
  ·rw [hvb] at HVS
   have hvs:=VS.of_true hvb
   have hnf:=ptree_nfr hpt
   obtain ⟨hnm,hn1⟩:=nfr_mul zs.length hnf
   have hnl:=nfr_le zs.length
   have hnq:=nfr_quo zs.length hnf
   obtain ⟨n,hnn⟩:∃ n:Nat,nfr zs.length=n:=⟨(nfr zs.length).toNat,by omega⟩
   by_cases hfr:nfr zs.length < ((wPre (lay xs) 256).length:Nat)
   ·rw [planF_3 hpt hvb hfr]
    have dN:decide ((n:Int) < ((wPre (lay xs) 256).length:Int))=true:=decide_eq_true (by omega)
    have dN2:decide (n < (wPre (lay xs) 256).length)=true:=decide_eq_true (by omega)
    have pN:n < (wPre (lay xs) 256).length:=by omega
    rw [hnn] at hnq
    clear hfr hnm hn1 hnl hnf hnn hpt hvb hzr hz
    go_enter Tryz.func11,Tryz.ntmps11
    go_wp2_with fail
    rw [<- HWB.out]
    refine hpc.mono ?_
    rintro e w1 ⟨ap,cp,rfl,hrp,hb1⟩
    have hv:=HVS.out w1 hb1
    have HB1:Hid (Below wb.heap.size wb w1):=hb1
    clear hpc hrp hb1
    go_wp2_with fail
    refine hv.mono ?_
    rintro e w2 ⟨rfl,hb2⟩
    have b2:Below wb.heap.size wb w2:=HB1.out.trans (hb2.mono HB1.out.size)
    have hh:=HH.out w2 hvs b2
    have HB2:Hid (Below wb.heap.size wb w2):=b2
    clear hv hb2 b2
    go_wp2_with fail
    refine hh.mono ?_
    rintro e w3 ⟨rfl,hl3,hb3⟩
    have b3:Below wb.heap.size wb w3:=HB2.out.trans (hb3.mono HB2.out.size)
    have hse:=seats_any _ _ w3 hl3
    have HB3:Hid (Below wb.heap.size wb w3):=b3
    clear hh hl3 hb3 b3
    go_wp2_with fail
    refine hse.mono ?_
    rintro e w4 ⟨gw,cw,rfl,hrw,hb4⟩
    have b4:Below wb.heap.size wb w4:=HB3.out.trans (hb4.mono HB3.out.size)
    have m4:w4.cell? ⟨w.heap.size,0,none⟩=some (.slice (some ⟨gz,0,none⟩) zs.length cz):=(b4.cell (p:=⟨w.heap.size,0,none⟩) N0).trans HQ0.out
    have HB4:Hid (Below w.heap.size w w4):=HBB.out.trans (b4.mono (by omega))
    clear hse hrw hb4 b4
    go_wp2_with fail
    go_ret2
    exact ⟨none,0,rfl,eOp_nil _ _,HB4.out⟩
   ·rw [planF_0 hpt hvb hfr]
    have dN:decide ((n:Int) < ((wPre (lay xs) 256).length:Int))=false:=decide_eq_false (by omega)
    have dN2:decide (n < (wPre (lay xs) 256).length)=false:=decide_eq_false (by omega)
    have pN:¬ n < (wPre (lay xs) 256).length:=by omega
    have HPO:Hid (PlcOk n (plist zs)):=hidOf <| by rw [<- hnn]; exact plcOk_plist zs hnf
    have hT:(nfr zs.length).toNat=n:=by rw [hnn]; rfl
    have HNZ:Hid (zs.length=n * 16/\0 < n/\n<=512/\(wPre (lay xs) 256).length<=n):=hidOf <| ⟨by omega,by omega,by omega,by omega⟩
    have HZR:Hid (∀ i,0<=zs.getD i 0/\zs.getD i 0 < 18446744073709551616):=hzr
    rw [hT,<- planL_acc]
    rw [hnn] at hnq
    obtain ⟨ps,hps⟩:∃ ps,plist zs=ps:=⟨_,rfl⟩
    rw [hps] at HPO hpl hpc ⊢
    obtain ⟨XX,hXX⟩:∃ XX,xAcc zs (lay xs) n (keptL (lay xs) ps) (goneL (lay xs) ps) (newL (lay xs) ps) 5=XX:=⟨_,rfl⟩
    rw [hXX]
    have HXX:Hid (xAcc zs (lay xs) n (keptL (lay xs) ps) (goneL (lay xs) ps) (newL (lay xs) ps) 5=XX):=hXX
    clear hXX
    clear hfr hnm hn1 hnl hnf hnn hpt hvb hzr hz hT hps
    go_enter Tryz.func11,Tryz.ntmps11
    go_wp2_with fail
    rw [<- HWB.out]
    refine hpc.mono ?_
    rintro e w1 ⟨ap,cp,rfl,hrp,hb1⟩
    have hv:=HVS.out w1 hb1
    have HB1:Hid (Below wb.heap.size wb w1):=hb1
    have HR1:Hid (PRow w1 wb.heap.size (.slice ap ps.length cp) ps):=hrp
    clear hpc hrp hb1
    go_wp2_with fail
    refine hv.mono ?_
    rintro e w2 ⟨rfl,hb2⟩
    have b2:Below wb.heap.size wb w2:=HB1.out.trans (hb2.mono HB1.out.size)
    have hh:=HH.out w2 hvs b2
    have HB2:Hid (Below wb.heap.size wb w2):=b2
    have HR2:Hid (PRow w2 wb.heap.size (.slice ap ps.length cp) ps):=HR1.out.below hb2
    clear hv hb2 b2
    go_wp2_with fail
    refine hh.mono ?_
    rintro e w3 ⟨rfl,hl3,hb3⟩
    have b3:Below wb.heap.size wb w3:=HB2.out.trans (hb3.mono HB2.out.size)
    have hse:=seats_any _ _ w3 hl3
    have HB3:Hid (Below wb.heap.size wb w3):=b3
    have HR3:Hid (PRow w3 wb.heap.size (.slice ap ps.length cp) ps):=HR2.out.below hb3
    have HL3:Hid (LayIs w3 w2.heap.size (lay xs)):=hl3
    clear hh hl3 hb3 b3
    go_wp2_with fail
    refine hse.mono ?_
    rintro e w4 ⟨gw,cw,rfl,hrw,hb4⟩
    have b4:Below wb.heap.size wb w4:=HB3.out.trans (hb4.mono HB3.out.size)
    have m4:w4.cell? ⟨w.heap.size,0,none⟩=some (.slice (some ⟨gz,0,none⟩) zs.length cz):=(b4.cell (p:=⟨w.heap.size,0,none⟩) N0).trans HQ0.out
    have HB4:Hid (Below w.heap.size w w4):=HBB.out.trans (b4.mono (by omega))
    have HR4:Hid (PRow w4 wb.heap.size (.slice ap ps.length cp) ps):=HR3.out.below hb4
    have HL4:Hid (LayIs w4 w2.heap.size (lay xs)):=HL3.out.below hb4
    have HW4:Hid (ERow eSeat w4 w3.heap.size (.slice (some ⟨gw,0,none⟩) (wPre (lay xs) 256).length cw) (wPre (lay xs) 256)):=hrw
    obtain ⟨wP,hwP⟩:∃ wP,wP=(w4.alloc (.map #[] 0)).alloc (.cells #[.slice (some ⟨gz,0,none⟩) zs.length cz,.pointer (some ⟨w2.heap.size,0,none⟩),.map (some w4.heap.size),.slice none 0 0,.slice none 0 0] 94):=⟨_,rfl⟩
    have hbP:Below w4.heap.size w4 wP:=by rw [hwP]; exact ((Below.refl _ _).alloc (Nat.le_refl _) _).alloc (by simp) _
    have hzP:wP.heap.size=w4.heap.size+2:=by rw [hwP]; simp
    have hl4:=HL4.out.lt
    have hw4:w.heap.size<=w4.heap.size:=HB4.out.size
    have hgz:=HCZ.out.lt
    have hN:=HNZ.out
    have hsep:Sep wP (w4.heap.size+1) gz w2.heap.size w4.heap.size:=⟨by omega,by omega,by omega,by omega,by omega,by omega,by omega,by omega,by omega⟩
    have hpst:PSt wP (w4.heap.size+1) gz cz w2.heap.size w4.heap.size zs (lay xs) []:=by
     refine ⟨by omega,by rw [hwP]; simp [go_sem],by rw [hwP]; simp [go_sem],by rw [hwP]; simp [go_sem],HCZ.out.below (HB4.out.trans (hbP.mono hw4)) hgz,HL4.out.below hbP,?_⟩
     have hm:=MapIs.new w4
     refine hm.of_block ?_
     rw [hwP]
     exact Below.heap_alloc _ _ _ (by simp)
    have hset:=settle_any (w4.heap.size+1) gz cz w2.heap.size w4.heap.size zs (lay xs) n ps ap cp wb.heap.size gw cw w3.heap.size wP hsep hpst (by rw [hwP]; simp [go_sem]) (by rw [hwP]; simp [go_sem]) (fun i=>by rw [hwP]; simp [go_sem]) hN.1 hN.2.1 hN.2.2.1 HPO.out (by omega) hN.2.2.2 (HR4.out.below hbP) (fun k hk hh=>by
     have h9:=World.ownsRow.lt HR4.out k (by rw [own_sl]; exact hk)
     omega) (HW4.out.below hbP) (fun hh=>by
     have h9:=(HW4.out.own gw rfl).2
     omega)
    have HPG:Hid (∀ w5 aR cR aC cC,SS wP w5 (w4.heap.size+1) gz cz w2.heap.size w4.heap.size zs (lay xs) (hmOf (keptL (lay xs) ps) (newL (lay xs) ps)) aR cR (retL (goneL (lay xs) ps) n) aC cC (newL (lay xs) ps)->Calls Tryz.prog 48 #[.pointer (some ⟨w4.heap.size+1,0,none⟩)] w5 fun r w'=>∃ a c,r=.returned (.slice a XX.length c)/\ERow eOp w' w5.heap.size (.slice a XX.length c) XX/\Below w5.heap.size w5 w'):=hidOf <| fun w5 aR cR aC cC hS=>by
     have h9:=program_any w5 _ gz cz _ _ zs (lay xs) n _ _ _ aR aC cR _ cC _ (progIn_mk hvs hN.2.1 hN.2.2.1 hN.1 HZR.out HPO.out hN.2.2.2 hS)
     rw [HXX.out] at h9
     exact h9
    have HWP:Hid (wP=_):=hwP
    have HBP:Hid (Below w.heap.size w wP):=HB4.out.trans (hbP.mono hw4)
    have hmk:(Instr.makeMap 89 none).run Tryz.prog w4=.ok (.map (some w4.heap.size)) (w4.alloc (.map #[] 0)):=rfl
    clear hse hrw hb4 b4 hwP hbP hzP hsep hpst hN HH HVS
    go_wp2_with fail
    rw [<- HWP.out]
    refine hset.mono ?_
    rintro e w5 ⟨rfl,aR,cR,aC,cC,hS⟩
    have hpg:=HPG.out w5 aR cR aC cC hS
    have HB5:Hid (Below w.heap.size w w5):=hidOf <| ((Tch.of_below (S:=fun k=>w.heap.size<=k) HBP.out).then hS.tch (fun k hk hh=>by rcases hh with e | e <;> omega)).below (fun k hk hh=>by omega)
    clear hset hS HPG
    go_wp2_with fail
    refine hpg.mono ?_
    rintro e w6 ⟨a6,c6,rfl,hr6,hb6⟩
    clear hpg
    have HF:Hid (PlanPost w (XX,0) (.returned (.tuple #[.slice a6 XX.length c6,.int .i64 0])) w6):=hidOf <| ⟨a6,c6,rfl,hr6.rebase HB5.out.size,HB5.out.trans (hb6.mono HB5.out.size)⟩
    clear hr6 hb6
    go_wp2_with fail
    go_ret2
    exact HF.out
  ·have hvb':vsB xs=false:=by simpa using hvb
   rw [planF_2 hpt hvb']
   rw [hvb'] at HVS
   clear hvb hvb' hpt hzr hz HH
   go_enter Tryz.func11,Tryz.ntmps11
   go_wp2_with fail
   rw [<- HWB.out]
   refine hpc.mono ?_
   rintro e w1 ⟨ap,cp,rfl,hrp,hb1⟩
   have hv:=HVS.out w1 hb1
   have HB1:Hid (Below wb.heap.size wb w1):=hb1
   clear hpc hrp hb1
   go_wp2_with fail
   refine hv.mono ?_
   rintro e w2 ⟨rfl,hb2⟩
   have HB2:Hid (Below w.heap.size w w2):=HBB.out.trans ((HB1.out.trans (hb2.mono HB1.out.size)).mono (by omega))
   clear hv hb2
   go_wp2_with fail
   go_ret2
   exact ⟨none,0,rfl,eOp_nil _ _,HB2.out⟩
 ·have hpt':ptree zs=false:=by simpa using hpt
  rw [planF_1 hpt']
  rw [hpt'] at hpc
  clear hpt hpt' hzr hz HH HVS
  go_enter Tryz.func11,Tryz.ntmps11
  go_wp2_with fail
  rw [<- HWB.out]
  refine hpc.mono ?_
  rintro e w1 ⟨ap,cp,rfl,hrp,hb1⟩
  have HB1:Hid (Below w.heap.size w w1):=HBB.out.trans (hb1.mono (by omega))
  clear hpc hrp hb1
  go_wp2_with fail
  go_ret2
  exact ⟨none,0,rfl,eOp_nil _ _,HB1.out⟩
end Go.Proofs.YtnmhkgmmpkjjeacGreat
