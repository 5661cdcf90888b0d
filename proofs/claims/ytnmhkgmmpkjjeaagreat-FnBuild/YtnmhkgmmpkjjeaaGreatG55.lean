import Derived.Test.YtnmhkgmmpkjjeaaGreatG01
import Derived.Test.YtnmhkgmmpkjjeaaGreatG54
import Derived.Test.YtnmhkgmmpkjjeaaGreatG28
import Derived.Test.YtnmhkgmmpkjjeaaGreatG26
import Derived.Test.YtnmhkgmmpkjjeaaGreatG47
import Derived.Test.YtnmhkgmmpkjjeaaGreatG49
import Derived.Test.YtnmhkgmmpkjjeaaGreatG34
import Derived.Test.YtnmhkgmmpkjjeaaGreatG05
import Derived.Test.YtnmhkgmmpkjjeaaGreatG02
import Derived.ChangeOld
import Derived.Lib.SmallJoins
namespace Go.Proofs.YtnmhkgmmpkjjeaaGreat
open Go.ChangeShapes Go.WideShapes Go.ChangeAt Go.RowKit
set_option linter.unusedVariables false
attribute [local go_sem ↓] Go.wp_at_zero Go.wp_at_succ
theorem walkM_bare (zs:List Int) (page:Int):walkM (bare zs) page 0=goM page 0 2 (bare zs) 1 0 false:=by
 unfold walkM
 rw [start_off (bit0 0)]
 rfl
theorem ERow.nil {α:Type} (E:Elt α) (w:World) (b:Nat):ERow E w b (.slice none 0 0) []:=⟨by simp [ecells],.inl ⟨rfl,rfl⟩⟩
set_option maxHeartbeats 2000000 in
theorem implWalkE_any (g c b:Nat) (zs:List Int) (page:Int) (hlen:zs.length<=1048576) (hr:∀ i,0<=zs.getD i 0/\zs.getD i 0 < 2 ^ 64) (w:World) (hg:ERow eWord w b (.slice (some ⟨g,0,none⟩) zs.length c) zs) :
  Calls Tryz.prog 27 #[.agg #[.slice (some ⟨g,0,none⟩) zs.length c],.int .i64 page] w fun e w'=>e=.returned (hitV (walkZ zs page))/\Below w.heap.size w w':=by
 have hvm:=valid_any (some ⟨g,0,none⟩) zs.length c (by omega)
 have hpk:=validPage_any page
 unfold walkZ
 by_cases h0:nfr zs.length=0
 ·rw [if_pos (.inl h0)]
  simp only [h0,decide_true,Bool.not_true] at hvm
  unfold hitV
  go_enter Tryz.func27,Tryz.ntmps27
  go_wp2_with (go_at_call 87; refine (hvm _).mono ?_; rintro e w1 ⟨rfl,hb1⟩; obtain ⟨hc1,hf1⟩:=bcell hb1)
  exact bodyPost_ret (v:=.agg #[.int .i64 0,.int .i64 0,.int .i64 0,.int .i64 0]) (by simp [results,Tryz.results27,go_sem,hc1]) rfl ⟨rfl,(((((((Below.refl _ _).alloc (Nat.le_refl _) _).alloc (by simp) _).trans (hb1.mono (by simp; omega))).setCell (by simp) _).setCell (by simp) _).setCell (by simp) _).setCell (by simp) _⟩
 ·simp only [h0,decide_false,Bool.not_false] at hvm
  cases hp:pageOk page
  ·rw [if_pos (.inr rfl)]
   rw [hp] at hpk
   unfold hitV
   clear h0
   go_enter Tryz.func27,Tryz.ntmps27
   go_wp2_with (first | (go_at_call 87; refine (hvm _).mono ?_; rintro e w1 ⟨rfl,hb1⟩; obtain ⟨hc1,hf1⟩:=bcell hb1) | (go_at_call 90; refine (hpk _).mono ?_; rintro e wE ⟨rfl,hwE⟩; obtain rfl:=hwE.symm))
   exact bodyPost_ret (v:=.agg #[.int .i64 0,.int .i64 0,.int .i64 0,.int .i64 0]) (by simp [results,Tryz.results27,go_sem,hc1]) rfl ⟨rfl,(((((((Below.refl _ _).alloc (Nat.le_refl _) _).alloc (by simp) _).trans (hb1.mono (by simp; omega))).setCell (by simp) _).setCell (by simp) _).setCell (by simp) _).setCell (by simp) _⟩
  ·rw [if_neg (by simp [h0])]
   rw [hp] at hpk
   have hpp:0<=page/\page < 4096:=by simpa [pageOk] using hp
   have hn:=nfr_mul zs.length h0
   have hgl:=(hg.own g rfl).2
   have hrow:=hg.rebase (Nat.zero_le b)
   obtain ⟨R,hR⟩:∃ R,R=(goM page 0 2 (bare zs) 1 0 false).2:=⟨_,rfl⟩
   rw [<- hR]
   have HWK:Hid (∀ (wX:World) (gu:Nat),Below w.heap.size w wX->w.heap.size<=gu->gu < wX.heap.size->wX.cell? ⟨gu,0,none⟩=some (.slice (some ⟨g,0,none⟩) zs.length c)->wX.cell? ⟨gu,1,none⟩=some (.slice none 0 0)->wX.cell? ⟨gu,2,none⟩=some (.slice none 0 0)->wX.cell? ⟨gu,3,none⟩=some (.slice none 0 0)->wX.cell? ⟨gu,4,none⟩=some (.slice none 0 0)->wX.frozen? ⟨gu,2,none⟩=false->wX.frozen? ⟨gu,3,none⟩=false->wX.frozen? ⟨gu,4,none⟩=false ->
     Calls Tryz.prog 91 #[.pointer (some ⟨gu,0,none⟩),.int .i64 page,.int .i64 0] wX fun r w'=>r=.returned (hitV R)/\Touch (fun k=>k=gu) wX w'):=by
    intro wX gu hX hgu hgu2 c0 c1 c2 c3 c4 f2 f3 f4
    have hum:UM wX gu 0 0 false ⟨some ⟨g,0,none⟩,c,none,0,0,none,0,none,0,none,0⟩ (bare zs):=by
     refine ⟨hgu2,c0,c1,c2,c3,c4,f2,f3,f4,hrow.below hX,fun h=>by (cases h),ERow.nil _ _ _,ERow.nil _ _ _,ERow.nil _ _ _,?_,fun k hk=>by (cases hk)⟩
     refine ⟨?_,?_,?_,?_,?_,?_,?_,?_,?_,?_,?_,?_⟩
     ·intro e
      have:g=gu:=by simpa [UV.o1,oOf,Value.ownBlock] using e
      omega
     all_goals (intro k; first | (intro h; cases h) | (cases k))
    have hwk:=walk_any gu 0 0 false _ (bare zs) page 0 wX hpp.1 hpp.2 (by omega) (by omega) ⟨h0,hr,fun i=>by simp [bare,eAt,eWrite],by simp [bare],by simp [bare],by simp [bare]⟩ (Nat.zero_le _) (fun i hi=>by simp [bare] at hi)
     (by rw [start_off (bit0 0)]; exact ⟨by decide,by decide,by decide,by show (0:Int) < nfr zs.length; omega⟩) (.inr (fun l _ _=>bit0 l)) (fun h=>by cases h) hum
    refine hwk.mono ?_
    rintro r w' ⟨rfl,u',hst⟩
    rw [walkM_bare,<- hR]
    refine ⟨rfl,hst.tch.os,hst.tch.tape,hst.tch.output,hst.tch.size,fun k hk hn'=>hst.tch.block k hk ?_⟩
    rintro (e | e | e)
    ·exact hn' e
    ·cases e
    ·cases e
   clear h0 hp hg hR hrow hr hn
   unfold hitV at *
   go_enter Tryz.func27,Tryz.ntmps27
   go_wp2_with (first | (go_at_call 87; refine (hvm _).mono ?_; rintro e w1 ⟨rfl,hb1⟩; obtain ⟨hc1,hf1⟩:=bcell hb1) | (go_at_call 90; refine (hpk _).mono ?_; rintro e wE ⟨rfl,hwE⟩; obtain rfl:=hwE.symm))
   have B1:Below w.heap.size w w1:=(((Below.refl _ _).alloc (Nat.le_refl _) _).alloc (by simp) _).trans (hb1.mono (by simp; omega))
   have s1:=hb1.size
   simp at s1
   have r1:∀ i,i < 4->w1.cell? ⟨w.heap.size+1,i,none⟩=some (.int .i64 0):=fun i hi=>by
    rw [hc1 (w.heap.size+1) i (by simp)]
    match i,hi with
    | 0,_=>simp [go_sem]
    | 1,_=>simp [go_sem]
    | 2,_=>simp [go_sem]
    | 3,_=>simp [go_sem]
    | i+4,h=>omega
   have g1:∀ i,w1.frozen? ⟨w.heap.size+1,i,none⟩=false:=fun i=>by
    rw [hf1 (w.heap.size+1) i (by simp)]
    simp [go_sem]
   refine (HWK.out _ w1.heap.size (B1.alloc (by omega) _) (by omega) (by simp) ?_ ?_ ?_ ?_ ?_ ?_ ?_ ?_).mono ?_
   iterate 5 (simp [go_sem])
   iterate 3 (simp [go_sem])
   rintro e w2 ⟨rfl,ht⟩
   have s2:=ht.size
   simp at s2
   have hk2:w2.heap[w.heap.size+1]?=w1.heap[w.heap.size+1]?:=(ht.block (w.heap.size+1) (by simp; omega) (by show ¬ (w.heap.size+1=w1.heap.size); omega)).trans (heap_alloc_old w1 _ (by omega))
   have z0:=(World.cell?_of_block (a:=⟨w.heap.size+1,0,none⟩) hk2).trans (r1 0 (by omega))
   have z1:=(World.cell?_of_block (a:=⟨w.heap.size+1,1,none⟩) hk2).trans (r1 1 (by omega))
   have z2:=(World.cell?_of_block (a:=⟨w.heap.size+1,2,none⟩) hk2).trans (r1 2 (by omega))
   have z3:=(World.cell?_of_block (a:=⟨w.heap.size+1,3,none⟩) hk2).trans (r1 3 (by omega))
   have f0:=(World.frozen?_of_block (a:=⟨w.heap.size+1,0,none⟩) hk2).trans (g1 0)
   have f1:=(World.frozen?_of_block (a:=⟨w.heap.size+1,1,none⟩) hk2).trans (g1 1)
   have f2:=(World.frozen?_of_block (a:=⟨w.heap.size+1,2,none⟩) hk2).trans (g1 2)
   have f3:=(World.frozen?_of_block (a:=⟨w.heap.size+1,3,none⟩) hk2).trans (g1 3)
   have HB2:Hid (Below w.heap.size w w2):=Touch.below (B1.alloc (by omega) _) ht (by simp; omega) (fun k hk=>by omega)
   clear ht hk2 r1 g1 hb1 hc1 hf1 B1
   go_wp2_with fail
   exact bodyPost_ret (v:=.agg #[.int .i64 R.kind,.int .i64 R.out,.int .i64 R.perm,.int .i64 R.size]) (by simp [results,Tryz.results27,go_sem,z0,z1,z2,z3]) rfl ⟨rfl,(((HB2.out.setCell (by simp) _).setCell (by simp) _).setCell (by simp) _).setCell (by simp) _⟩
end Go.Proofs.YtnmhkgmmpkjjeaaGreat
namespace Go.Proofs.YtnmhkgmmpkjjeaaGreat
open Go.ChangeShapes Go.WideShapes Go.ChangeAt Go.RowKit
set_option linter.unusedVariables false
set_option linter.unusedSimpArgs false
set_option maxRecDepth 100000
attribute [local go_sem ↓] Go.wp_at_zero Go.wp_at_succ
theorem sameHit (A B C D:Int) (w:World) :
  Calls Tryz.prog 18 #[.agg #[.int .i64 A,.int .i64 B,.int .i64 C,.int .i64 D],.agg #[.int .i64 A,.int .i64 B,.int .i64 C,.int .i64 D]] w fun e w'=>e=.returned (.bool true)/\Below w.heap.size w w':=by
 go_enter Tryz.func18,Tryz.ntmps18
 go_wp2
 go_ret
 exact ⟨rfl,((Below.refl _ _).alloc (Nat.le_refl _) _).alloc (by simp) _⟩
theorem ew_row {w:World} {b c:Nat} {a:Option Addr} {zs:List Int} (h:ERow eWord w b (.slice a zs.length c) zs) (h0:0 < zs.length):∃ g,a=some ⟨g,0,none⟩/\b<=g/\zs.length<=c/\CRow w g zs:=by
 have h':=h
 rcases h.2 with ⟨e,h0'⟩ | ⟨g,cap,cur,e,hb,hg,hn,hm,hs,ht⟩
 ·omega
 ·simp only [Value.slice.injEq] at e
  obtain ⟨rfl,_,rfl⟩:=e
  refine ⟨g,rfl,hb,hn,?_,?_⟩
  ·exact (h.own g rfl).2
  ·intro i hi
   have hc:=ERow.cellsA h' i hi
   have:=hc.2 0 (by decide) w rfl
   simpa [eCell,eAt,eWord,List.getD_eq_getElem?_getD] using this
set_option maxHeartbeats 8000000 in
theorem fb_walk (a:Option Addr) (cap:Nat) (cs:List Int) (w:World) (hc:Byt cs) (hs:BAt w a cs) :
  Calls Tryz.prog 6 #[.slice a cs.length cap] w fun e w'=>e=.returned (.bool true)/\Below w.heap.size w w':=by
 have HD:Hid (∀ wX,Below w.heap.size w wX->Calls Tryz.prog 29 #[.slice a cs.length cap] wX fun e w'=>∃ g c,e=.returned (.tuple #[.slice (some ⟨g,0,none⟩) (bdS cs).length c,.int .i64 (bdN cs)])/\ERow eSpan w' wX.heap.size (.slice (some ⟨g,0,none⟩) (bdS cs).length c) (bdS cs)/\Below wX.heap.size wX w'):=hidP fun wX hX=>drawBuild_any a cap cs wX hc (hs.below hX)
 obtain ⟨hl,hq⟩:=bdS_q cs
 obtain ⟨n0,n1⟩:=bdN_b cs hc
 have hwf:∀ i,i < (bdS cs).length->wfS (eAt eSpan (bdS cs) i):=fun i hi=>(hq i hi).wf
 have HSB:Hid (∀ g c b wX,ERow eSpan wX b (.slice (some ⟨g,0,none⟩) (bdS cs).length c) (bdS cs)->Calls Tryz.prog 15 #[.slice (some ⟨g,0,none⟩) (bdS cs).length c,.int .i64 (bdN cs)] wX fun e w'=>BuildPost wX (buildF (bdS cs) (bdN cs)) e w'):=hidP fun g c b wX hr=>specBuild_any _ c b _ _ wX (by omega) (by omega) (by omega) hwf hr
 have HIB:Hid (∀ g c b wX,ERow eSpan wX b (.slice (some ⟨g,0,none⟩) (bdS cs).length c) (bdS cs)->Calls Tryz.prog 12 #[.slice (some ⟨g,0,none⟩) (bdS cs).length c,.int .i64 (bdN cs)] wX fun e w'=>BuildPost wX (buildF (bdS cs) (bdN cs)) e w'):=hidP fun g c b wX hr=>implBuild_any _ c b _ _ wX (by omega) (by omega) (by omega) hwf hr
 have HTN:Hid (∀ g c b wX,ERow eSpan wX b (.slice (some ⟨g,0,none⟩) (bdS cs).length c) (bdS cs)->Calls Tryz.prog 30 #[.slice (some ⟨g,0,none⟩) (bdS cs).length c] wX fun e w'=>e=.returned (.int .i64 (tnF (bdS cs)))/\Below wX.heap.size wX w'):=hidP fun g c b wX hr=>implTN_any _ c b _ wX (by omega) hwf hr
 have HAT:Hid (∀ (p:Nat) g c b wX,ERow eSpan wX b (.slice (some ⟨g,0,none⟩) (bdS cs).length c) (bdS cs)->Calls Tryz.prog 20 #[.slice (some ⟨g,0,none⟩) (bdS cs).length c,.int .i64 (p:Int)] wX fun e w'=>e=.returned (.agg #[.int .i64 (atA (bdS cs) p).k,.int .i64 (atA (bdS cs) p).o,.int .i64 (atA (bdS cs) p).p,.int .i64 (atA (bdS cs) p).s])/\Below wX.heap.size wX w'):=hidP fun p g c b wX hr=>specAt_any _ c b _ p wX (by omega) hwf hr
 have HOK:Hid ((buildF (bdS cs) (bdN cs)).2=0->BldOk (bdS cs) (bdN cs) (buildF (bdS cs) (bdN cs)).1):=hidP (build_ok _ _)
 have HNO:Hid ((buildF (bdS cs) (bdN cs)).2 ≠ 0->(buildF (bdS cs) (bdN cs)).1=[]):=hidP (build_no _ _)
 have HLN:Hid ((buildF (bdS cs) (bdN cs)).1.length<=8192):=hidP (buildF_len _ _)
 have hlen:=hc.1
 have hK:¬ (1048576:Int) < (cs.length:Int):=by omega
 clear hc hs hq hwf
 generalize bdN cs=n at *
 generalize bdS cs=xs at *
 generalize buildF xs n=R at *
 obtain ⟨A,C⟩:=R
 refine calls_o 82 Tryz.func6 rfl (by rfl) (by simp) ?_
 intro tm hsz hl
 have s0:=hl 0 (by simp)
 clear hl
 simp only [List.getElem_toArray,List.getElem_cons_zero,List.getElem_cons_succ] at s0
 go_upto_if 16 with fail
 refine cF (by go_simp <;> omega) ?_
 have t1:=HD.out w (Below.refl _ _)
 go_wp2_with fail
 refine t1.mono ?_
 rintro e w1 ⟨g1,c1,rfl,hr1,hb1⟩
 have HR1:Hid (ERow eSpan w1 w.heap.size (.slice (some ⟨g1,0,none⟩) xs.length c1) xs):=hr1
 have HB1:Hid (Below w.heap.size w w1):=hb1
 have t2:=HD.out w1 hb1
 clear t1 hr1 hb1 HD
 go_wp2_with fail
 refine t2.mono ?_
 rintro e w2 ⟨g2,c2,rfl,hr2,hb2⟩
 have HR1':Hid (ERow eSpan w2 w.heap.size (.slice (some ⟨g1,0,none⟩) xs.length c1) xs):=hidP (HR1.out.below hb2)
 have HR2:Hid (ERow eSpan w2 w.heap.size (.slice (some ⟨g2,0,none⟩) xs.length c2) xs):=hidP (hr2.rebase HB1.out.size)
 have HB2:Hid (Below w.heap.size w w2):=hidP (HB1.out.trans (hb2.mono HB1.out.size))
 have t3:=HSB.out g2 c2 _ w2 HR2.out
 clear t2 hr2 hb2 HR1 HB1 HSB
 go_wp2_with fail
 refine t3.mono ?_
 rintro e w3 ⟨a3,c3,rfl,hr3,hb3⟩
 have HR1:Hid (ERow eSpan w3 w.heap.size (.slice (some ⟨g1,0,none⟩) xs.length c1) xs):=hidP (HR1'.out.below hb3)
 have HR3:Hid (ERow eSpan w3 w.heap.size (.slice (some ⟨g2,0,none⟩) xs.length c2) xs):=hidP (HR2.out.below hb3)
 have HB3:Hid (Below w.heap.size w w3):=hidP (HB2.out.trans (hb3.mono HB2.out.size))
 clear t3 hr3 hb3 HR1' HR2 HB2
 dsimp only
 go_upto_region 6 with fail
 obtain ⟨w4,hw4⟩:∃ w4,w4=w3.alloc (.cells #[.slice a3 A.length c3] 35):=⟨_,rfl⟩
 rw [<- hw4]
 have hb4:Below w3.heap.size w3 w4:=by rw [hw4]; exact bal
 have HR4:Hid (ERow eSpan w4 w.heap.size (.slice (some ⟨g1,0,none⟩) xs.length c1) xs):=hidP (HR1.out.below hb4)
 have HR5:Hid (ERow eSpan w4 w.heap.size (.slice (some ⟨g2,0,none⟩) xs.length c2) xs):=hidP (HR3.out.below hb4)
 have HB4:Hid (Below w.heap.size w w4):=hidP (HB3.out.trans (hb4.mono HB3.out.size))
 have t4:=HIB.out g1 c1 _ w4 HR4.out
 clear hw4 hb4 HR1 HR3 HB3 HIB
 go_wp2_with fail
 refine t4.mono ?_
 rintro e w5 ⟨a5,c5,rfl,hr5,hb5⟩
 have HA5:Hid (ERow eWord w5 w4.heap.size (.slice a5 A.length c5) A):=hr5
 have HR6:Hid (ERow eSpan w5 w.heap.size (.slice (some ⟨g1,0,none⟩) xs.length c1) xs):=hidP (HR4.out.below hb5)
 have HR7:Hid (ERow eSpan w5 w.heap.size (.slice (some ⟨g2,0,none⟩) xs.length c2) xs):=hidP (HR5.out.below hb5)
 have HB5:Hid (Below w.heap.size w w5):=hidP (HB4.out.trans (hb5.mono HB4.out.size))
 clear t4 hr5 hb5 HR4 HR5 HB4
 dsimp only
 go_upto_region 7 with fail
 obtain ⟨w6,hw6⟩:∃ w6,w6=w5.alloc (.cells #[.slice a5 A.length c5] 35):=⟨_,rfl⟩
 rw [<- hw6]
 have hb6:Below w5.heap.size w5 w6:=by rw [hw6]; exact bal
 have hm6:w6.cell? ⟨w5.heap.size,0,none⟩=some (.slice a5 A.length c5):=by rw [hw6]; simp [go_sem]
 have hz6:w5.heap.size < w6.heap.size:=by rw [hw6]; simp
 have HA6:Hid (ERow eWord w6 w4.heap.size (.slice a5 A.length c5) A):=hidP (HA5.out.below hb6)
 have HR8:Hid (ERow eSpan w6 w.heap.size (.slice (some ⟨g1,0,none⟩) xs.length c1) xs):=hidP (HR6.out.below hb6)
 have HR9:Hid (ERow eSpan w6 w.heap.size (.slice (some ⟨g2,0,none⟩) xs.length c2) xs):=hidP (HR7.out.below hb6)
 have HB6:Hid (Below w.heap.size w w6):=hidP (HB5.out.trans (hb6.mono HB5.out.size))
 clear hw6 hb6 HA5 HR6 HR7 HB5
 generalize w5.heap.size=M at *
 refine wp_narrow 82 [(3,.slice (some ⟨g1,0,none⟩) xs.length c1),(4,.int .i64 n),(5,.slice (some ⟨g2,0,none⟩) xs.length c2),(8,.int .i64 C),(9,.pointer (some ⟨M,0,none⟩)),(10,.int .i64 C)] (by simp [hsz]) (by simp only [Fs]; refine ⟨?_,?_,?_,?_,?_,?_,trivial⟩ <;> simp [hsz,s0]) ?_
 clear s0 hsz
 clear tm
 intro tm hsz hs
 simp only [Fs] at hs
 obtain ⟨s3,s4,s5,s8,s9,s10,-⟩:=hs
 go_upto_if 41 with fail
 refine cF (by go_simp) ?_
 by_cases hC:C=0
 ·have hok:=HOK.out hC
  subst hC
  obtain ⟨hf0,hf1⟩:=hok.f
  have hAl:=hok.l
  obtain ⟨g,rfl,hbg,hcc,hcr⟩:=ew_row HA6.out (by (try dsimp only at *); omega)
  have t5:=implPlaces_any g A c5 (by (try dsimp only at *); omega) hcc hok.w w6 hcr
  have HWK:Hid (∀ (p:Nat) wX,p < 4096->Below w6.heap.size w6 wX->Calls Tryz.prog 27 #[.agg #[.slice (some ⟨g,0,none⟩) A.length c5],.int .i64 (p:Int)] wX fun e w'=>e=.returned (.agg #[.int .i64 (atA xs p).k,.int .i64 (atA xs p).o,.int .i64 (atA xs p).p,.int .i64 (atA xs p).s])/\Below wX.heap.size wX w'):=hidP fun p wX hp hX=>by
   have:=implWalkE_any g c5 _ A p (by (try dsimp only at *); omega) hok.w wX (HA6.out.below hX)
   rw [hok.h p hp] at this
   exact this
  have htr:=hok.t
  have hct:=hok.c
  have W1:=wrp (x:=n * 16) (by omega)
  clear HNO HLN hok HOK hcr hcc HA6
  try dsimp only at hAl htr hct
  unfold PlacesPost at t5
  rw [htr] at t5
  clear htr
  go_upto_if 43 with fail
  refine cF (by go_simp) ?_
  go_wp2_with fail
  refine t5.mono ?_
  rintro e w7 ⟨a7,c7,rfl,hr7,hb7⟩
  have HB7:Hid (Below w6.heap.size w6 w7):=hb7
  have hm7:w7.cell? ⟨M,0,none⟩=some (.slice (some ⟨g,0,none⟩) A.length c5):=(hb7.cell (p:=⟨M,0,none⟩) hz6).trans hm6
  have t6:=HTN.out g1 c1 _ w7 (HR8.out.below hb7)
  have HM6:Hid (w6.cell? ⟨M,0,none⟩=some (.slice (some ⟨g,0,none⟩) A.length c5)):=hm6
  clear t5 hr7 hb7 hm6 HTN
  go_wp2_with fail
  refine t6.mono ?_
  rintro e w8 ⟨rfl,hb8⟩
  have HB8:Hid (Below w6.heap.size w6 w8):=hidP (HB7.out.trans (hb8.mono HB7.out.size))
  clear t6 hb8 HB7 hm7
  go_upto_if 69 with fail
  refine cF (by go_simp) ?_
  go_wp2_with fail
  refine wp_loop_o 82 (fun j tm wr=>∃ p:Nat,j=4096 - p/\p<=4096/\Fs tm [(5,.slice (some ⟨g2,0,none⟩) xs.length c2),(9,.pointer (some ⟨M,0,none⟩)),(13,.int .i64 (p:Int))]/\Below w6.heap.size w6 wr) 4096 (by simp [hsz]) ⟨0,by omega,by omega,by simp only [Fs]; refine ⟨?_,?_,?_,trivial⟩ <;> simp [hsz,s5,s9],HB8.out⟩ ?_
  clear s3 s4 s5 s8 s9 s10 hsz HB8
  clear tm
  intro j tm wr J K hsz hI hJ hK
  obtain ⟨p,hj,hp,hs,hbr⟩:=hI
  simp only [Fs] at hs
  obtain ⟨s5,s9,s13,-⟩:=hs
  subst hj
  have HBR:Hid (Below w6.heap.size w6 wr):=hbr
  have hmr:wr.cell? ⟨M,0,none⟩=some (.slice (some ⟨g,0,none⟩) A.length c5):=(hbr.cell (p:=⟨M,0,none⟩) hz6).trans HM6.out
  clear hbr
  by_cases hlt:p < 4096
  ·have K1:(p:Int) < 4096:=by omega
   go_upto_if 71 with fail
   refine cT (by go_simp <;> omega) ?_
   have t7:=HWK.out p wr hlt HBR.out
   go_wp2_with fail
   refine t7.mono ?_
   rintro e w9 ⟨rfl,hb9⟩
   have HB9:Hid (Below w6.heap.size w6 w9):=hidP (HBR.out.trans (hb9.mono HBR.out.size))
   have t8:=HAT.out p g2 c2 _ w9 (HR9.out.below HB9.out)
   clear t7 hb9
   go_wp2_with fail
   refine t8.mono ?_
   rintro e w10 ⟨rfl,hb10⟩
   have HB10:Hid (Below w6.heap.size w6 w10):=hidP (HB9.out.trans (hb10.mono HB9.out.size))
   have t9:=sameHit (atA xs p).k (atA xs p).o (atA xs p).p (atA xs p).s w10
   clear t8 hb10 HB9
   go_wp2_with fail
   refine t9.mono ?_
   rintro e w11 ⟨rfl,hb11⟩
   have HB11:Hid (Below w6.heap.size w6 w11):=hidP (HB10.out.trans (hb11.mono HB10.out.size))
   clear t9 hb11 HB10
   go_upto_if 81 with fail
   refine cF (by go_simp) ?_
   go_wp2_with fail
   refine Met.intro (hJ (4096 - (p+1)) _ _ (by simp [hsz]) ⟨p+1,rfl,by omega,by rw [show ((p+1:Nat):Int)=(p:Int)+1 by omega]; simp only [Fs]; refine ⟨?_,?_,?_,trivial⟩ <;> simp [hsz,s5,s9,s13],HB11.out⟩ (by omega))
  ·obtain rfl:p=4096:=by omega
   go_upto_if 71 with fail
   refine cF (by go_simp <;> omega) ?_
   go_wp2_with fail
   exact bodyPost_ret (v:=.bool true) (by simp [results,Tryz.results6,go_sem,hsz]) rfl ⟨rfl,HB6.out.trans (HBR.out.mono HB6.out.size)⟩
 ·have hCb:(C == 0)=false:=by simpa using hC
  have hA:A=[]:=HNO.out hC
  subst hA
  clear HOK HNO HLN HA6
  go_upto_if 43 with fail
  refine cT (by go_simp) ?_
  go_wp2_with fail
  exact bodyPost_ret (v:=.bool true) (by simp [results,Tryz.results6,go_sem,hsz]) rfl ⟨rfl,HB6.out⟩
end Go.Proofs.YtnmhkgmmpkjjeaaGreat
namespace Go.Proofs.YtnmhkgmmpkjjeaaGreat
open Go.ChangeShapes Go.WideShapes Go.ChangeAt Go.RowKit Go.Joins
set_option linter.unusedVariables false
theorem srcB_of {H:Type} {enc:TypeId × Value->H} {W:World} {sp:Nat->Bool} {fuel:Nat} {v:Value} {y:DataW H × List MemPlace} (hf:DataW.trod enc Tryz.prog W 0 sp true fuel 22 [v]=some y) :
  ∃ a cs cap,v=.slice a (cs:List Int).length cap/\BAt W a cs/\cs.length<=9223372036854775807/\∀ i,0<=cs.getD i 0/\cs.getD i 0 < 256:=by
 rcases open_ints Tryz.underlying22 Tryz.underlying5 (by kernel_rfl) hf with ⟨hcs,_⟩ | ⟨x,l,c,zs,hcs,_,hl,hm,hz,_,hcell,hwz⟩
 ·simp at hcs
  subst hcs
  exact ⟨none,[],0,rfl,fun h=>absurd h (by simp),by simp,fun i=>by simp⟩
 ·simp at hcs
  subst hcs
  have hlz:l<=zs.length:=by rw [hz]; split <;> omega
  have hlen:(zs.take l).length=l:=by rw [List.length_take]; omega
  have hget:∀ i,i < l->(zs.take l).getD i 0=zs.getD i 0:=fun i hi=>by
   rw [List.getD_eq_getElem?_getD,List.getD_eq_getElem?_getD,List.getElem?_take,if_pos hi]
  unfold maxLen at hm
  refine ⟨some x,zs.take l,c,by rw [hlen],fun h0=>?_,by omega,fun i=>?_⟩
  ·rw [hlen] at h0
   obtain ⟨b,off,rfl,hc⟩:=ints_at hcell (by omega)
   refine ⟨b,off,rfl,World.block_lt_of_cell? W _ (hc 0 (by omega)),fun i hi=>?_⟩
   rw [hlen] at hi
   rw [hget i hi]
   exact hc i (by omega)
  ·by_cases hi:i < (zs.take l).length
   ·have hmem:(zs.take l).getD i 0 ∈ zs:=by
     rw [List.getD_eq_getElem?_getD,List.getElem?_eq_getElem hi]
     exact List.mem_of_mem_take (List.getElem_mem hi)
    have:=bounds_u8 (hwz _ hmem)
    omega
   ·rw [List.getD_eq_getElem?_getD,List.getElem?_eq_none (by omega)]
    simp
end Go.Proofs.YtnmhkgmmpkjjeaaGreat
namespace Go.Proofs.YtnmhkgmmpkjjeaaGreat
open Go.ChangeShapes Go.WideShapes Go.ChangeAt Go.RowKit Go.Joins
set_option linter.unusedVariables false
attribute [local go_sem ↓] Go.wp_at_zero Go.wp_at_succ
theorem fb_big (a:Option Addr) (n cap:Nat) (hb:1048576 < n) (hm:n<=9223372036854775807) (w:World) :
  Calls Tryz.prog 6 #[.slice a n cap] w fun e w'=>e=.returned (.bool true)/\Below w.heap.size w w':=by
 have hK:(1048576:Int) < (n:Int):=by omega
 go_enter Tryz.func6,Tryz.ntmps6
 go_wp2
 go_ret
 exact ⟨rfl,Below.refl _ _⟩
theorem fb_any (a:Option Addr) (cap:Nat) (cs:List Int) (w:World) (hs:BAt w a cs) (hm:cs.length<=9223372036854775807) (hr:∀ i,0<=cs.getD i 0/\cs.getD i 0 < 256) :
  Calls Tryz.prog 6 #[.slice a cs.length cap] w fun e w'=>e=.returned (.bool true)/\Below w.heap.size w w':=by
 by_cases hb:cs.length<=1048576
 ·exact fb_walk a cap cs w ⟨hb,hr⟩ hs
 ·exact fb_big a cs.length cap (by omega) hm w
theorem fb_own:ownKnob Tryz.prog.godebug=none:=by kernel_rfl
theorem fb_laidOut:laidOutB Tryz.prog=true:=by kernel_rfl
set_option maxRecDepth 100000 in
theorem fb_lifted (os:Os) (started:os.Started) (H:Type) (enc:TypeId × Value->H) :
  ReturnsInHanded {} Tryz.checked os 6 .any (Rows.fnBuildSpec.pre6 enc Tryz.prog Tryz.f6 Rows.fnBuildRow.domain false) (Rows.fnBuildSpec.post enc Tryz.prog Tryz.f6 false true false false):=by
 refine returnsInHanded_of_change (C:=Tryz.checked) fb_own started (by kernel_rfl) Tryz.func6
  (ChangeSpec.witness6 (enc:=enc) (C:=Tryz.checked) false ⟨#[],#[.slice none 0 0],[]⟩ 8 (by kernel_rfl) (by kernel_rfl) (by kernel_rfl) (by kernel_rfl)) ?_
 intro W base args ds gs before hval0 hW hcnd _
 have hval:∀ (j:Nat) t v,Tryz.f6.params[j]?=some t->args[j]?=some v->Value.okWide Tryz.prog W .any base t v:=hval0
 have hW':=hW
 obtain ⟨p,q,hA0,hV,rfl,hfz,hnd⟩:=hW
 have hA:DataW.TrodAll enc Tryz.prog W 0 (fun _=>true) true Tryz.f6.params.toList args.toList ds p:=hA0
 rw [Tryz.params6] at hA hval
 obtain ⟨v0,vs0,d0,ds0,p0,q0,hargs,rfl,rfl,h0,r0⟩:=trodAll_cons hA
 obtain ⟨rfl,rfl,rfl⟩:=trodAll_nil r0
 obtain rfl:args=#[v0]:=by cases args; simp_all
 obtain ⟨rfl,rfl⟩:=trodVars_none hV
 have k0:=h0
 have lt0:∀ x ∈ p0,x.block < W.heap.size:=by obtain ⟨m,hm⟩:=k0; exact DataW.trod_lt m _ _ _ hm
 obtain ⟨a,cs,cap,rfl,hsrc,hm,hr⟩:∃ a cs cap,v0=.slice a (cs:List Int).length cap/\BAt W a cs/\cs.length<=9223372036854775807/\∀ i,0<=cs.getD i 0/\cs.getD i 0 < 256:=by
  obtain ⟨a0,l0,c0,rfl⟩:=okWide_slice Tryz.underlying22 (hval 0 22 v0 rfl rfl)
  obtain ⟨fuel,hf⟩:=h0
  have hf':DataW.trod enc Tryz.prog W 0 (fun _=>true) true fuel 22 [.slice a0 l0 c0]=some (d0,p0):=hf
  exact srcB_of hf'
 clear hA0 hval0
 refine (fb_any a cap cs W hsrc hm hr).mono fun e W' ⟨he,bel⟩=>?_
 subst he
 exact ⟨_,rfl,_,_,_,[],_,[],hW',trodAll_mk1 (shut_bool Tryz.underlying4 _),(trodAll_cons_mk (Below.trod fb_laidOut (by kernel_rfl) (of_decide_eq_true (by kernel_rfl)) k0 bel lt0) trodAll_mk0),rfl,bel.frame _,fun h=>by cases h⟩
theorem fb_proved:Rows.FnBuildSaid :=
 OpenClaim.holds_of_wide 6 Tryz.f6 rfl rfl rfl rfl rfl rfl rfl ⟨rfl,rfl,rfl,rfl,rfl⟩ rfl rfl rfl rfl rfl (by kernel_rfl) Tryz.func6 (by kernel_rfl)
  (of_decide_eq_true (by kernel_rfl)) (by unfold Func.isWrapper; first | (rw [if_pos (by decide +kernel)]; kernel_rfl) | (rw [if_neg (by decide +kernel)]; exact ⟨rfl,rfl⟩))
  (fun os started H enc _=>fb_lifted os started H enc)
#print axioms fb_proved
end Go.Proofs.YtnmhkgmmpkjjeaaGreat
