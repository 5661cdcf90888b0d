import Derived.Test.YtnmhkgmmpkjjeaaG30
namespace Go.Proofs.Ytnmhkgmmpkjjeaa
open Go.ChangeShapes Go.WideShapes Go.ChangeAt Go.RowKit
set_option linter.unusedVariables false
attribute [local go_sem ↓] Go.wp_at_zero Go.wp_at_succ
theorem plist_ok (zs:List Int) (hz:OkMem zs) (i:Nat) (hi:i < (plist zs).length):(((pAt (plist zs) i).lv=1\/(pAt (plist zs) i).lv=2\/(pAt (plist zs) i).lv=3)/\0<=(pAt (plist zs) i).pg/\(pAt (plist zs) i).pg<=20000):=by
 have hmem:pAt (plist zs) i ∈ plist zs:=by
  unfold pAt
  rw [List.getD_eq_getElem?_getD,List.getElem?_eq_getElem hi]
  exact List.getElem_mem hi
 have e:plist zs=belowL zs (nfr zs.length) 2 ⟨0,1,0⟩:=by unfold plist; rw [if_neg hz.n0]
 generalize pAt (plist zs) i=q at hmem ⊢
 rw [e] at hmem
 obtain ⟨d',h⟩:=belowL_ok 2 ⟨0,1,0⟩ (okRoot zs hz) _ hmem
 obtain ⟨h1,h2,_,_,h5,h6⟩:=h
 omega
theorem UM.lat {W:World} {gu b0 B:Nat} {u:UV} {M:Mach} (h:UM W gu b0 B true u M) (h0:0 < M.mem.length):∃ g,u.a2=some ⟨g,0,none⟩/\u.n2=(lateL M).length/\CRow W g (lateL M)/\(lateL M).length<=u.c2/\b0<=g:=by
 obtain ⟨h1,h2⟩:=h.l rfl
 have e:u.n2=(lateL M).length:=by rw [h1,lateL_length]
 rw [e] at h2
 obtain ⟨g,e1,hc,hl,hb⟩:=eWord_c h2 (by rw [lateL_length]; exact h0)
 exact ⟨g,e1,e,hc,hl,hb⟩
set_option maxHeartbeats 4000000 in
theorem freeRef_any (gu b0 B:Nat) (u:UV) (M:Mach) (f:Int) (w:World) (hok:WOk M) (hpd:∀ i,i < M.pend.length->0<=(eAt eWrite M.pend i).addr) (h:UM w gu b0 B true u M) :
  Calls Try.prog 166 #[.pointer (some ⟨gu,0,none⟩),.int .i64 f] w fun e w'=>e=.returned (.int .i64 (if inUse M f then 4 else 0))/\Below w.heap.size w w':=by
 have hm0:0 < M.mem.length:=by have:=nfr_mul M.mem.length hok.n0; omega
 obtain ⟨g1,ha1,hc1,hl1,_⟩:=eWord_c h.w hm0
 obtain ⟨g2,ha2,hn2,hc2,hl2,_⟩:=h.lat hm0
 obtain ⟨gw,hw1,hw2⟩:=wc_cells h.c
 have hcl:=hok.c
 have HP1:Hid (∀ wX,Below w.heap.size w wX->Calls Try.prog 190 #[.agg #[.slice (some ⟨g1,0,none⟩) M.mem.length u.c1],.int .i64 f] wX fun e w'=>e=.returned (.bool (plcHas (plist M.mem) f))/\Below wX.heap.size wX w'):=fun wX hX=>hasPlace_any g1 M.mem u.c1 f hok.okMem hl1 wX (hc1.below hX hc1.lt)
 have HP2:Hid (∀ wX,Below w.heap.size w wX->Calls Try.prog 190 #[.agg #[.slice (some ⟨g2,0,none⟩) (lateL M).length u.c2],.int .i64 f] wX fun e w'=>e=.returned (.bool (plcHas (plist (lateL M)) f))/\Below wX.heap.size wX w'):=fun wX hX=>hasPlace_any g2 (lateL M) u.c2 f (late_ok hok hpd) hl2 wX (hc2.below hX hc2.lt)
 have HQ:Hid (∀ wX,Below w.heap.size w wX->wX.cell? ⟨gu,0,none⟩=some (.slice (some ⟨g1,0,none⟩) M.mem.length u.c1)/\wX.cell? ⟨gu,1,none⟩=some (.slice (some ⟨g2,0,none⟩) (lateL M).length u.c2)/\wX.cell? ⟨gu,4,none⟩=some (.slice u.a5 M.wc.length u.c5)):=fun wX hX=>by
  have hu:=h.below hX
  exact ⟨by rw [<- ha1]; exact hu.q0,by rw [<- ha2,<- hn2]; exact hu.q1,hu.q4⟩
 have HW2:Hid (∀ k L P T D,k < M.wc.length->eAt eWc M.wc k=⟨L,P,T,D⟩->u.a5=some ⟨gw,0,none⟩/\gw < w.heap.size/\∀ wX,Below w.heap.size w wX->wX.cell? ⟨gw,k * 5,none⟩=some (.int .i64 P)/\wX.cell? ⟨gw,k * 5+1,none⟩=some (.int .i64 (16 * cov L))/\wX.cell? ⟨gw,k * 5+2,none⟩=some (.bool D)/\wX.cell? ⟨gw,k * 5+3,none⟩=some (.int .i64 L)/\wX.cell? ⟨gw,k * 5+4,none⟩=some (.int .i64 T)):=fun k L P T D hk he=>by
  obtain ⟨e1,e2⟩:=hw1 (by omega)
  exact ⟨e1,e2,fun wX hX=>hw2 k L P T D hk he wX (hX.block gw e2)⟩
 obtain ⟨q0,q1,q4⟩:=HQ.out w (Below.refl _ _)
 have hlt:=h.lt
 obtain ⟨n2,hn2'⟩:∃ n2,n2=(lateL M).length:=⟨_,rfl⟩
 rw [<- hn2'] at HP2 HQ q1
 clear h hok hpd hc1 hc2 hw1 hw2 ha1 ha2 hl1 hl2 hn2 hn2'
 obtain ⟨cd,hcd⟩:∃ cd:Int,cd=if inUse M f then 4 else 0:=⟨_,rfl⟩
 rw [<- hcd]
 have HCD:Hid (∀ x,inUse M f=x->cd=if x then 4 else 0):=fun x hx=>by rw [hcd,hx]
 clear hcd
 cases hb1:plcHas (plist M.mem) f
 ·cases hb2:plcHas (plist (lateL M)) f
  ·have HU:Hid (∀ x,wcHas M f=x->inUse M f=x):=fun x hx=>by unfold inUse; rw [hb1,hb2,hx]; rfl
   rw [hb1] at HP1
   rw [hb2] at HP2
   clear hb1 hb2
   go_enter Try.func166,Try.ntmps166
   go_wp2_with fail
   refine (HP1.out w (Below.refl _ _)).mono ?_
   rintro e w1 ⟨rfl,hbw1⟩
   obtain ⟨r0,r1,r4⟩:=HQ.out w1 hbw1
   clear q0 q1 q4
   go_wp2_with fail
   refine (HP2.out w1 hbw1).mono ?_
   rintro e w2 ⟨rfl,hbw2⟩
   have b2:Below w.heap.size w w2:=hbw1.trans (hbw2.mono hbw1.size)
   obtain ⟨_,_,s4⟩:=HQ.out w2 b2
   have HB2:Hid (Below w.heap.size w w2):=b2
   clear r0 r1 r4 hbw1 hbw2 b2
   go_wp2_with fail
   clear s4
   go_loopw [26] (fun i wr=>∃ k:Nat,k<=M.wc.length/\i=.int .i64 k/\Hid (∀ j,j < k->decide ((eAt eWc M.wc j).table=f)=false)/\Below w.heap.size w wr) (fun i _=>M.wc.length - (intOf i).toNat)
   case atStart=>exact ⟨0,Nat.zero_le _,rfl,fun j hj=>absurd hj (by omega),HB2.out⟩
   case round =>
    obtain ⟨k,hk,rfl,hall,hb⟩:=hrel
    by_cases hlt2:k < M.wc.length
    ·obtain ⟨E,hE⟩:∃ E,eAt eWc M.wc k=E:=⟨_,rfl⟩
     obtain ⟨L,P,T,D⟩:=E
     obtain ⟨hae,hgt,hcs⟩:=HW2.out k L P T D hlt2 hE
     rw [hae]
     obtain ⟨c0,c1,c2,c3,c4⟩:=hcs wr hb
     have HE:Hid (eAt eWc M.wc k=_):=hE
     have L1:(0:Int)<=(k:Int):=by omega
     have L2:(k:Int) < (M.wc.length:Int):=by omega
     have HB:Hid (Below w.heap.size w wr):=hb
     clear hE hcs hae hb
     generalize 16 * cov L=S at c1
     by_cases hT:T=f
     ·have d:(T == f)=true:=by simpa using hT
      have HR:Hid (inUse M f=true):=HU.out true (anyR_true _ k _ hlt2 (by rw [HE.out]; exact decide_eq_true hT))
      clear hT
      go_wp2_with fail
      go_ret
      exact ⟨by rw [HCD.out _ HR.out]; rfl,HB.out.alloc HB.out.size _⟩
     ·have d:(T == f)=false:=by simpa using hT
      have HN:Hid (decide ((eAt eWc M.wc k).table=f)=false):=by rw [HE.out]; exact decide_eq_false hT
      clear hT
      go_wp2_with fail
      go_roundw
      case rel =>
       refine ⟨k+1,by omega,by go_num,fun j hj=>?_,HB.out.alloc HB.out.size _⟩
       by_cases e:j=k
       ·rw [e]; exact HN.out
       ·exact hall.out j (by omega)
      case measure=>simp [intOf]; omega
    ·have HR:Hid (inUse M f=false):=HU.out false (anyR_false _ _ (fun j hj=>hall.out j (by omega)))
     go_wp2_with fail
     go_ret
     exact ⟨by rw [HCD.out _ HR.out]; rfl,hb⟩
  ·have HR:Hid (inUse M f=true):=by unfold inUse; rw [hb1,hb2]; rfl
   rw [hb1] at HP1
   rw [hb2] at HP2
   clear hb1 hb2
   go_enter Try.func166,Try.ntmps166
   go_wp2_with fail
   refine (HP1.out w (Below.refl _ _)).mono ?_
   rintro e w1 ⟨rfl,hbw1⟩
   obtain ⟨r0,r1,r4⟩:=HQ.out w1 hbw1
   clear q0 q1 q4
   go_wp2_with fail
   refine (HP2.out w1 hbw1).mono ?_
   rintro e w2 ⟨rfl,hbw2⟩
   go_wp2_with fail
   go_ret
   exact ⟨by rw [HCD.out _ HR.out]; rfl,hbw1.trans (hbw2.mono hbw1.size)⟩
 ·have HR:Hid (inUse M f=true):=by unfold inUse; rw [hb1]; rfl
  rw [hb1] at HP1
  clear hb1
  go_enter Try.func166,Try.ntmps166
  go_wp2_with fail
  refine (HP1.out w (Below.refl _ _)).mono ?_
  rintro e w1 ⟨rfl,hbw1⟩
  go_wp2_with fail
  go_ret
  exact ⟨by rw [HCD.out _ HR.out]; rfl,hbw1⟩
def objects (M:Mach) (a:Int) (i:Nat):Bool:=if oldW M a % 2=1 then decide ((pAt (plist (lateL M)) i).fr=a / 16) else plcC M (plist (lateL M)) (a / 16) (a % 16) i
theorem wr_none {M:Mach} {o:OpE} (h:∀ j,j < (plist (lateL M)).length->objects M o.a j=false):wrCode M o=0:=by
 unfold wrCode
 split
 ·rfl
 ·split
  ·rename_i h1 h2
   have:plcHas (plist (lateL M)) (o.a / 16)=false:=anyR_false _ _ (fun j hj=>by have:=h j hj; unfold objects at this; rwa [if_pos h2] at this)
   rw [this]; simp
  ·rename_i h1 h2
   have:anyR (plcC M (plist (lateL M)) (o.a / 16) (o.a % 16)) (plist (lateL M)).length=false:=anyR_false _ _ (fun j hj=>by have:=h j hj; unfold objects at this; rwa [if_neg h2] at this)
   rw [this]; simp
theorem wr_two {M:Mach} {o:OpE} (k:Nat) (hk:k < (plist (lateL M)).length) (h1:¬ o.word % 2=0) (h2:oldW M o.a % 2=1) (h3:oldW M o.a ≠ o.word) (h:(pAt (plist (lateL M)) k).fr=o.a / 16):wrCode M o=2:=by
 unfold wrCode
 rw [if_neg h1,if_pos h2,if_pos ⟨h3,anyR_true _ k _ hk (decide_eq_true h)⟩]
theorem wr_three {M:Mach} {o:OpE} (k:Nat) (hk:k < (plist (lateL M)).length) (h1:¬ o.word % 2=0) (h2:¬ oldW M o.a % 2=1) (h:plcC M (plist (lateL M)) (o.a / 16) (o.a % 16) k=true):wrCode M o=3:=by
 unfold wrCode
 rw [if_neg h1,if_neg h2,if_pos (anyR_true _ k _ hk h)]
set_option maxHeartbeats 4000000 in
theorem writeRef_any (gu b0 B:Nat) (u:UV) (M:Mach) (A:Nat) (o:OpE) (w:World) (hoa:o.a=A) (hA:A < M.mem.length) (hw0:0<=o.word) (hw1:o.word < 18446744073709551616) (hok:WOk M) (hv:validB M=true) (h:UM w gu b0 B true u M) :
  Calls Try.prog 165 #[.pointer (some ⟨gu,0,none⟩),.int .i64 A,.int .u64 o.word] w fun e w'=>e=.returned (.int .i64 (wrCode M o))/\Below w.heap.size w w':=by
 have hm0:0 < M.mem.length:=by omega
 have hpd:∀ i,i < M.pend.length->0<=(eAt eWrite M.pend i).addr:=fun i hi=>(valid_pend hv i hi).1
 obtain ⟨g2,ha2,hn2,hc2,hl2,_⟩:=h.lat hm0
 have hmm:=nfr_mul M.mem.length hok.n0
 have hml:=nfr_le M.mem.length
 have hll:(lateL M).length=M.mem.length:=lateL_length M
 obtain ⟨X,hX⟩:∃ X,X=oldW M o.a:=⟨_,rfl⟩
 have hxc:=hc2.cell (i:=A) (by omega)
 have hxe:(lateL M).getD A 0=X:=by rw [hX,oldW,hoa]; rfl
 have hxr:=lateL_rng hok hpd A
 rw [hxe] at hxc hxr
 have hx1:X < 18446744073709551616:=by have:=hxr.2; omega
 have hlz:=late_ok hok hpd
 have hpl:=placesOf_any g2 (lateL M) u.c2 hlz hl2 w hc2
 have hle:=plist_length (lateL M)
 have HPK:Hid (∀ i,i < (plist (lateL M)).length->_):=plist_ok (lateL M) hlz
 have HCA:Hid (∀ F L Q wX,Below w.heap.size w wX->(L=1\/L=2\/L=3)->0<=Q->Q<=20000->Calls Try.prog 189 #[.pointer (some ⟨gu,0,none⟩),.agg #[.int .i64 F,.int .i64 L,.int .i64 Q],.int .i64 ((A:Int) % 16)] wX fun e w'=>e=.returned (.bool (cachedB M L (Q+(A:Int) % 16 * cov L) (cov L)))/\Below wX.heap.size wX w'):=fun F L Q wX hX h1 h2 h3=>caches_any gu b0 B u M F L Q ((A:Int) % 16) wX hv h1 h2 h3 (by omega) (by omega) hok.t hok.c (h.below hX)
 have HPC:Hid (∀ k F L Q,pAt (plist (lateL M)) k=⟨F,L,Q⟩->objects M o.a k=(if X % 2=1 then decide (F=(A:Int) / 16) else (decide (F=(A:Int) / 16) && cachedB M L (Q+(A:Int) % 16 * cov L) (cov L)))/\plcC M (plist (lateL M)) (o.a / 16) (o.a % 16) k=(decide (F=(A:Int) / 16) && cachedB M L (Q+(A:Int) % 16 * cov L) (cov L))):=fun k F L Q he=>by
  have h2:plcC M (plist (lateL M)) (o.a / 16) (o.a % 16) k=(decide (F=(A:Int) / 16) && cachedB M L (Q+(A:Int) % 16 * cov L) (cov L)):=by unfold plcC; rw [he,hoa]
  refine ⟨?_,h2⟩
  unfold objects
  rw [<- hX,h2,he,hoa]
 have HW0:Hid (∀ c,wrCode M o=c->wrCode M o=c):=fun _ h=>h
 have HNO:Hid ((∀ j,j < (plist (lateL M)).length->objects M o.a j=false)->wrCode M o=0):=wr_none
 have HTWO:Hid (∀ k F L Q,k < (plist (lateL M)).length->pAt (plist (lateL M)) k=⟨F,L,Q⟩->¬ o.word % 2=0->X % 2=1->X ≠ o.word->F=(A:Int) / 16->wrCode M o=2):=fun k F L Q hk he h1 h2 h3 h4=>wr_two k hk h1 (by rw [<- hX]; exact h2) (by rw [<- hX]; exact h3) (by rw [he,hoa]; exact h4)
 have HTHR:Hid (∀ k,k < (plist (lateL M)).length->¬ o.word % 2=0->¬ X % 2=1->plcC M (plist (lateL M)) (o.a / 16) (o.a % 16) k=true->wrCode M o=3):=fun k hk h1 h2 h3=>wr_three k hk h1 (by rw [<- hX]; exact h2) h3
 have HZ0:Hid (o.word % 2=0->wrCode M o=0):=fun h=>by unfold wrCode; rw [if_pos h]
 have HZ1:Hid (¬ o.word % 2=0->o.word=X->wrCode M o=0):=fun h1 h2=>by
  unfold wrCode
  rw [if_neg h1,<- hX,if_pos (by rw [<- h2]; omega),if_neg (fun hh=>hh.1 h2.symm)]
 obtain ⟨ps,hps⟩:∃ ps,ps=plist (lateL M):=⟨_,rfl⟩
 rw [<- hps] at hpl hle HPK HNO HTWO HTHR HPC
 obtain ⟨n2,hn2'⟩:∃ n2,n2=(lateL M).length:=⟨_,rfl⟩
 have q1:w.cell? ⟨gu,1,none⟩=some (.slice (some ⟨g2,0,none⟩) n2 u.c2):=by rw [hn2',<- ha2,<- hn2]; exact h.q1
 rw [<- hn2'] at hpl
 have hAn:A < n2:=by rw [hn2',hll]; exact hA
 have and1:=and_1 o.word hw0 hw1
 have and2:=and_1 X hxr.1 hx1
 obtain ⟨Wd,hWd⟩:∃ Wd,Wd=o.word:=⟨_,rfl⟩
 obtain ⟨cde,hcde⟩:∃ c,c=wrCode M o:=⟨_,rfl⟩
 rw [<- hWd] at hw0 hw1 HTWO HTHR HZ0 HZ1 and1 ⊢
 rw [<- hcde] at HNO HTWO HTHR HZ0 HZ1 ⊢
 have hgl:=h.lt
 have g2l:=hc2.lt
 have L0:(0:Int)<=(A:Int):=by omega
 have L1:(A:Int) < (n2:Int):=by omega
 have hq:wrap64 ((A:Int) / 16)=(A:Int) / 16:=by unfold wrap64; omega
 clear HW0 h hok hpd hc2 hX hxe hxr hlz hps hn2 hn2' ha2 hll hWd hcde hoa hv hl2 hmm hml
 by_cases hwz:Wd % 2=0
 ·have d0:(Wd % 2 == 0)=true:=by simpa using hwz
  have HR:=HZ0.out hwz
  subst HR
  clear hwz hpl
  go_enter Try.func165,Try.ntmps165
  go_wp2_with fail
  go_ret
  exact ⟨rfl,Below.refl _ _⟩
 ·have d0:(Wd % 2 == 0)=false:=by simpa using hwz
  by_cases hwx:Wd=X
  ·have d1:(Wd == X)=true:=by simpa using hwx
   have HR:=HZ1.out hwz hwx
   subst HR
   clear hwz hwx hpl
   go_enter Try.func165,Try.ntmps165
   go_wp2_with fail
   go_ret
   exact ⟨rfl,Below.refl _ _⟩
  ·have d1:(Wd == X)=false:=by simpa using hwx
   have HWZ:Hid (¬ Wd % 2=0):=hwz
   have HWX:Hid (X ≠ Wd):=fun e=>hwx e.symm
   clear hwz hwx
   go_enter Try.func165,Try.ntmps165
   go_wp2_with fail
   refine hpl.mono ?_
   rintro e w1 ⟨g1,c1,rfl,hr,hb1⟩
   obtain ⟨gp,hp1,hp2⟩:=plc_cells hr
   have HP1:Hid _:=hp1
   have HP2:Hid _:=hp2
   have HB1:Hid (Below w.heap.size w w1):=hb1
   clear hb1 hpl hr hp1 hp2 hxc q1 and1 d0 d1
   go_wp2_with fail
   go_loopw [32] (fun i wr=>∃ k:Nat,k<=ps.length/\i=.int .i64 k/\Hid (∀ j,j < k->objects M o.a j=false)/\Below w1.heap.size w1 wr) (fun i _=>ps.length - (intOf i).toNat)
   case atStart=>exact ⟨0,Nat.zero_le _,rfl,fun j hj=>absurd hj (by omega),Below.refl _ _⟩
   case round =>
    obtain ⟨k,hk,rfl,hall,hb⟩:=hrel
    by_cases hlt:k < ps.length
    ·obtain ⟨E,hE⟩:∃ E,pAt ps k=E:=⟨_,rfl⟩
     obtain ⟨F,L,Q⟩:=E
     obtain ⟨hge,hgl2⟩:=HP1.out (by omega)
     simp only [Option.some.injEq,Addr.mk.injEq,and_true] at hge
     obtain rfl:=hge.symm
     obtain ⟨c0,c1,c2⟩:=HP2.out k F L Q hlt hE wr hb
     have hpk:=HPK.out k hlt
     rw [hE] at hpk
     obtain ⟨hobj,hplc⟩:=HPC.out k F L Q hE
     have HOBJ:Hid _:=hobj
     have HPLC:Hid _:=hplc
     have HE:Hid (pAt ps k=_):=hE
     have M1:(0:Int)<=(k:Int):=by omega
     have M2:(k:Int) < (ps.length:Int):=by omega
     have HB:Hid (Below w1.heap.size w1 wr):=hb
     have hsz:=hb.size
     obtain ⟨wx,hwx⟩:∃ wx,wx=wr.alloc (.cells #[.int .i64 F,.int .i64 L,.int .i64 Q] 63):=⟨_,rfl⟩
     have bx:Below w.heap.size w wx:=by rw [hwx]; exact (HB1.out.trans (hb.mono HB1.out.size)).alloc (Nat.le_trans HB1.out.size hsz) _
     have hca:=HCA.out F L Q wx bx hpk.1 hpk.2.1 hpk.2.2
     rw [hwx] at hca
     have HWXX:Hid (wx=_):=hwx
     have HBX:Hid (Below w.heap.size w wx):=bx
     have HBX1:Hid (Below w1.heap.size w1 wx):=by rw [hwx]; exact hb.alloc hsz _
     clear hE hb hge hobj hplc hpk hwx bx
     by_cases hF:F=(A:Int) / 16
     ·have dF:(F != (A:Int) / 16)=false:=by simpa using hF
      by_cases hX1:X % 2=1
      ·have dX:(X % 2 != 0)=true:=by simp; omega
       have HR:=HTWO.out k F L Q hlt HE.out HWZ.out hX1 HWX.out hF
       subst HR
       clear hX1 hca hF
       go_wp2_with fail
       rw [<- HWXX.out]
       go_ret
       exact ⟨rfl,HBX.out⟩
      ·have dX:(X % 2 != 0)=false:=by simp; omega
       cases hcb:cachedB M L (Q+(A:Int) % 16 * cov L) (cov L) <;> rw [hcb] at hca
       ·have HN:Hid (objects M o.a k=false):=by rw [HOBJ.out,if_neg hX1,hcb,Bool.and_false]; rfl
        clear hX1 hF hcb
        go_wp2_with fail
        refine hca.mono ?_
        rintro e w2 ⟨rfl,hb2⟩
        go_wp2_with fail
        rw [<- HWXX.out] at hb2
        go_roundw
        case rel =>
         refine ⟨k+1,by omega,by go_num,fun j hj=>?_,HBX1.out.trans (hb2.mono HBX1.out.size)⟩
         by_cases e:j=k
         ·rw [e]; exact HN.out
         ·exact hall.out j (by omega)
        case measure=>simp [intOf]; omega
       ·have HR:=HTHR.out k hlt HWZ.out hX1 (by rw [HPLC.out,hcb,decide_eq_true hF]; rfl)
        subst HR
        clear hX1 hF hcb
        go_wp2_with fail
        refine hca.mono ?_
        rintro e w2 ⟨rfl,hb2⟩
        go_wp2_with fail
        rw [<- HWXX.out] at hb2
        go_ret
        exact ⟨rfl,HBX.out.trans (hb2.mono HBX.out.size)⟩
     ·have dF:(F != (A:Int) / 16)=true:=by simpa using hF
      have HN:Hid (objects M o.a k=false):=by
       rw [HOBJ.out,decide_eq_false hF]
       split <;> rfl
      clear hF hca
      go_wp2_with fail
      rw [<- HWXX.out]
      go_roundw
      case rel =>
       refine ⟨k+1,by omega,by go_num,fun j hj=>?_,HBX1.out⟩
       by_cases e:j=k
       ·rw [e]; exact HN.out
       ·exact hall.out j (by omega)
      case measure=>simp [intOf]; omega
    ·have HR:=HNO.out (fun j hj=>hall.out j (by omega))
     subst HR
     go_wp2_with fail
     go_ret
     exact ⟨rfl,HB1.out.trans (hb.mono HB1.out.size)⟩
end Go.Proofs.Ytnmhkgmmpkjjeaa
