import Derived.Test.YtnmhkgmmpkjjeaaG49
import Derived.Test.YtnmhkgmmpkjjeaaG50
import Derived.Test.YtnmhkgmmpkjjeaaG52
namespace Go.Proofs.Ytnmhkgmmpkjjeaa
open Go.ChangeShapes Go.WideShapes Go.ChangeAt Go.RowKit
set_option linter.unusedVariables false
attribute [local go_sem ↓] Go.wp_at_zero Go.wp_at_succ
set_option maxHeartbeats 1000000 in
theorem mStep_any (gu b0 B:Nat) (u:UV) (M:Mach) (o:OpE) (w:World) (hok:WOk M) (hv:validB M=true) (ho:OpOk o) (th:UThree u) (h:UM w gu b0 B true u M) :
  Calls Try.prog 88 #[.pointer (some ⟨gu,0,none⟩),.agg #[.int .i64 o.kind,.int .i64 o.a,.int .i64 o.b,.int .u64 o.word]] w fun e w'=>e=.returned (.int .i64 (opM M o).2)/\∃ u',UWide w w' gu b0 B u u' (opM M o).1:=by
 have hmm:=nfr_mul M.mem.length hok.n0
 have hml:=nfr_le M.mem.length
 have hpd:∀ i,i < M.pend.length->0<=(eAt eWrite M.pend i).addr:=fun i hi=>(valid_pend hv i hi).1
 obtain ⟨K,A,Bb,W⟩:=o
 have hw0:=ho.w.1
 have hw1:W < 18446744073709551616:=by have:=ho.w.2; dsimp only at this; omega
 dsimp only at hw0
 have same:∀ c,∀ w',Below w.heap.size w w'->(opM M ⟨K,A,Bb,W⟩=(M,c))->∃ u',UWide w w' gu b0 B u u' (opM M ⟨K,A,Bb,W⟩).1:=fun c w' hb he=>⟨u,by rw [he]; exact UWide.refl h th hb⟩
 by_cases k1:K=1
 ·subst k1
  have hwf:∀ wX,Below w.heap.size w wX->Calls Try.prog 228 #[.agg #[.int .i64 1,.int .i64 A,.int .i64 Bb,.int .u64 W],.pointer (some ⟨gu,0,none⟩)] wX fun e w'=>e=.returned (.bool (opB M ⟨1,A,Bb,W⟩))/\Below wX.heap.size wX w':=fun wX hX=>by
   have:=wfWrite_any gu 1 A Bb W u.a1 u.a3 M.mem.length u.c1 M.pend.length u.c3 wX (Nat.lt_of_lt_of_le h.lt hX.size) (h.below hX).q0 (h.below hX).q2
   have e:opB M ⟨1,A,Bb,W⟩=decide (0<=A/\A < (M.mem.length:Int)/\Bb=0/\(M.pend.length:Int) < 10000):=by
    unfold opB
    rw [if_pos rfl]
    exact decide_eq_decide.2 ⟨fun hh=>⟨hh.1,hh.2.1,hh.2.2.1,by omega⟩,fun hh=>⟨hh.1,hh.2.1,hh.2.2.1,by omega⟩⟩
   rw [e]
   exact this
  have hA:opB M ⟨1,A,Bb,W⟩=true->∃ N:Nat,A=N/\N < M.mem.length/\M.pend.length < 10000:=fun hb=>by
   unfold opB at hb
   rw [if_pos rfl,decide_eq_true_eq] at hb
   dsimp only at hb
   exact ⟨A.toNat,by omega,by omega,by omega⟩
  refine (step1_any gu A Bb W (wrCode M ⟨1,A,Bb,W⟩) (opB M ⟨1,A,Bb,W⟩) w (fun w'=>∃ u',UWide w w' gu b0 B u u' ⟨M.mem,M.pend ++ [⟨A,W⟩],M.tlb,M.wc⟩) hwf (fun hb wX hX=>?_) (fun hb hc wX hX=>?_)).mono ?_
  ·obtain ⟨N,rfl,hN,_⟩:=hA hb
   exact refW_any gu N Bb W _ wX (Nat.lt_of_lt_of_le h.lt hX.size) (fun wY hY=>writeRef_any gu b0 B u M N ⟨1,N,Bb,W⟩ wY rfl hN hw0 hw1 hok hv (h.below (hX.trans (hY.mono hX.size))))
  ·obtain ⟨N,rfl,hN,hp⟩:=hA hb
   refine (wrApply_any gu b0 B u M 1 Bb W N wX hN (by omega) hp th (h.below hX)).mono ?_
   rintro e w' ⟨rfl,u',hu'⟩
   exact ⟨rfl,u',(UWide.refl h th hX).trans hu'⟩
  ·rintro e w' ⟨rfl,hR⟩
   cases hb:opB M ⟨1,A,Bb,W⟩
   ·have hop:opM M ⟨1,A,Bb,W⟩=(M,1):=by unfold opM; rw [hb]; rfl
    rw [hb] at hR
    simp only [Bool.false_eq_true,false_and,if_false] at hR
    exact ⟨by rw [hop]; rfl,same 1 w' hR hop⟩
   ·have hop:opM M ⟨1,A,Bb,W⟩=(if wrCode M ⟨1,A,Bb,W⟩=0 then ⟨M.mem,M.pend ++ [⟨A,W⟩],M.tlb,M.wc⟩ else M,wrCode M ⟨1,A,Bb,W⟩):=by unfold opM; rw [hb]; rfl
    rw [hb] at hR
    by_cases hc:wrCode M ⟨1,A,Bb,W⟩=0
    ·rw [if_pos ⟨rfl,hc⟩] at hR
     rw [hop,if_pos hc]
     exact ⟨rfl,hR⟩
    ·rw [if_neg (fun hh=>hc hh.2)] at hR
     rw [if_neg hc] at hop
     exact ⟨by rw [hop]; rfl,same _ w' hR hop⟩
 ·by_cases k2:K=2
  ·subst k2
   have hwf:∀ wX,Below w.heap.size w wX->Calls Try.prog 230 #[.agg #[.int .i64 2,.int .i64 A,.int .i64 Bb,.int .u64 W],.pointer (some ⟨gu,0,none⟩)] wX fun e w'=>e=.returned (.bool (opB M ⟨2,A,Bb,W⟩))/\Below wX.heap.size wX w':=fun wX hX=>by
    have e:opB M ⟨2,A,Bb,W⟩=decide (A=0/\Bb=0/\W=0):=by unfold opB; rw [if_neg (by dsimp only; decide),if_pos rfl]
    rw [e]
    exact wfBarrier_any gu 2 A Bb W wX
   refine (step2_any gu A Bb W 0 (opB M ⟨2,A,Bb,W⟩) w (fun w'=>∃ u',UWide w w' gu b0 B u u' ⟨lateL M,[],M.tlb.filter (fun e=>!e.doom),M.wc.filter (fun e=>!e.doom)⟩) hwf (fun hb wX hX=>refB_any gu A Bb W wX) (fun hb hc wX hX=>?_)).mono ?_
   ·refine (barApply_any gu b0 B u M 2 A Bb W wX hok th (h.below hX)).mono ?_
    rintro e w' ⟨rfl,u',hu'⟩
    exact ⟨rfl,u',(UWide.refl h th hX).trans hu'⟩
   ·rintro e w' ⟨rfl,hR⟩
    cases hb:opB M ⟨2,A,Bb,W⟩
    ·have hop:opM M ⟨2,A,Bb,W⟩=(M,1):=by unfold opM; rw [hb]; rfl
     rw [hb] at hR
     simp only [Bool.false_eq_true,false_and,if_false] at hR
     exact ⟨by rw [hop]; rfl,same 1 w' hR hop⟩
    ·have hop:opM M ⟨2,A,Bb,W⟩=(⟨lateL M,[],M.tlb.filter (fun e=>!e.doom),M.wc.filter (fun e=>!e.doom)⟩,0):=by unfold opM; rw [hb]; rfl
     rw [hb,if_pos ⟨rfl,rfl⟩] at hR
     rw [hop]
     exact ⟨rfl,hR⟩
  ·by_cases k3:K=3
   ·subst k3
    have e:opB M ⟨3,A,Bb,W⟩=decide (0<=A/\A < 4096/\1<=Bb/\A+Bb<=4096/\W=0):=by unfold opB; rw [if_neg (by dsimp only; decide),if_neg (by dsimp only; decide),if_pos rfl]
    have hwf:∀ wX,Below w.heap.size w wX->Calls Try.prog 238 #[.agg #[.int .i64 3,.int .i64 A,.int .i64 Bb,.int .u64 W],.pointer (some ⟨gu,0,none⟩)] wX fun e w'=>e=.returned (.bool (opB M ⟨3,A,Bb,W⟩))/\Below wX.heap.size wX w':=fun wX hX=>by
     rw [e]
     by_cases ha:0<=A/\A < 4096
     ·exact wfInv_any gu 3 A Bb W wX ha.1 ha.2
     ·exact wfInv_no gu 3 A Bb W wX ha
    refine (step3_any gu A Bb W 0 (opB M ⟨3,A,Bb,W⟩) w (fun w'=>∃ u',UWide w w' gu b0 B u u' ⟨M.mem,M.pend,M.tlb.map (doomT A Bb),M.wc.map (doomW A Bb)⟩) hwf (fun hb wX hX=>refI_any gu A Bb W wX) (fun hb hc wX hX=>?_)).mono ?_
    ·rw [e,decide_eq_true_eq] at hb
     refine (invApply_any gu b0 B u M 3 A Bb W wX hv hb.1 hb.2.1 hb.2.2.1 (by omega) hok.t hok.c (h.below hX)).mono ?_
     rintro e w' ⟨rfl,hu',ht'⟩
     refine ⟨rfl,u,(UWide.refl h th hX).trans ⟨hu',⟨ht'.os,ht'.tape,ht'.output,ht'.size,fun k hk hn=>ht'.block k hk (fun hx=>hn (hx.elim (fun e=>.inr (.inr (.inr (.inr (.inl e))))) (fun e=>.inr (.inr (.inr (.inr (.inr e)))))))⟩,fun k hk=>.inl hk,th⟩⟩
    ·rintro e' w' ⟨rfl,hR⟩
     cases hb:opB M ⟨3,A,Bb,W⟩
     ·have hop:opM M ⟨3,A,Bb,W⟩=(M,1):=by unfold opM; rw [hb]; rfl
      rw [hb] at hR
      simp only [Bool.false_eq_true,false_and,if_false] at hR
      exact ⟨by rw [hop]; rfl,same 1 w' hR hop⟩
     ·have hop:opM M ⟨3,A,Bb,W⟩=(⟨M.mem,M.pend,M.tlb.map (doomT A Bb),M.wc.map (doomW A Bb)⟩,0):=by unfold opM; rw [hb]; rfl
      rw [hb,if_pos ⟨rfl,rfl⟩] at hR
      rw [hop]
      exact ⟨rfl,hR⟩
   ·by_cases k4:K=4
    ·subst k4
     have hnf:nfr M.mem.length=(M.mem.length:Int) / 16:=by omega
     have e:opB M ⟨4,A,Bb,W⟩=decide (0<=A/\A < (M.mem.length:Int) / 16/\Bb=0/\W=0):=by unfold opB; rw [if_neg (by dsimp only; decide),if_neg (by dsimp only; decide),if_neg (by dsimp only; decide),if_pos rfl]; dsimp only; rw [hnf]
     have hwf:∀ wX,Below w.heap.size w wX->Calls Try.prog 241 #[.agg #[.int .i64 4,.int .i64 A,.int .i64 Bb,.int .u64 W],.pointer (some ⟨gu,0,none⟩)] wX fun e w'=>e=.returned (.bool (opB M ⟨4,A,Bb,W⟩))/\Below wX.heap.size wX w':=fun wX hX=>by
      rw [e]
      exact wfFree_any gu 4 A Bb W u.a1 M.mem.length u.c1 wX (by omega) (by omega) (Nat.lt_of_lt_of_le h.lt hX.size) (h.below hX).q0
     refine (step4_any gu A Bb W (if inUse M A then 4 else 0) (opB M ⟨4,A,Bb,W⟩) w (fun w'=>Below w.heap.size w w') hwf (fun hb wX hX=>?_) (fun hb hc wX hX=>?_)).mono ?_
     ·exact refF_any gu A Bb W _ wX (Nat.lt_of_lt_of_le h.lt hX.size) (fun wY hY=>freeRef_any gu b0 B u M A wY hok hpd (h.below (hX.trans (hY.mono hX.size))))
     ·refine (freeApply_any gu 4 A Bb W wX).mono ?_
      rintro e w' ⟨rfl,hb'⟩
      exact ⟨rfl,hX.trans (hb'.mono hX.size)⟩
     ·rintro e' w' ⟨rfl,hR⟩
      have hBl:Below w.heap.size w w':=by rwa [ite_self] at hR
      cases hb:opB M ⟨4,A,Bb,W⟩
      ·have hop:opM M ⟨4,A,Bb,W⟩=(M,1):=by unfold opM; rw [hb]; rfl
       exact ⟨by rw [hop]; rfl,same 1 w' hBl hop⟩
      ·have hop:opM M ⟨4,A,Bb,W⟩=(M,if inUse M A then 4 else 0):=by unfold opM; rw [hb]; rfl
       exact ⟨by rw [hop]; rfl,same _ w' hBl hop⟩
    ·have hb:opB M ⟨K,A,Bb,W⟩=false:=by unfold opB; rw [if_neg k1,if_neg k2,if_neg k3,if_neg k4]
     have hop:opM M ⟨K,A,Bb,W⟩=(M,1):=by unfold opM; rw [hb]; rfl
     refine (step0_any gu K A Bb W w k1 k2 k3 k4).mono ?_
     rintro e w' ⟨rfl,hbl⟩
     exact ⟨by rw [hop],same 1 w' hbl hop⟩
end Go.Proofs.Ytnmhkgmmpkjjeaa
namespace Go.Proofs.Ytnmhkgmmpkjjeaa
open Go.ChangeShapes Go.WideShapes Go.ChangeAt Go.RowKit
set_option linter.unusedVariables false
attribute [local go_sem ↓] Go.wp_at_zero Go.wp_at_succ
set_option maxRecDepth 100000 in
set_option maxHeartbeats 4000000 in
theorem implStep_any (s:SV) (M:Mach) (b:Nat) (o:OpE) (w:World) (hk:MOk M) (hs:M.Small) (ho:OpOk o) (h:MRow w b (s.mv M) M) :
  Calls Try.prog 30 #[.agg #[.slice s.a1 M.mem.length s.c1,.slice s.a2 M.pend.length s.c2,.slice s.a3 M.tlb.length s.c3,.slice s.a4 M.wc.length s.c4],.agg #[.int .i64 o.kind,.int .i64 o.a,.int .i64 o.b,.int .u64 o.word]] w fun e w'=>∃ s':SV,e=.returned (.tuple #[.agg #[.slice s'.a1 (stepR M o).1.mem.length s'.c1,.slice s'.a2 (stepR M o).1.pend.length s'.c2,.slice s'.a3 (stepR M o).1.tlb.length s'.c3,.slice s'.a4 (stepR M o).1.wc.length s'.c4],.int .i64 (stepR M o).2])/\MRow w' w.heap.size (s'.mv (stepR M o).1) (stepR M o).1/\(s'.mv (stepR M o).1).apart/\Below w.heap.size w w':=by
 obtain ⟨wb,hwb⟩:∃ wb,wb=((w.alloc (.cells #[.slice s.a1 M.mem.length s.c1,.slice s.a2 M.pend.length s.c2,.slice s.a3 M.tlb.length s.c3,.slice s.a4 M.wc.length s.c4] 38)).alloc (.cells #[.int .i64 o.kind,.int .i64 o.a,.int .i64 o.b,.int .u64 o.word] 65)).alloc (.cells #[.slice none 0 0,.slice none 0 0,.slice none 0 0,.slice none 0 0] 38):=⟨_,rfl⟩
 have hbb:Below w.heap.size w wb:=by rw [hwb]; exact (((Below.refl _ _).alloc (Nat.le_refl _) _).alloc (by simp) _).alloc (by simp; omega) _
 have hzb:wb.heap.size=w.heap.size+3:=by rw [hwb]; simp
 have HBOX:Hid (∀ wX,Below wb.heap.size wb wX->(wX.cell? ⟨w.heap.size,0,none⟩=some (.slice s.a1 M.mem.length s.c1)/\wX.cell? ⟨w.heap.size,1,none⟩=some (.slice s.a2 M.pend.length s.c2)/\wX.cell? ⟨w.heap.size,2,none⟩=some (.slice s.a3 M.tlb.length s.c3)/\wX.cell? ⟨w.heap.size,3,none⟩=some (.slice s.a4 M.wc.length s.c4))/\(wX.cell? ⟨w.heap.size+1,0,none⟩=some (.int .i64 o.kind)/\wX.cell? ⟨w.heap.size+1,1,none⟩=some (.int .i64 o.a)/\wX.cell? ⟨w.heap.size+1,2,none⟩=some (.int .i64 o.b)/\wX.cell? ⟨w.heap.size+1,3,none⟩=some (.int .u64 o.word))/\(wX.cell? ⟨w.heap.size+2,0,none⟩=some (.slice none 0 0)/\wX.cell? ⟨w.heap.size+2,1,none⟩=some (.slice none 0 0)/\wX.cell? ⟨w.heap.size+2,2,none⟩=some (.slice none 0 0)/\wX.cell? ⟨w.heap.size+2,3,none⟩=some (.slice none 0 0))/\(wX.frozen? ⟨w.heap.size+2,0,none⟩=false/\wX.frozen? ⟨w.heap.size+2,1,none⟩=false/\wX.frozen? ⟨w.heap.size+2,2,none⟩=false/\wX.frozen? ⟨w.heap.size+2,3,none⟩=false)/\w.heap.size < wX.heap.size/\w.heap.size+1 < wX.heap.size/\w.heap.size+2 < wX.heap.size):=fun wX hX=>by
  have hsz:=hX.size
  refine ⟨⟨?_,?_,?_,?_⟩,⟨?_,?_,?_,?_⟩,⟨?_,?_,?_,?_⟩,⟨?_,?_,?_,?_⟩,by omega,by omega,by omega⟩
  iterate 12 (exact (hX.cell (by simp; omega)).trans (by rw [hwb]; simp [go_sem]))
  iterate 4 (exact (hX.frozen (by simp; omega)).trans (by rw [hwb]; simp [go_sem]))
 have HWB:Hid (wb=_):=hwb
 have HBB:Hid (Below _ w wb):=hbb
 have HZ:Hid (wb.heap.size=w.heap.size+3):=hzb
 have hvm:=validM_any s M b wb hs (h.below hbb)
 rw [hwb] at hvm
 have HM:Hid (∀ wX,Below wb.heap.size wb wX->MRow wX b (s.mv M) M):=fun wX hX=>h.below (hbb.trans (hX.mono (by omega)))
 clear hwb hbb hzb h
 cases hv:validB M
 ·have HR:Hid (stepR M o=(zM,9)):=by unfold stepR; rw [hv]; rfl
  rw [hv] at hvm
  clear hv
  go_enter Try.func30,Try.ntmps30
  go_wp2_with fail
  refine hvm.mono ?_
  rintro e w1 ⟨rfl,hb1'⟩
  have hb1:Below wb.heap.size wb w1:=by rw [HWB.out]; exact hb1'
  obtain ⟨_,_,⟨r0,r1,r2,r3⟩,⟨z0,z1,z2,z3⟩,N0,N1,N2⟩:=HBOX.out w1 hb1
  have HB1:Hid (Below w.heap.size w w1):=HBB.out.trans (hb1.mono (by have:=HZ.out; omega))
  clear hb1' hb1 hvm
  go_wp2_with fail
  refine bodyPost_ret (v:=.tuple #[.agg #[.slice none 0 0,.slice none 0 0,.slice none 0 0,.slice none 0 0],.int .i64 9]) (by simp [results,Try.results30,go_sem,r0,r1,r2,r3]) rfl ?_
  rw [HR.out]
  exact ⟨zS,rfl,zM_row _ _,zM_apart,(((HB1.out.setCell (by dsimp only; omega) _).setCell (by dsimp only; omega) _).setCell (by dsimp only; omega) _).setCell (by dsimp only; omega) _⟩
 ·rw [hv] at hvm
  have hok:=WOk.of hk hv
  have HR:Hid (stepR M o=opM M o):=by unfold stepR; rw [hv]; rfl
  have HOP:Hid (∀ wX,Below wb.heap.size wb wX->Calls Try.prog 46 #[.agg #[.slice s.a1 M.mem.length s.c1,.slice s.a2 M.pend.length s.c2,.slice s.a3 M.tlb.length s.c3,.slice s.a4 M.wc.length s.c4]] wX fun r w'=>∃ gu u,r=.returned (.pointer (some ⟨gu,0,none⟩))/\wX.heap.size<=gu/\UM w' gu wX.heap.size wX.heap.size true u M/\UThree u/\Below wX.heap.size wX w'):=fun wX hX=>open_all s M b wX hok (fun i hi=>valid_pend hv i hi) (HM.out wX hX)
  have HST:Hid (∀ gu b0 u wX,UThree u->UM wX gu b0 b0 true u M->Calls Try.prog 88 #[.pointer (some ⟨gu,0,none⟩),.agg #[.int .i64 o.kind,.int .i64 o.a,.int .i64 o.b,.int .u64 o.word]] wX fun e w'=>e=.returned (.int .i64 (opM M o).2)/\∃ u',UWide wX w' gu b0 b0 u u' (opM M o).1):=fun gu b0 u wX h1 h2=>mStep_any gu b0 b0 u M o wX hok hv ho h1 h2
  have hsm:=opM_small hs hok o
  obtain ⟨R,hR⟩:∃ R,R=(opM M o).1:=⟨_,rfl⟩
  obtain ⟨cd,hcd⟩:∃ cd,cd=(opM M o).2:=⟨_,rfl⟩
  rw [<- hR,<- hcd] at HST
  rw [<- hR] at hsm
  have HCL:Hid (∀ (gu b0:Nat) (u:UV) (wX:World),UM wX gu b0 b0 true u R->_):=fun gu b0 u wX hu=>close_any gu b0 b0 true u R wX hsm hu
  have HRR:Hid (stepR M o=(R,cd)):=by rw [HR.out,hR,hcd]; rfl
  clear hR hcd hv hok hsm HR
  go_enter Try.func30,Try.ntmps30
  go_wp2_with fail
  refine hvm.mono ?_
  rintro e w1 ⟨rfl,hb1'⟩
  have hb1:Below wb.heap.size wb w1:=by rw [HWB.out]; exact hb1'
  obtain ⟨⟨q0,q1,q2,q3⟩,_,_,_,N0,N1,N2⟩:=HBOX.out w1 hb1
  have HB1:Hid (Below wb.heap.size wb w1):=hb1
  clear hb1' hb1 hvm
  go_wp2_with fail
  refine (HOP.out _ HB1.out).mono ?_
  rintro e w2 ⟨gu,u,rfl,hgu,hum,hth,hb2⟩
  have b2:Below wb.heap.size wb w2:=HB1.out.trans (hb2.mono HB1.out.size)
  obtain ⟨_,⟨p0,p1,p2,p3⟩,_,_,M0,M1,M2⟩:=HBOX.out w2 b2
  have hst:=HST.out gu w1.heap.size u w2 hth hum
  have HUM:Hid (UM w2 gu w1.heap.size w1.heap.size true u M):=hum
  have HB2:Hid (Below w1.heap.size w1 w2):=hb2
  have HGU:Hid (w1.heap.size<=gu):=hgu
  clear hum hb2 hgu q0 q1 q2 q3 b2 hth
  go_wp2_with fail
  refine hst.mono ?_
  rintro e w3 ⟨rfl,u',hw3⟩
  have hcl:=HCL.out gu w1.heap.size u' w3 hw3.um
  have HW3:Hid (UWide w2 w3 gu w1.heap.size w1.heap.size u u' R):=hw3
  clear hst hw3 p0 p1 p2 p3
  go_wp2_with fail
  refine hcl.mono ?_
  rintro e w4 ⟨a3,c3,a4,c4,rfl,ht4,hc4,hap4,hb4⟩
  have hu:=HUM.out
  have b3:Below w1.heap.size w1 w3:=Touch.below HB2.out HW3.out.tch HB2.out.size (fun k hk=>by
   rcases hk with hk | hk | hk | hk | hk | hk
   ·have:=HGU.out; omega
   ·exact (hu.w.ownA k hk).1
   ·exact ((hu.l rfl).2.ownA k hk).1
   ·exact (hu.p.ownA k hk).1
   ·exact (hu.t.ownA k hk).1
   ·exact (hu.c.ownA k hk).1)
  have b4:Below w1.heap.size w1 w4:=b3.trans (hb4.mono b3.size)
  have b4b:Below wb.heap.size wb w4:=HB1.out.trans (b4.mono HB1.out.size)
  have hs1:=HB1.out.size
  have hz:=HZ.out
  obtain ⟨_,_,⟨r0,r1,r2,r3⟩,⟨z0,z1,z2,z3⟩,K0,K1,K2⟩:=HBOX.out w4 b4b
  have HFIN:Hid (∀ wF,Touch (fun k=>k=w.heap.size+2) w4 wF->MRow wF w.heap.size ((⟨u'.a1,u'.c1,u'.a3,u'.c3,a3,c3,a4,c4⟩:SV).mv R) R/\((⟨u'.a1,u'.c1,u'.a3,u'.c3,a3,c3,a4,c4⟩:SV).mv R).apart/\Below w.heap.size w wF):=fun wF hTF=>by
   refine ⟨?_,?_,?_⟩
   ·have hrow:MRow w4 w1.heap.size ((⟨u'.a1,u'.c1,u'.a3,u'.c3,a3,c3,a4,c4⟩:SV).mv R) R:=⟨HW3.out.um.w.below hb4,HW3.out.um.p.below hb4,ht4.rebase b3.size,hc4.rebase b3.size⟩
    refine MRow.rebase (base:=w1.heap.size) (hrow.touch hTF (fun k hk hh=>?_)) (by omega)
    have:=(hrow.own k hk).1
    omega
   ·intro k
    have o1:=fun h=>(HW3.out.um.w.ownA k h).2
    have o3:=fun h=>(HW3.out.um.p.ownA k h).2
    have ot:=fun h=>(ht4.ownA k h).1
    have oc:=fun h=>(hc4.ownA k h).1
    simp only [SV.mv,own_slice]
    refine ⟨fun h=>⟨HW3.out.th.a13 k h,fun h'=>?_,fun h'=>?_⟩,fun h=>⟨fun h'=>?_,fun h'=>?_⟩,fun h h'=>hap4 k h h'⟩
    ·have:=o1 h; have:=ot h'; omega
    ·have:=o1 h; have:=oc h'; omega
    ·have:=o3 h; have:=ot h'; omega
    ·have:=o3 h; have:=oc h'; omega
   ·exact Touch.below (HBB.out.trans (b4b.mono (by omega))) hTF (by have:=b4b.size; omega) (fun k hk=>by omega)
  clear ht4 hc4 hap4 hb4 b3 b4 b4b hcl hu
  go_wp2_with fail
  obtain ⟨wF,hwF⟩:∃ wF,wF=(((w4.setCell ⟨w.heap.size+1+1,0,none⟩ (.slice u'.a1 R.mem.length u'.c1)).setCell ⟨w.heap.size+1+1,1,none⟩ (.slice u'.a3 R.pend.length u'.c3)).setCell ⟨w.heap.size+1+1,2,none⟩ (.slice a3 R.tlb.length c3)).setCell ⟨w.heap.size+1+1,3,none⟩ (.slice a4 R.wc.length c4):=⟨_,rfl⟩
  rw [<- hwF]
  have hTF:Touch (fun k=>k=w.heap.size+2) w4 wF:=by
   rw [hwF]
   exact Touch.put (Touch.put (Touch.put (Touch.put (Touch.none w4) _ _ (by rfl)) _ _ (by rfl)) _ _ (by rfl)) _ _ (by rfl)
  have f0:wF.cell? ⟨w.heap.size+1+1,0,none⟩=some (.slice u'.a1 R.mem.length u'.c1):=by rw [hwF]; simp [go_sem,r0]
  have f1:wF.cell? ⟨w.heap.size+1+1,1,none⟩=some (.slice u'.a3 R.pend.length u'.c3):=by rw [hwF]; simp [go_sem,r1]
  have f2:wF.cell? ⟨w.heap.size+1+1,2,none⟩=some (.slice a3 R.tlb.length c3):=by rw [hwF]; simp [go_sem,r2]
  have f3:wF.cell? ⟨w.heap.size+1+1,3,none⟩=some (.slice a4 R.wc.length c4):=by rw [hwF]; simp [go_sem,r3]
  refine bodyPost_ret (v:=.tuple #[.agg #[.slice u'.a1 R.mem.length u'.c1,.slice u'.a3 R.pend.length u'.c3,.slice a3 R.tlb.length c3,.slice a4 R.wc.length c4],.int .i64 cd]) (by simp [results,Try.results30,go_sem,f0,f1,f2,f3]) rfl ?_
  rw [HRR.out]
  exact ⟨⟨u'.a1,u'.c1,u'.a3,u'.c3,a3,c3,a4,c4⟩,rfl,HFIN.out wF hTF⟩
end Go.Proofs.Ytnmhkgmmpkjjeaa
