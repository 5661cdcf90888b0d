import Derived.Test.YtnmhkgmmpkjjeaaG33
namespace Go.Proofs.Ytnmhkgmmpkjjeaa
open Go.ChangeShapes Go.WideShapes Go.ChangeAt Go.RowKit
set_option linter.unusedVariables false
attribute [local go_sem ↓] Go.wp_at_zero Go.wp_at_succ
set_option maxRecDepth 100000 in
set_option maxHeartbeats 2000000 in
theorem wellS_any (s:SV) (M:Mach) (K A Bb W:Int) (w:World) (hs:M.Small) :
  Calls Try.prog 82 #[.agg #[.slice s.a1 M.mem.length s.c1,.slice s.a2 M.pend.length s.c2,.slice s.a3 M.tlb.length s.c3,.slice s.a4 M.wc.length s.c4],.agg #[.int .i64 K,.int .i64 A,.int .i64 Bb,.int .u64 W]] w fun e w'=>e=.returned (.bool (opB M ⟨K,A,Bb,W⟩))/\Below w.heap.size w w':=by
 have y1:=hs.w
 have y2:=hs.p
 by_cases k1:K=1
 ·subst k1
  have e:opB M ⟨1,A,Bb,W⟩=decide (0<=A/\A < (M.mem.length:Int)/\Bb=0/\(M.pend.length:Int) < 10000):=by
   unfold opB
   rw [if_pos rfl]
   exact decide_eq_decide.2 ⟨fun hh=>⟨hh.1,hh.2.1,hh.2.2.1,by omega⟩,fun hh=>⟨hh.1,hh.2.1,hh.2.2.1,by omega⟩⟩
  rw [e]
  clear e
  by_cases h0:0<=A
  ·have d0:decide (0<=A)=true:=by simpa using h0
   by_cases h1:A < (M.mem.length:Int)
   ·have d1:decide (A < (M.mem.length:Int))=true:=by simpa using h1
    by_cases h2:Bb=0
    ·have d2:(Bb == 0)=true:=by simpa using h2
     by_cases h3:(M.pend.length:Int) < 10000
     ·have d3:decide ((M.pend.length:Int) < 10000)=true:=by simpa using h3
      rw [decide_eq_true (p:=0<=A/\A < (M.mem.length:Int)/\Bb=0/\(M.pend.length:Int) < 10000) (by omega)]
      go_enter Try.func82,Try.ntmps82
      go_wp2_with fail
      go_ret
      exact ⟨by first | rfl | simp,((Below.refl _ _).alloc (Nat.le_refl _) _).alloc (by simp) _⟩
     ·have d3:decide ((M.pend.length:Int) < 10000)=false:=by simpa using h3
      rw [decide_eq_false (p:=0<=A/\A < (M.mem.length:Int)/\Bb=0/\(M.pend.length:Int) < 10000) (fun h=>h3 (by omega))]
      clear h3
      go_enter Try.func82,Try.ntmps82
      go_wp2_with fail
      go_ret
      exact ⟨by first | rfl | simp,((Below.refl _ _).alloc (Nat.le_refl _) _).alloc (by simp) _⟩
    ·have d2:(Bb == 0)=false:=by simpa using h2
     rw [decide_eq_false (p:=0<=A/\A < (M.mem.length:Int)/\Bb=0/\(M.pend.length:Int) < 10000) (fun h=>h2 (by omega))]
     clear h2
     go_enter Try.func82,Try.ntmps82
     go_wp2_with fail
     go_ret
     exact ⟨by first | rfl | simp,((Below.refl _ _).alloc (Nat.le_refl _) _).alloc (by simp) _⟩
   ·have d1:decide (A < (M.mem.length:Int))=false:=by simpa using h1
    rw [decide_eq_false (p:=0<=A/\A < (M.mem.length:Int)/\Bb=0/\(M.pend.length:Int) < 10000) (fun h=>h1 (by omega))]
    clear h1
    go_enter Try.func82,Try.ntmps82
    go_wp2_with fail
    go_ret
    exact ⟨by first | rfl | simp,((Below.refl _ _).alloc (Nat.le_refl _) _).alloc (by simp) _⟩
  ·have d0:decide (0<=A)=false:=by simpa using h0
   rw [decide_eq_false (p:=0<=A/\A < (M.mem.length:Int)/\Bb=0/\(M.pend.length:Int) < 10000) (fun h=>h0 (by omega))]
   clear h0
   go_enter Try.func82,Try.ntmps82
   go_wp2_with fail
   go_ret
   exact ⟨by first | rfl | simp,((Below.refl _ _).alloc (Nat.le_refl _) _).alloc (by simp) _⟩
 ·have dk1:(K == 1)=false:=by simpa using k1
  by_cases hW:W=0
  ·subst hW
   by_cases k2:K=2
   ·subst k2
    have e:opB M ⟨2,A,Bb,0⟩=decide (A=0/\Bb=0):=by unfold opB; rw [if_neg (by dsimp only; decide),if_pos rfl]; simp
    rw [e]
    clear e k1 dk1
    by_cases h0:A=0
    ·have d0:(A == 0)=true:=by simpa using h0
     by_cases h1:Bb=0
     ·have d1:(Bb == 0)=true:=by simpa using h1
      rw [decide_eq_true (p:=A=0/\Bb=0) (by omega)]
      go_enter Try.func82,Try.ntmps82
      go_wp2_with fail
      go_ret
      exact ⟨by first | rfl | simp,((Below.refl _ _).alloc (Nat.le_refl _) _).alloc (by simp) _⟩
     ·have d1:(Bb == 0)=false:=by simpa using h1
      rw [decide_eq_false (p:=A=0/\Bb=0) (fun h=>h1 (by omega))]
      clear h1
      go_enter Try.func82,Try.ntmps82
      go_wp2_with fail
      go_ret
      exact ⟨by first | rfl | simp,((Below.refl _ _).alloc (Nat.le_refl _) _).alloc (by simp) _⟩
    ·have d0:(A == 0)=false:=by simpa using h0
     rw [decide_eq_false (p:=A=0/\Bb=0) (fun h=>h0 (by omega))]
     clear h0
     go_enter Try.func82,Try.ntmps82
     go_wp2_with fail
     go_ret
     exact ⟨by first | rfl | simp,((Below.refl _ _).alloc (Nat.le_refl _) _).alloc (by simp) _⟩
   ·have dk2:(K == 2)=false:=by simpa using k2
    by_cases k3:K=3
    ·subst k3
     have e:opB M ⟨3,A,Bb,0⟩=decide (0<=A/\A < 4096/\1<=Bb/\A+Bb<=4096):=by unfold opB; rw [if_neg (by dsimp only; decide),if_neg (by dsimp only; decide),if_pos rfl]; simp
     rw [e]
     clear e k1 k2 dk1 dk2
     by_cases h0:0<=A
     ·have d0:decide (0<=A)=true:=by simpa using h0
      by_cases h1:A < 4096
      ·have d1:decide (A < 4096)=true:=by simpa using h1
       by_cases h2:1<=Bb
       ·have d2:decide (1<=Bb)=true:=by simpa using h2
        by_cases h3:Bb<=4096
        ·have d3:decide (Bb<=4096)=true:=by simpa using h3
         by_cases h4:A+Bb<=4096
         ·have d4:decide (A+Bb<=4096)=true:=by simpa using h4
          rw [decide_eq_true (p:=0<=A/\A < 4096/\1<=Bb/\A+Bb<=4096) (by omega)]
          go_enter Try.func82,Try.ntmps82
          go_wp2_with fail
          go_ret
          exact ⟨by first | rfl | simp,((Below.refl _ _).alloc (Nat.le_refl _) _).alloc (by simp) _⟩
         ·have d4:decide (A+Bb<=4096)=false:=by simpa using h4
          rw [decide_eq_false (p:=0<=A/\A < 4096/\1<=Bb/\A+Bb<=4096) (fun h=>h4 (by omega))]
          clear h4
          go_enter Try.func82,Try.ntmps82
          go_wp2_with fail
          go_ret
          exact ⟨by first | rfl | simp,((Below.refl _ _).alloc (Nat.le_refl _) _).alloc (by simp) _⟩
        ·have d3:decide (Bb<=4096)=false:=by simpa using h3
         rw [decide_eq_false (p:=0<=A/\A < 4096/\1<=Bb/\A+Bb<=4096) (fun h=>h3 (by omega))]
         clear h3
         go_enter Try.func82,Try.ntmps82
         go_wp2_with fail
         go_ret
         exact ⟨by first | rfl | simp,((Below.refl _ _).alloc (Nat.le_refl _) _).alloc (by simp) _⟩
       ·have d2:decide (1<=Bb)=false:=by simpa using h2
        rw [decide_eq_false (p:=0<=A/\A < 4096/\1<=Bb/\A+Bb<=4096) (fun h=>h2 (by omega))]
        clear h2
        go_enter Try.func82,Try.ntmps82
        go_wp2_with fail
        go_ret
        exact ⟨by first | rfl | simp,((Below.refl _ _).alloc (Nat.le_refl _) _).alloc (by simp) _⟩
      ·have d1:decide (A < 4096)=false:=by simpa using h1
       rw [decide_eq_false (p:=0<=A/\A < 4096/\1<=Bb/\A+Bb<=4096) (fun h=>h1 (by omega))]
       clear h1
       go_enter Try.func82,Try.ntmps82
       go_wp2_with fail
       go_ret
       exact ⟨by first | rfl | simp,((Below.refl _ _).alloc (Nat.le_refl _) _).alloc (by simp) _⟩
     ·have d0:decide (0<=A)=false:=by simpa using h0
      rw [decide_eq_false (p:=0<=A/\A < 4096/\1<=Bb/\A+Bb<=4096) (fun h=>h0 (by omega))]
      clear h0
      go_enter Try.func82,Try.ntmps82
      go_wp2_with fail
      go_ret
      exact ⟨by first | rfl | simp,((Below.refl _ _).alloc (Nat.le_refl _) _).alloc (by simp) _⟩
    ·have dk3:(K == 3)=false:=by simpa using k3
     by_cases k4:K=4
     ·subst k4
      have e:opB M ⟨4,A,Bb,0⟩=decide (0<=A/\A < nfr M.mem.length/\Bb=0):=by unfold opB; rw [if_neg (by dsimp only; decide),if_neg (by dsimp only; decide),if_neg (by dsimp only; decide),if_pos rfl]; simp
      rw [e]
      have hfr:=frames_any s.a1 M.mem.length s.c1 (by omega)
      obtain ⟨nf,hnf⟩:∃ nf,nf=nfr M.mem.length:=⟨_,rfl⟩
      rw [<- hnf] at hfr ⊢
      obtain ⟨wb,hwb⟩:∃ wb,wb=(w.alloc (.cells #[.slice s.a1 M.mem.length s.c1,.slice s.a2 M.pend.length s.c2,.slice s.a3 M.tlb.length s.c3,.slice s.a4 M.wc.length s.c4] 38)).alloc (.cells #[.int .i64 4,.int .i64 A,.int .i64 Bb,.int .u64 0] 65):=⟨_,rfl⟩
      have hbb:Below w.heap.size w wb:=by rw [hwb]; exact ((Below.refl _ _).alloc (Nat.le_refl _) _).alloc (by simp) _
      have hzb:wb.heap.size=w.heap.size+2:=by rw [hwb]; simp
      have HK:Hid (∀ wX,Below wb.heap.size wb wX->(wX.cell? ⟨w.heap.size,0,none⟩=some (.slice s.a1 M.mem.length s.c1)/\wX.cell? ⟨w.heap.size,1,none⟩=some (.slice s.a2 M.pend.length s.c2)/\wX.cell? ⟨w.heap.size,2,none⟩=some (.slice s.a3 M.tlb.length s.c3)/\wX.cell? ⟨w.heap.size,3,none⟩=some (.slice s.a4 M.wc.length s.c4))/\(wX.cell? ⟨w.heap.size+1,1,none⟩=some (.int .i64 A)/\wX.cell? ⟨w.heap.size+1,2,none⟩=some (.int .i64 Bb))):=fun wX hX=>by
       refine ⟨⟨?_,?_,?_,?_⟩,?_,?_⟩
       iterate 6 (exact (hX.cell (by simp; omega)).trans (by rw [hwb]; simp [go_sem]))
      have HWB:Hid (wb=_):=hwb
      have HBB:Hid (Below w.heap.size w wb):=hbb
      clear e k1 k2 k3 dk1 dk2 dk3 hnf hwb hbb hzb
      by_cases h0:0<=A
      ·have d0:decide (0<=A)=true:=by simpa using h0
       by_cases h1:A < nf
       ·have d1:decide (A < nf)=true:=by simpa using h1
        by_cases h2:Bb=0
        ·have d2:(Bb == 0)=true:=by simpa using h2
         rw [decide_eq_true (p:=0<=A/\A < nf/\Bb=0) (by omega)]
         have D2:Hid _:=d2
         clear d2 h2
         go_enter Try.func82,Try.ntmps82
         go_wp2_with fail
         rw [<- HWB.out]
         have d2:=D2.out
         refine wp_region_held_drew (S:=(fun wX=>(wX.cell? ⟨w.heap.size,0,none⟩=some (.slice s.a1 M.mem.length s.c1)/\wX.cell? ⟨w.heap.size,1,none⟩=some (.slice s.a2 M.pend.length s.c2)/\wX.cell? ⟨w.heap.size,2,none⟩=some (.slice s.a3 M.tlb.length s.c3)/\wX.cell? ⟨w.heap.size,3,none⟩=some (.slice s.a4 M.wc.length s.c4))/\(wX.cell? ⟨w.heap.size+1,1,none⟩=some (.int .i64 A)/\wX.cell? ⟨w.heap.size+1,2,none⟩=some (.int .i64 Bb)))) (by kernel_rfl) (HK.out _ ((Below.refl _ _).drew)) (fun hHeld=>?_)
         refine tk 0 ?_
         refine tk 1 ?_
         refine tk 2 ?_
         refine tk 3 ?_
         refine tk 4 ?_
         refine tk 5 ?_
         refine tk 6 ?_
         refine tk 7 ?_
         refine wpAnyH_ready (rs:=[8]) (by kernel_rfl) (by simp) ?_
         refine AllReadyH.cons rfl (fun K hK=>?_) AllReadyH.nil
         go_simp
         go_at_call 39
         refine (hfr _).mono ?_
         rintro e w1 ⟨rfl,hb1⟩
         go_wp2_with fail
         refine hK.out _ _ (by refine HK.out _ ?_; exact (Below.refl _ _).drew.trans (hb1.mono (by simp))) (fun hHeld2=>?_)
         clear hK K
         refine tk 9 ?_
         refine tk 10 ?_
         refine tk 11 ?_
         refine tk 12 ?_
         refine tk 13 ?_
         refine tk 14 ?_
         refine tk 15 ?_
         refine tk 16 ?_
         refine wpAnyH_done (by kernel_rfl) ?_ _
         go_wp2_with fail
         go_ret
         refine ⟨by first | rfl | simp,HBB.out.trans (Below.mono ?_ HBB.out.size)⟩
         exact (Below.refl _ _).drew.trans (hb1.mono (by simp))
        ·have d2:(Bb == 0)=false:=by simpa using h2
         rw [decide_eq_false (p:=0<=A/\A < nf/\Bb=0) (fun h=>h2 (by omega))]
         clear h2
         have D2:Hid _:=d2
         clear d2
         go_enter Try.func82,Try.ntmps82
         go_wp2_with fail
         rw [<- HWB.out]
         have d2:=D2.out
         refine wp_region_held_drew (S:=(fun wX=>(wX.cell? ⟨w.heap.size,0,none⟩=some (.slice s.a1 M.mem.length s.c1)/\wX.cell? ⟨w.heap.size,1,none⟩=some (.slice s.a2 M.pend.length s.c2)/\wX.cell? ⟨w.heap.size,2,none⟩=some (.slice s.a3 M.tlb.length s.c3)/\wX.cell? ⟨w.heap.size,3,none⟩=some (.slice s.a4 M.wc.length s.c4))/\(wX.cell? ⟨w.heap.size+1,1,none⟩=some (.int .i64 A)/\wX.cell? ⟨w.heap.size+1,2,none⟩=some (.int .i64 Bb)))) (by kernel_rfl) (HK.out _ ((Below.refl _ _).drew)) (fun hHeld=>?_)
         refine tk 0 ?_
         refine tk 1 ?_
         refine tk 2 ?_
         refine tk 3 ?_
         refine tk 4 ?_
         refine tk 5 ?_
         refine tk 6 ?_
         refine tk 7 ?_
         refine wpAnyH_ready (rs:=[8]) (by kernel_rfl) (by simp) ?_
         refine AllReadyH.cons rfl (fun K hK=>?_) AllReadyH.nil
         go_simp
         go_at_call 39
         refine (hfr _).mono ?_
         rintro e w1 ⟨rfl,hb1⟩
         go_wp2_with fail
         refine hK.out _ _ (by refine HK.out _ ?_; exact (Below.refl _ _).drew.trans (hb1.mono (by simp))) (fun hHeld2=>?_)
         clear hK K
         refine tk 9 ?_
         refine tk 10 ?_
         refine tk 11 ?_
         refine tk 12 ?_
         refine tk 13 ?_
         refine tk 14 ?_
         refine tk 15 ?_
         refine tk 16 ?_
         refine wpAnyH_done (by kernel_rfl) ?_ _
         go_wp2_with fail
         go_ret
         refine ⟨by first | rfl | simp,HBB.out.trans (Below.mono ?_ HBB.out.size)⟩
         exact (Below.refl _ _).drew.trans (hb1.mono (by simp))
       ·have d1:decide (A < nf)=false:=by simpa using h1
        rw [decide_eq_false (p:=0<=A/\A < nf/\Bb=0) (fun h=>h1 (by omega))]
        clear h1
        go_enter Try.func82,Try.ntmps82
        go_wp2_with fail
        rw [<- HWB.out]
        refine wp_region_held_drew (S:=(fun wX=>(wX.cell? ⟨w.heap.size,0,none⟩=some (.slice s.a1 M.mem.length s.c1)/\wX.cell? ⟨w.heap.size,1,none⟩=some (.slice s.a2 M.pend.length s.c2)/\wX.cell? ⟨w.heap.size,2,none⟩=some (.slice s.a3 M.tlb.length s.c3)/\wX.cell? ⟨w.heap.size,3,none⟩=some (.slice s.a4 M.wc.length s.c4))/\(wX.cell? ⟨w.heap.size+1,1,none⟩=some (.int .i64 A)/\wX.cell? ⟨w.heap.size+1,2,none⟩=some (.int .i64 Bb)))) (by kernel_rfl) (HK.out _ ((Below.refl _ _).drew)) (fun hHeld=>?_)
        refine tk 0 ?_
        refine tk 1 ?_
        refine tk 2 ?_
        refine tk 3 ?_
        refine tk 4 ?_
        refine tk 5 ?_
        refine tk 6 ?_
        refine tk 7 ?_
        refine wpAnyH_ready (rs:=[8]) (by kernel_rfl) (by simp) ?_
        refine AllReadyH.cons rfl (fun K hK=>?_) AllReadyH.nil
        go_simp
        go_at_call 39
        refine (hfr _).mono ?_
        rintro e w1 ⟨rfl,hb1⟩
        go_wp2_with fail
        refine hK.out _ _ (by refine HK.out _ ?_; exact (Below.refl _ _).drew.trans (hb1.mono (by simp))) (fun hHeld2=>?_)
        clear hK K
        refine tk 9 ?_
        refine tk 10 ?_
        refine tk 11 ?_
        refine sk 12 ?_
        refine sk 13 ?_
        refine sk 14 ?_
        refine tk 15 ?_
        refine tk 16 ?_
        refine wpAnyH_done (by kernel_rfl) ?_ _
        go_wp2_with fail
        go_ret
        refine ⟨by first | rfl | simp,HBB.out.trans (Below.mono ?_ HBB.out.size)⟩
        exact (Below.refl _ _).drew.trans (hb1.mono (by simp))
      ·have d0:decide (0<=A)=false:=by simpa using h0
       rw [decide_eq_false (p:=0<=A/\A < nf/\Bb=0) (fun h=>h0 (by omega))]
       clear h0
       go_enter Try.func82,Try.ntmps82
       go_wp2_with fail
       rw [<- HWB.out]
       refine wp_region_held_drew (S:=(fun wX=>(wX.cell? ⟨w.heap.size,0,none⟩=some (.slice s.a1 M.mem.length s.c1)/\wX.cell? ⟨w.heap.size,1,none⟩=some (.slice s.a2 M.pend.length s.c2)/\wX.cell? ⟨w.heap.size,2,none⟩=some (.slice s.a3 M.tlb.length s.c3)/\wX.cell? ⟨w.heap.size,3,none⟩=some (.slice s.a4 M.wc.length s.c4))/\(wX.cell? ⟨w.heap.size+1,1,none⟩=some (.int .i64 A)/\wX.cell? ⟨w.heap.size+1,2,none⟩=some (.int .i64 Bb)))) (by kernel_rfl) (HK.out _ ((Below.refl _ _).drew)) (fun hHeld=>?_)
       refine tk 0 ?_
       refine tk 1 ?_
       refine tk 2 ?_
       refine tk 3 ?_
       refine sk 4 ?_
       refine sk 5 ?_
       refine sk 6 ?_
       refine sk 7 ?_
       refine sk 8 ?_
       refine sk 9 ?_
       refine tk 10 ?_
       refine tk 11 ?_
       refine sk 12 ?_
       refine sk 13 ?_
       refine sk 14 ?_
       refine tk 15 ?_
       refine tk 16 ?_
       refine wpAnyH_done (by kernel_rfl) ?_ _
       go_wp2_with fail
       go_ret
       refine ⟨by first | rfl | simp,HBB.out.trans (Below.mono ?_ HBB.out.size)⟩
       exact (Below.refl _ _).drew
     ·have dk4:(K == 4)=false:=by simpa using k4
      have e:opB M ⟨K,A,Bb,0⟩=false:=by unfold opB; rw [if_neg k1,if_neg k2,if_neg k3,if_neg k4]
      rw [e]
      clear e k1 k2 k3 k4
      go_enter Try.func82,Try.ntmps82
      go_wp2_with fail
      go_ret
      exact ⟨by first | rfl | simp,((Below.refl _ _).alloc (Nat.le_refl _) _).alloc (by simp) _⟩
  ·have dW:(W != 0)=true:=by simpa using hW
   have e:opB M ⟨K,A,Bb,W⟩=false:=by
    unfold opB
    rw [if_neg k1]
    split
    ·exact decide_eq_false (fun hh=>hW hh.2.2)
    ·split
     ·exact decide_eq_false (fun hh=>hW hh.2.2.2.2)
     ·split
      ·exact decide_eq_false (fun hh=>hW hh.2.2.2)
      ·rfl
   rw [e]
   clear e k1 hW
   go_enter Try.func82,Try.ntmps82
   go_wp2_with fail
   go_ret
   exact ⟨by first | rfl | simp,((Below.refl _ _).alloc (Nat.le_refl _) _).alloc (by simp) _⟩
theorem MRow.memc {w:World} {b:Nat} {s:SV} {M:Mach} (h:MRow w b (s.mv M) M) (h0:0 < M.mem.length):∃ g,s.a1=some ⟨g,0,none⟩/\CRow w g M.mem:=by
 have h1:ERow eWord w b (.slice s.a1 M.mem.length s.c1) M.mem:=h.w
 obtain ⟨g,e,hc,_⟩:=eWord_c h1 h0
 exact ⟨g,e,hc⟩
set_option maxRecDepth 100000 in
set_option maxHeartbeats 4000000 in
theorem inUseS_any (s:SV) (M:Mach) (b:Nat) (f:Int) (w:World) (hs:M.Small) (hok:WOk M) (hv:validB M=true) (h:MRow w b (s.mv M) M) :
  Calls Try.prog 84 #[.agg #[.slice s.a1 M.mem.length s.c1,.slice s.a2 M.pend.length s.c2,.slice s.a3 M.tlb.length s.c3,.slice s.a4 M.wc.length s.c4],.int .i64 f] w fun e w'=>e=.returned (.bool (inUse M f))/\Below w.heap.size w w':=by
 have y4:=hs.c
 have y1:=hs.w
 have hmm:=nfr_mul M.mem.length hok.n0
 have hm0:0 < M.mem.length:=by omega
 have hpd:∀ i,i < M.pend.length->0<=(eAt eWrite M.pend i).addr:=fun i hi=>(valid_pend hv i hi).1
 obtain ⟨g1,ha1,hc1⟩:=h.memc hm0
 obtain ⟨wb,hwb⟩:∃ wb,wb=w.alloc (.cells #[.slice s.a1 M.mem.length s.c1,.slice s.a2 M.pend.length s.c2,.slice s.a3 M.tlb.length s.c3,.slice s.a4 M.wc.length s.c4] 38):=⟨_,rfl⟩
 have hbb:Below w.heap.size w wb:=by rw [hwb]; exact (Below.refl _ _).alloc (Nat.le_refl _) _
 have hzb:wb.heap.size=w.heap.size+1:=by rw [hwb]; simp
 have HBOX:Hid (∀ wX,Below wb.heap.size wb wX->wX.cell? ⟨w.heap.size,0,none⟩=some (.slice s.a1 M.mem.length s.c1)/\wX.cell? ⟨w.heap.size,1,none⟩=some (.slice s.a2 M.pend.length s.c2)/\wX.cell? ⟨w.heap.size,2,none⟩=some (.slice s.a3 M.tlb.length s.c3)/\wX.cell? ⟨w.heap.size,3,none⟩=some (.slice s.a4 M.wc.length s.c4)):=fun wX hX=>by
  refine ⟨?_,?_,?_,?_⟩
  iterate 4 (exact (hX.cell (by simp; omega)).trans (by rw [hwb]; simp [go_sem]))
 have hp1:=specPlaces_any g1 M.mem s.c1 hs.w hok.word wb (hc1.below hbb hc1.lt)
 rw [<- ha1] at hp1
 have HLA:Hid (∀ wX,Below wb.heap.size wb wX->Calls Try.prog 85 #[.agg #[.slice s.a1 M.mem.length s.c1,.slice s.a2 M.pend.length s.c2,.slice s.a3 M.tlb.length s.c3,.slice s.a4 M.wc.length s.c4]] wX fun e w'=>∃ g c,e=.returned (.agg #[.slice (some ⟨g,0,none⟩) M.mem.length c])/\ERow eWord w' wX.heap.size (.slice (some ⟨g,0,none⟩) M.mem.length c) (lateL M)/\Below wX.heap.size wX w'):=fun wX hX=>latest_any s M b wX hs hm0 (fun i hi=>valid_pend hv i hi) (h.below (hbb.trans (hX.mono (by omega))))
 have HLZ:Hid (OkMem (lateL M)):=late_ok hok hpd
 have hrc:ERow eWc w b (.slice s.a4 M.wc.length s.c4) M.wc:=h.c
 obtain ⟨gw,hw1,hw2⟩:=wcS_cells hrc
 have HW:Hid (∀ k L P T D,k < M.wc.length->eAt eWc M.wc k=⟨L,P,T,D⟩->s.a4=some ⟨gw,0,none⟩/\gw < w.heap.size/\∀ wX,Below wb.heap.size wb wX->wX.cell? ⟨gw,k * 4,none⟩=some (.int .i64 L)/\wX.cell? ⟨gw,k * 4+1,none⟩=some (.int .i64 P)/\wX.cell? ⟨gw,k * 4+2,none⟩=some (.int .i64 T)/\wX.cell? ⟨gw,k * 4+3,none⟩=some (.bool D)):=fun k L P T D hk he=>by
  obtain ⟨e1,e2⟩:=hw1 (by omega)
  exact ⟨e1,e2,fun wX hX=>hw2 k L P T D hk he wX ((hbb.trans (hX.mono (by omega))).block gw e2)⟩
 have HR0:Hid (f=0->inUse M f=true):=fun e=>by unfold inUse; rw [e,plcHas_root M.mem hok.n0]; rfl
 rw [hwb] at hp1
 have HWB:Hid (wb=_):=hwb
 have HBB:Hid (Below w.heap.size w wb):=hbb
 have HZ:Hid (wb.heap.size=_):=hzb
 have hle1:=plist_length M.mem
 have hle2:=plist_length (lateL M)
 have hll:=lateL_length M
 clear h hrc hw1 hw2 hwb hbb hzb hc1 hok hv hpd ha1
 unfold PlacesPost at hp1
 go_enter Try.func84,Try.ntmps84
 go_wp2_with fail
 refine hp1.mono ?_
 rintro e w1 ⟨a1,c1,rfl,hr1,hb1'⟩
 have hb1:Below wb.heap.size wb w1:=by rw [HWB.out]; exact hb1'
 obtain ⟨m0,m1,m2,m3⟩:=HBOX.out w1 hb1
 have HR1:Hid (PRow w1 (w.alloc _).heap.size (.slice a1 (plist M.mem).length c1) (plist M.mem)):=hr1
 clear hp1 hb1' hr1
 go_wp2_with fail
 refine (HLA.out w1 hb1).mono ?_
 rintro e w2 ⟨g2,c2,rfl,hr2,hb2⟩
 have b2:Below wb.heap.size wb w2:=hb1.trans (hb2.mono hb1.size)
 have hr2':ERow eWord w2 w1.heap.size (.slice (some ⟨g2,0,none⟩) (lateL M).length c2) (lateL M):=by rw [hll]; exact hr2
 obtain ⟨g2',e2,hc2,_⟩:=eWord_c hr2' (by omega)
 simp only [Option.some.injEq,Addr.mk.injEq,and_true] at e2
 obtain rfl:=e2.symm
 have hp2:=specPlaces_any g2' (lateL M) c2 (by omega) HLZ.out.rng w2 hc2
 unfold PlacesPost at hp2
 rw [hll] at hp2
 clear hr2 hr2' hc2 m0 m1 m2 m3 e2
 go_wp2_with fail
 refine hp2.mono ?_
 rintro e w3 ⟨a3,c3,rfl,hr3,hb3⟩
 have b3:Below wb.heap.size wb w3:=b2.trans (hb3.mono b2.size)
 have hh1:=hasFrS_any a1 c1 _ (plist M.mem) f w3 hle1 ((HR1.out.below hb2).below hb3)
 have hh2:=hasFrS_any a3 c3 _ (plist (lateL M)) f w3 hle2 hr3
 have HB3:Hid (Below wb.heap.size wb w3):=b3
 clear hp2 hr3 hb3 hb2 hb1 b2 b3
 have HUS:Hid (∀ x y z,plcHas (plist M.mem) f=x->plcHas (plist (lateL M)) f=y->wcHas M f=z->inUse M f=(x || y || z)):=fun x y z hx hy hz=>by unfold inUse; rw [hx,hy,hz]
 by_cases hf0:f=0
 ·have HR:=HR0.out hf0
  have d0:(f == 0)=true:=by simpa using hf0
  have HRR:Hid (inUse M f=true):=HR
  clear hf0 hh1 hh2 HR
  go_wp2_with fail
  go_ret
  exact ⟨by rw [HRR.out]; rfl,HBB.out.trans (HB3.out.mono HBB.out.size)⟩
 ·have d0:(f == 0)=false:=by simpa using hf0
  clear hf0
  cases hx:plcHas (plist M.mem) f <;> rw [hx] at hh1
  ·cases hy:plcHas (plist (lateL M)) f <;> rw [hy] at hh2
   ·have HUZ:Hid (∀ z,wcHas M f=z->inUse M f=z):=fun z hz=>by rw [HUS.out _ _ z hx hy hz]; rfl
    clear hx hy
    go_wp2_with fail
    refine hh1.mono ?_
    rintro e w4 ⟨rfl,hw4⟩
    obtain rfl:=hw4.symm
    go_wp2_with fail
    refine hh2.mono ?_
    rintro e w4 ⟨rfl,hw4⟩
    obtain rfl:=hw4.symm
    clear hh1 hh2 hw4
    go_wp2_with fail
    go_loopw [9] (fun i wr=>∃ k:Nat,k<=M.wc.length/\i=.int .i64 k/\Hid (∀ j,j < k->decide ((eAt eWc M.wc j).table=f)=false)/\Below wb.heap.size wb wr) (fun i _=>M.wc.length - (intOf i).toNat)
    case atStart=>exact ⟨0,Nat.zero_le _,rfl,fun j hj=>absurd hj (by omega),HB3.out⟩
    case round =>
     obtain ⟨k,hk,rfl,hall,hb⟩:=hrel
     obtain ⟨m0,m1,m2,m3⟩:=HBOX.out wr hb
     by_cases hlt2:k < M.wc.length
     ·obtain ⟨E,hE⟩:∃ E,eAt eWc M.wc k=E:=⟨_,rfl⟩
      obtain ⟨L,P,T,D⟩:=E
      obtain ⟨hae,hgt,hcs⟩:=HW.out k L P T D hlt2 hE
      rw [hae] at m3
      obtain ⟨c0',c1',c2',c3'⟩:=hcs wr hb
      have HE:Hid (eAt eWc M.wc k=_):=hE
      have L1:(0:Int)<=(k:Int):=by omega
      have L2:(k:Int) < (M.wc.length:Int):=by omega
      have HB:Hid (Below wb.heap.size wb wr):=hb
      clear hE hcs hae hb
      by_cases hT:T=f
      ·have d:(T == f)=true:=by simpa using hT
       have HR:Hid (inUse M f=true):=HUZ.out true (anyR_true _ k _ hlt2 (by rw [HE.out]; exact decide_eq_true hT))
       clear hT
       go_wp2_with fail
       go_ret
       exact ⟨by rw [HR.out]; rfl,HBB.out.trans (HB.out.mono HBB.out.size)⟩
      ·have d:(T == f)=false:=by simpa using hT
       have HN:Hid (decide ((eAt eWc M.wc k).table=f)=false):=by rw [HE.out]; exact decide_eq_false hT
       clear hT
       go_wp2_with fail
       go_roundw
       case rel =>
        refine ⟨k+1,by omega,by go_num,fun j hj=>?_,HB.out⟩
        by_cases e:j=k
        ·rw [e]; exact HN.out
        ·exact hall.out j (by omega)
       case measure=>simp [intOf]; omega
     ·have HR:Hid (inUse M f=false):=HUZ.out false (anyR_false _ _ (fun j hj=>hall.out j (by omega)))
      have L2:¬ (k:Int) < (M.wc.length:Int):=by omega
      go_wp2_with fail
      go_ret
      exact ⟨by rw [HR.out]; rfl,HBB.out.trans (hb.mono HBB.out.size)⟩
   ·have HR:Hid (inUse M f=true):=by rw [HUS.out _ _ _ hx hy rfl]; rfl
    clear hx hy
    go_wp2_with fail
    refine hh1.mono ?_
    rintro e w4 ⟨rfl,hw4⟩
    obtain rfl:=hw4.symm
    go_wp2_with fail
    refine hh2.mono ?_
    rintro e w4 ⟨rfl,hw4⟩
    obtain rfl:=hw4.symm
    go_wp2_with fail
    go_ret
    exact ⟨by rw [HR.out]; rfl,HBB.out.trans (HB3.out.mono HBB.out.size)⟩
  ·have HR:Hid (inUse M f=true):=by rw [HUS.out _ _ _ hx rfl rfl]; rfl
   clear hx hh2
   go_wp2_with fail
   refine hh1.mono ?_
   rintro e w4 ⟨rfl,hw4⟩
   obtain rfl:=hw4.symm
   go_wp2_with fail
   go_ret
   exact ⟨by rw [HR.out]; rfl,HBB.out.trans (HB3.out.mono HBB.out.size)⟩
end Go.Proofs.Ytnmhkgmmpkjjeaa
