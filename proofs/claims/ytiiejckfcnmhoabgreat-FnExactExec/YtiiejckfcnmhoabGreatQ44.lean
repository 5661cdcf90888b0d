import Derived.Test.YtiiejckfcnmhoabGreatQ26
import Derived.Test.YtiiejckfcnmhoabGreatQ10
namespace Go.Proofs.YtiiejckfcnmhoabGreat
open Go.ChangeShapes Go.WideShapes Go.ChangeAt Go.RowKit
set_option linter.unusedVariables false
attribute [local go_sem ↓] Go.wp_at_zero Go.wp_at_succ
theorem l3EventOk_any (K P N C:Int) (w:World) :
  Calls Tryz.prog 73 #[.agg #[.int .i64 K,.int .i64 P,.int .i64 N,.int .i64 C]] w fun e w'=>e=.returned (.bool (evOk ⟨K,P,N,C⟩))/\Below w.heap.size w w':=by
 have hpk:=pageOk_any P
 have hck:=choiceOk_any C
 cases hp:pageOk P
 ·have hr:evOk ⟨K,P,N,C⟩=false:=by unfold evOk; dsimp only; rw [hp]; simp
  rw [hr]
  rw [hp] at hpk
  clear hr hp
  go_enter Tryz.func73,Tryz.ntmps73
  go_wp2_with (first | (go_at_call 35; refine (hpk _).mono ?_; rintro e wE ⟨rfl,hwE⟩; obtain rfl:=hwE.symm) | (go_at_call 36; refine (hck _).mono ?_; rintro e wE ⟨rfl,hwE⟩; obtain rfl:=hwE.symm))
  go_ret
  exact ⟨rfl,bal⟩
 ·cases hc:choiceOk C
  ·have hr:evOk ⟨K,P,N,C⟩=false:=by unfold evOk; dsimp only; rw [hc]; simp
   rw [hr]
   rw [hp] at hpk
   rw [hc] at hck
   clear hr hp hc
   go_enter Tryz.func73,Tryz.ntmps73
   go_wp2_with (first | (go_at_call 35; refine (hpk _).mono ?_; rintro e wE ⟨rfl,hwE⟩; obtain rfl:=hwE.symm) | (go_at_call 36; refine (hck _).mono ?_; rintro e wE ⟨rfl,hwE⟩; obtain rfl:=hwE.symm))
   go_ret
   exact ⟨rfl,bal⟩
  ·by_cases k4:K=4
   ·subst k4
    by_cases vN1:N=1
    ·subst vN1
     have hr:evOk ⟨4,P,1,C⟩=true:=by unfold evOk needOk; dsimp only; rw [hp,hc,if_pos rfl]; simp
     rw [hr]
     rw [hp] at hpk
     rw [hc] at hck
     clear hr hp hc
     go_enter Tryz.func73,Tryz.ntmps73
     go_wp2_with (first | (go_at_call 35; refine (hpk _).mono ?_; rintro e wE ⟨rfl,hwE⟩; obtain rfl:=hwE.symm) | (go_at_call 36; refine (hck _).mono ?_; rintro e wE ⟨rfl,hwE⟩; obtain rfl:=hwE.symm))
     go_ret
     exact ⟨rfl,bal⟩
    ·have eN1:(N == 1)=false:=by simpa using vN1
     by_cases vN2:N=2
     ·subst vN2
      have hr:evOk ⟨4,P,2,C⟩=true:=by unfold evOk needOk; dsimp only; rw [hp,hc,if_pos rfl]; simp
      rw [hr]
      rw [hp] at hpk
      rw [hc] at hck
      clear hr hp hc
      go_enter Tryz.func73,Tryz.ntmps73
      go_wp2_with (first | (go_at_call 35; refine (hpk _).mono ?_; rintro e wE ⟨rfl,hwE⟩; obtain rfl:=hwE.symm) | (go_at_call 36; refine (hck _).mono ?_; rintro e wE ⟨rfl,hwE⟩; obtain rfl:=hwE.symm))
      go_ret
      exact ⟨rfl,bal⟩
     ·have eN2:(N == 2)=false:=by simpa using vN2
      by_cases vN4:N=4
      ·subst vN4
       have hr:evOk ⟨4,P,4,C⟩=true:=by unfold evOk needOk; dsimp only; rw [hp,hc,if_pos rfl]; simp
       rw [hr]
       rw [hp] at hpk
       rw [hc] at hck
       clear hr hp hc
       go_enter Tryz.func73,Tryz.ntmps73
       go_wp2_with (first | (go_at_call 35; refine (hpk _).mono ?_; rintro e wE ⟨rfl,hwE⟩; obtain rfl:=hwE.symm) | (go_at_call 36; refine (hck _).mono ?_; rintro e wE ⟨rfl,hwE⟩; obtain rfl:=hwE.symm))
       go_ret
       exact ⟨rfl,bal⟩
      ·have eN4:(N == 4)=false:=by simpa using vN4
       have hr:evOk ⟨4,P,N,C⟩=false:=by unfold evOk needOk; dsimp only; rw [hp,hc,if_pos rfl]; simp; omega
       rw [hr]
       rw [hp] at hpk
       rw [hc] at hck
       clear hr hp hc vN1 vN2 vN4
       go_enter Tryz.func73,Tryz.ntmps73
       go_wp2_with (first | (go_at_call 35; refine (hpk _).mono ?_; rintro e wE ⟨rfl,hwE⟩; obtain rfl:=hwE.symm) | (go_at_call 36; refine (hck _).mono ?_; rintro e wE ⟨rfl,hwE⟩; obtain rfl:=hwE.symm))
       go_ret
       exact ⟨rfl,bal⟩
   ·have d4:(K == 4)=false:=by simpa using k4
    by_cases kn:N=0
    ·subst kn
     by_cases vK0:K=0
     ·subst vK0
      have hr:evOk ⟨0,P,0,C⟩=true:=by unfold evOk; dsimp only; rw [hp,hc,if_neg (by omega)]; simp
      rw [hr]
      rw [hp] at hpk
      rw [hc] at hck
      clear hr hp hc k4 d4
      go_enter Tryz.func73,Tryz.ntmps73
      go_wp2_with (first | (go_at_call 35; refine (hpk _).mono ?_; rintro e wE ⟨rfl,hwE⟩; obtain rfl:=hwE.symm) | (go_at_call 36; refine (hck _).mono ?_; rintro e wE ⟨rfl,hwE⟩; obtain rfl:=hwE.symm))
      go_ret
      exact ⟨rfl,bal⟩
     ·have eK0:(K == 0)=false:=by simpa using vK0
      by_cases vK1:K=1
      ·subst vK1
       have hr:evOk ⟨1,P,0,C⟩=true:=by unfold evOk; dsimp only; rw [hp,hc,if_neg (by omega)]; simp
       rw [hr]
       rw [hp] at hpk
       rw [hc] at hck
       clear hr hp hc k4 d4
       go_enter Tryz.func73,Tryz.ntmps73
       go_wp2_with (first | (go_at_call 35; refine (hpk _).mono ?_; rintro e wE ⟨rfl,hwE⟩; obtain rfl:=hwE.symm) | (go_at_call 36; refine (hck _).mono ?_; rintro e wE ⟨rfl,hwE⟩; obtain rfl:=hwE.symm))
       go_ret
       exact ⟨rfl,bal⟩
      ·have eK1:(K == 1)=false:=by simpa using vK1
       by_cases vK2:K=2
       ·subst vK2
        have hr:evOk ⟨2,P,0,C⟩=true:=by unfold evOk; dsimp only; rw [hp,hc,if_neg (by omega)]; simp
        rw [hr]
        rw [hp] at hpk
        rw [hc] at hck
        clear hr hp hc k4 d4
        go_enter Tryz.func73,Tryz.ntmps73
        go_wp2_with (first | (go_at_call 35; refine (hpk _).mono ?_; rintro e wE ⟨rfl,hwE⟩; obtain rfl:=hwE.symm) | (go_at_call 36; refine (hck _).mono ?_; rintro e wE ⟨rfl,hwE⟩; obtain rfl:=hwE.symm))
        go_ret
        exact ⟨rfl,bal⟩
       ·have eK2:(K == 2)=false:=by simpa using vK2
        by_cases vK3:K=3
        ·subst vK3
         have hr:evOk ⟨3,P,0,C⟩=true:=by unfold evOk; dsimp only; rw [hp,hc,if_neg (by omega)]; simp
         rw [hr]
         rw [hp] at hpk
         rw [hc] at hck
         clear hr hp hc k4 d4
         go_enter Tryz.func73,Tryz.ntmps73
         go_wp2_with (first | (go_at_call 35; refine (hpk _).mono ?_; rintro e wE ⟨rfl,hwE⟩; obtain rfl:=hwE.symm) | (go_at_call 36; refine (hck _).mono ?_; rintro e wE ⟨rfl,hwE⟩; obtain rfl:=hwE.symm))
         go_ret
         exact ⟨rfl,bal⟩
        ·have eK3:(K == 3)=false:=by simpa using vK3
         have hr:evOk ⟨K,P,0,C⟩=false:=by unfold evOk; dsimp only; rw [hp,hc,if_neg (by omega)]; simp; omega
         rw [hr]
         rw [hp] at hpk
         rw [hc] at hck
         clear hr hp hc k4 vK0 vK1 vK2 vK3
         go_enter Tryz.func73,Tryz.ntmps73
         go_wp2_with (first | (go_at_call 35; refine (hpk _).mono ?_; rintro e wE ⟨rfl,hwE⟩; obtain rfl:=hwE.symm) | (go_at_call 36; refine (hck _).mono ?_; rintro e wE ⟨rfl,hwE⟩; obtain rfl:=hwE.symm))
         go_ret
         exact ⟨rfl,bal⟩
    ·have hr:evOk ⟨K,P,N,C⟩=false:=by unfold evOk; dsimp only; rw [hp,hc,if_neg k4]; simp; omega
     have d5:(N != 0)=true:=by simpa using kn
     rw [hr]
     rw [hp] at hpk
     rw [hc] at hck
     clear hr hp hc k4 kn
     go_enter Tryz.func73,Tryz.ntmps73
     go_wp2_with (first | (go_at_call 35; refine (hpk _).mono ?_; rintro e wE ⟨rfl,hwE⟩; obtain rfl:=hwE.symm) | (go_at_call 36; refine (hck _).mono ?_; rintro e wE ⟨rfl,hwE⟩; obtain rfl:=hwE.symm))
     go_ret
     exact ⟨rfl,bal⟩
structure LR (wL wr:World) (z gn gs:Nat) (s:SV) (gv cv:Nat) (X:XS):Prop where
 q:wr.cell? ⟨gn,0,none⟩=some (.slice s.a1 X.M.mem.length s.c1)/\wr.cell? ⟨gn,1,none⟩=some (.slice s.a2 X.M.pend.length s.c2)/\wr.cell? ⟨gn,2,none⟩=some (.slice s.a3 X.M.tlb.length s.c3)/\wr.cell? ⟨gn,3,none⟩=some (.slice s.a4 X.M.wc.length s.c4)
 f:wr.frozen? ⟨gn,0,none⟩=false/\wr.frozen? ⟨gn,1,none⟩=false/\wr.frozen? ⟨gn,2,none⟩=false/\wr.frozen? ⟨gn,3,none⟩=false
 m:MRow wr z (s.mv X.M) X.M
 sr:ERow eSeen wr z (.slice (some ⟨gv,0,none⟩) X.seen.length cv) X.seen
 no:∀ k,(s.mv X.M).owns k->k ≠ gn/\k ≠ gv
 ns:gv ≠ gn
 at':gv=gs\/wL.heap.size<=gv
 t:Touch (fun k=>k=gn\/k=gs) wL wr
theorem LR.below {wL wr w2:World} {z gn gs:Nat} {s:SV} {gv cv:Nat} {X:XS} (h:LR wL wr z gn gs s gv cv X) (hn:gn < wL.heap.size) (hb:Below wr.heap.size wr w2):LR wL w2 z gn gs s gv cv X:=by
 have hs:=h.t.size
 have c:∀ j,w2.cell? ⟨gn,j,none⟩=wr.cell? ⟨gn,j,none⟩:=fun j=>hb.cell (by simp; omega)
 have f:∀ j,w2.frozen? ⟨gn,j,none⟩=wr.frozen? ⟨gn,j,none⟩:=fun j=>hb.frozen (by simp; omega)
 exact ⟨⟨(c 0).trans h.q.1,(c 1).trans h.q.2.1,(c 2).trans h.q.2.2.1,(c 3).trans h.q.2.2.2⟩,⟨(f 0).trans h.f.1,(f 1).trans h.f.2.1,(f 2).trans h.f.2.2.1,(f 3).trans h.f.2.2.2⟩,h.m.below hb,h.sr.below hb,h.no,h.ns,h.at',h.t.trans (Touch.of_below hb)⟩
theorem LR.put {wL wr:World} {z gn gs:Nat} {s s':SV} {gv cv:Nat} {X:XS} {M':Mach} (h:LR wL wr z gn gs s gv cv X) (hm:MRow wr z (s'.mv M') M') (hno:∀ k,(s'.mv M').owns k->k ≠ gn/\k ≠ gv) (a:Nat) (c:Int):LR wL ((((wr.setCell ⟨gn,0,none⟩ (.slice s'.a1 M'.mem.length s'.c1)).setCell ⟨gn,1,none⟩ (.slice s'.a2 M'.pend.length s'.c2)).setCell ⟨gn,2,none⟩ (.slice s'.a3 M'.tlb.length s'.c3)).setCell ⟨gn,3,none⟩ (.slice s'.a4 M'.wc.length s'.c4)) z gn gs s' gv cv ⟨M',a,c,X.seen⟩:=by
 obtain ⟨w4,hw4⟩:∃ w4,w4=((((wr.setCell ⟨gn,0,none⟩ (.slice s'.a1 M'.mem.length s'.c1)).setCell ⟨gn,1,none⟩ (.slice s'.a2 M'.pend.length s'.c2)).setCell ⟨gn,2,none⟩ (.slice s'.a3 M'.tlb.length s'.c3)).setCell ⟨gn,3,none⟩ (.slice s'.a4 M'.wc.length s'.c4)):=⟨_,rfl⟩
 rw [<- hw4]
 have ht:Touch (fun k=>k=gn) wr w4:=by
  rw [hw4]
  exact Touch.put (Touch.put (Touch.put (Touch.put (Touch.none _) _ _ (by rfl)) _ _ (by rfl)) _ _ (by rfl)) _ _ (by rfl)
 obtain ⟨q0,q1,q2,q3⟩:=h.q
 refine ⟨⟨?_,?_,?_,?_⟩,⟨?_,?_,?_,?_⟩,hm.touch ht (fun k hk e=>(hno k hk).1 e),h.sr.touch ht (fun k hk e=>?_),hno,h.ns,h.at',h.t.then ht (fun k _ e=>.inl e)⟩
 ·rw [hw4]; simp [go_sem,q0]
 ·rw [hw4]; simp [go_sem,q1]
 ·rw [hw4]; simp [go_sem,q2]
 ·rw [hw4]; simp [go_sem,q3]
 ·rw [hw4]; simp [go_sem,h.f.1]
 ·rw [hw4]; simp [go_sem,h.f.2.1]
 ·rw [hw4]; simp [go_sem,h.f.2.2.1]
 ·rw [hw4]; simp [go_sem,h.f.2.2.2]
 ·have e':gv=k:=by simpa [Value.ownBlock] using hk
  exact h.ns (e'.trans e)
theorem LR.seen {wL wr wn:World} {z gn gs:Nat} {s:SV} {gv cv g1 c1:Nat} {X:XS} {x:SeenR} (h:LR wL wr z gn gs s gv cv X) (hn:gn < wL.heap.size) (hl:∀ k,(s.mv X.M).owns k->k < wr.heap.size) (hg:wr.grownBy wn (some gv)) (hr:ERow eSeen wn z (.slice (some ⟨g1,0,none⟩) (X.seen.length+1) c1) (X.seen ++ [x])) (ha:gv=g1\/wr.heap.size<=g1):LR wL wn z gn gs s g1 c1 ⟨X.M,X.at',X.code,X.seen ++ [x]⟩:=by
 have hs:=h.t.size
 have hk:wn.heap[gn]?=wr.heap[gn]?:=hg.block gn (by omega) (fun e=>h.ns (by simpa using e.symm))
 have ht:Touch (fun k=>k=gv) wr wn:=⟨hg.os,hg.tape,hg.output,hg.size,fun k hk hn=>hg.block k hk (fun e=>hn (by simpa using e))⟩
 refine ⟨⟨(cob hk).trans h.q.1,(cob hk).trans h.q.2.1,(cob hk).trans h.q.2.2.1,(cob hk).trans h.q.2.2.2⟩,⟨(fob hk).trans h.f.1,(fob hk).trans h.f.2.1,(fob hk).trans h.f.2.2.1,(fob hk).trans h.f.2.2.2⟩,h.m.touch ht (fun k hk e=>(h.no k hk).2 e),?_,fun k hk=>⟨(h.no k hk).1,?_⟩,?_,?_,h.t.then ht (fun k hk e=>?_)⟩
 ·rw [List.length_append]; exact hr
 ·rcases ha with ha | ha
  ·rw [<- ha]; exact (h.no k hk).2
  ·have:=hl k hk; omega
 ·rcases ha with ha | ha
  ·rw [<- ha]; exact h.ns
  ·omega
 ·rcases ha with ha | ha
  ·rw [<- ha]; exact h.at'
  ·exact .inr (by omega)
 ·rcases h.at' with h' | h'
  ·exact .inr (by rw [e,h'])
  ·omega
def scr (evs:List EventE) (t:Nat):List EventE:=evs.take t
theorem scr_length {evs:List EventE} {t:Nat} (h:t<=evs.length):(scr evs t).length=t:=by unfold scr; rw [List.length_take]; omega
theorem scr_all (evs:List EventE):scr evs evs.length=evs:=List.take_length
theorem scr_succ {evs:List EventE} {t:Nat} (h:t < evs.length):scr evs (t+1)=scr evs t ++ [eAt eEvent evs t]:=by
 unfold scr
 rw [List.take_add_one]
 have:evs[t]?=some (eAt eEvent evs t):=by
  unfold eAt
  rw [List.getD_eq_getElem?_getD,List.getElem?_eq_getElem h]
  rfl
 rw [this]
 rfl
def longE (evs:List EventE) (n:Nat):List EventE:=evs ++ List.replicate n ⟨0,0,0,0⟩
theorem longE_length (evs:List EventE) (n:Nat):(longE evs n).length=evs.length+n:=by simp [longE]
theorem longE_old (evs:List EventE) (n i:Nat) (h:i < evs.length):eAt eEvent (longE evs n) i=eAt eEvent evs i:=by
 unfold eAt longE
 rw [List.getD_eq_getElem?_getD,List.getD_eq_getElem?_getD,List.getElem?_append_left h]
theorem longE_new (evs:List EventE) (n i:Nat) (h:evs.length<=i):eAt eEvent (longE evs n) i=⟨0,0,0,0⟩:=by
 unfold eAt longE
 rw [List.getD_eq_getElem?_getD,List.getElem?_append_right h,List.getElem?_replicate]
 split <;> rfl
theorem longE_succ (evs:List EventE) (n:Nat):longE evs (n+1)=longE evs n ++ [⟨0,0,0,0⟩]:=by
 unfold longE
 rw [List.replicate_succ',List.append_assoc]
theorem longE_ok {evs:List EventE} (n:Nat) (he:∀ i,i < evs.length->evOk (eAt eEvent evs i)=true) (i:Nat):i < evs.length+n->evOk (eAt eEvent (longE evs n) i)=true:=fun _=>by
 by_cases h:i < evs.length
 ·rw [longE_old _ _ _ h]; exact he i h
 ·rw [longE_new _ _ _ (by omega)]; decide
theorem play_long (ops:List OpE) (evs:List EventE) (n:Nat) (x:XS):∀ k,k<=evs.length->playX ops (longE evs n) k x=playX ops evs k x
 | 0,_=>rfl
 | k+1,h=>by rw [playX_succ,playX_succ,play_long ops evs n x k (by omega),longE_old _ _ _ (by omega)]
theorem play_rest (ops:List OpE) (evs:List EventE) (n:Nat) (x:XS):∀ k,playX ops (longE evs n) (evs.length+k) x=restX ops k (playX ops evs evs.length x)
 | 0=>play_long ops evs n x _ (Nat.le_refl _)
 | k+1=>by
  rw [show evs.length+(k+1)=evs.length+k+1 by omega,playX_succ,play_rest ops evs n x k,longE_new _ _ _ (by omega),restX_succ]
  rfl
theorem play_end (M:Mach) (ops:List OpE) (evs:List EventE):playX ops (longE evs ops.length) (evs.length+ops.length) (begX M)=endX M ops evs:=play_rest ops evs ops.length (begX M) ops.length
theorem play_stop {ops:List OpE} {evs:List EventE} {x:XS} {k:Nat} (h:¬ (playX ops evs k x).code=0):∀ j,playX ops evs (k+j) x=playX ops evs k x
 | 0=>rfl
 | j+1=>by rw [show k+(j+1)=(k+j)+1 by omega,playX_succ,play_stop h j,if_neg h]
theorem fill_vm {M:Mach} (h:VM M) {p c:Int} (hp:0<=p/\p < 4096) (hc:0<=c/\c<=65535):fillM M p c=(walkM M p c).1:=by
 unfold fillM
 rw [h.valid]
 simp [pageOk,choiceOk,hp,hc]
theorem acc_vm {M:Mach} (h:VM M) {p n c:Int} (hp:0<=p/\p < 4096) (hc:0<=c/\c<=65535) (hn:needOk n=true):accM M p n c=(accN M p c,accS M p n c):=by
 unfold accM accOk
 rw [h.valid,hn]
 simp [pageOk,choiceOk,hp,hc]
theorem drop0_vm {M:Mach} (h:VM M) (c:Int):dropM M 0 c=⟨M.mem,M.pend,keepTo eTlb true c M.tlb M.tlb.length,M.wc⟩:=by
 unfold dropM
 rw [h.valid,if_pos rfl,keepTo_all eWc (decide ((0:Int)=1)) c M.wc (.inl (by decide))]
 rfl
theorem drop1_vm {M:Mach} (h:VM M) (c:Int):dropM M 1 c=⟨M.mem,M.pend,M.tlb,keepTo eWc true c M.wc M.wc.length⟩:=by
 unfold dropM
 rw [h.valid,if_pos rfl,keepTo_all eTlb (decide ((1:Int)=0)) c M.tlb (.inl (by decide))]
 rfl
theorem step_vm {M:Mach} (h:VM M) (o:OpE):stepR M o=opM M o:=by
 unfold stepR
 rw [h.valid,if_pos rfl]
end Go.Proofs.YtiiejckfcnmhoabGreat
