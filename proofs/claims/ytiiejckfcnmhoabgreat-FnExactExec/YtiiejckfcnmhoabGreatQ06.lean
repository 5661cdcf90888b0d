import Derived.Test.YtiiejckfcnmhoabGreatQ05
import Derived.Test.YtiiejckfcnmhoabGreatQ01
import Derived.Deep.Slices
import Derived.ChangeOld
namespace Go.Proofs.YtiiejckfcnmhoabGreat
open Go.ChangeShapes Go.WideShapes Go.ChangeAt Go.RowKit
set_option linter.unusedVariables false
theorem szMachine_any (a1 a2 a3 a4:Option Addr) (n1 n2 n3 n4 c1 c2 c3 c4:Nat) (h1:n1<=9223372036854775807) (h2:n2<=9223372036854775807) (h3:n3<=9223372036854775807) (h4:n4<=9223372036854775807) (w:World) :
  Calls Tryz.prog 6 #[.agg #[.slice a1 n1 c1,.slice a2 n2 c2,.slice a3 n3 c3,.slice a4 n4 c4],.int .i64 1048576] w fun e w'=>e=.returned (.int .i64 (if n1+n2+n3+n4<=1048576 then 1048576 - n1 - n2 - n3 - n4 else -1))/\Below w.heap.size w w':=by
 have q1:=szMem_any a1 n1 c1 h1
 by_cases k1:n1<=1048576
 ·rw [if_pos (by omega)] at q1
  have q2:=szWrite_any a2 n2 c2 (1048576 - n1) h2 (by omega) (by omega)
  by_cases k2:n1+n2<=1048576
  ·rw [if_pos (by omega)] at q2
   have q3:=szTlb_any a3 n3 c3 (1048576 - n1 - n2) h3 (by omega) (by omega)
   by_cases k3:n1+n2+n3<=1048576
   ·rw [if_pos (by omega)] at q3
    have q4:=szWc_any a4 n4 c4 (1048576 - n1 - n2 - n3) h4 (by omega) (by omega)
    have d1:decide ((1048576:Int) - n1 < 0)=false:=by simp; omega
    have d2:decide ((1048576:Int) - n1 - n2 < 0)=false:=by simp; omega
    have d3:decide ((1048576:Int) - n1 - n2 - n3 < 0)=false:=by simp; omega
    by_cases k4:n1+n2+n3+n4<=1048576
    ·rw [if_pos (by omega)] at q4
     rw [if_pos k4]
     have d4:decide ((1048576:Int) - n1 - n2 - n3 - n4 < 0)=false:=by simp; omega
     go_enter Tryz.func6,Tryz.ntmps6
     go_wp2_with (first
      | (go_at_call 30; refine (q1 _).mono ?_; rintro e w1 ⟨rfl,hb1⟩; obtain ⟨hc1,hf1⟩:=bcellM hb1)
      | (go_at_call 31; refine (q2 _).mono ?_; rintro e w2 ⟨rfl,rfl⟩)
      | (go_at_call 32; refine (q3 _).mono ?_; rintro e w3 ⟨rfl,rfl⟩)
      | (go_at_call 33; refine (q4 _).mono ?_; rintro e w4 ⟨rfl,rfl⟩))
     go_ret
     exact ⟨rfl,bal.trans (hb1.mono (by simp))⟩
    ·rw [if_neg (by omega)] at q4
     rw [if_neg k4]
     go_enter Tryz.func6,Tryz.ntmps6
     go_wp2_with (first
      | (go_at_call 30; refine (q1 _).mono ?_; rintro e w1 ⟨rfl,hb1⟩; obtain ⟨hc1,hf1⟩:=bcellM hb1)
      | (go_at_call 31; refine (q2 _).mono ?_; rintro e w2 ⟨rfl,rfl⟩)
      | (go_at_call 32; refine (q3 _).mono ?_; rintro e w3 ⟨rfl,rfl⟩)
      | (go_at_call 33; refine (q4 _).mono ?_; rintro e w4 ⟨rfl,rfl⟩))
     go_ret
     exact ⟨rfl,bal.trans (hb1.mono (by simp))⟩
   ·rw [if_neg (by omega)] at q3
    rw [if_neg (by omega)]
    have d1:decide ((1048576:Int) - n1 < 0)=false:=by simp; omega
    have d2:decide ((1048576:Int) - n1 - n2 < 0)=false:=by simp; omega
    go_enter Tryz.func6,Tryz.ntmps6
    go_wp2_with (first
     | (go_at_call 30; refine (q1 _).mono ?_; rintro e w1 ⟨rfl,hb1⟩; obtain ⟨hc1,hf1⟩:=bcellM hb1)
     | (go_at_call 31; refine (q2 _).mono ?_; rintro e w2 ⟨rfl,rfl⟩)
     | (go_at_call 32; refine (q3 _).mono ?_; rintro e w3 ⟨rfl,rfl⟩))
    go_ret
    exact ⟨rfl,bal.trans (hb1.mono (by simp))⟩
  ·rw [if_neg (by omega)] at q2
   rw [if_neg (by omega)]
   have d1:decide ((1048576:Int) - n1 < 0)=false:=by simp; omega
   go_enter Tryz.func6,Tryz.ntmps6
   go_wp2_with (first
    | (go_at_call 30; refine (q1 _).mono ?_; rintro e w1 ⟨rfl,hb1⟩; obtain ⟨hc1,hf1⟩:=bcellM hb1)
    | (go_at_call 31; refine (q2 _).mono ?_; rintro e w2 ⟨rfl,rfl⟩))
   go_ret
   exact ⟨rfl,bal.trans (hb1.mono (by simp))⟩
 ·rw [if_neg (by omega)] at q1
  rw [if_neg (by omega)]
  go_enter Tryz.func6,Tryz.ntmps6
  go_wp2_with (go_at_call 30; refine (q1 _).mono ?_; rintro e w1 ⟨rfl,hb1⟩)
  go_ret
  exact ⟨rfl,bal.trans (hb1.mono (by simp))⟩
set_option maxHeartbeats 1000000 in
theorem toMachine_any (m:MV) (M:Mach) (w:World) (hs:M.Small) (h:MSrc w m M) :
  Calls Tryz.prog 8 #[m.agg] w fun e w'=>∃ m':MV,e=.returned m'.agg/\MRow w' w.heap.size m' M/\m'.apart/\Below w.heap.size w w':=by
 have hw:=fun wX (hX:Below w.heap.size w wX)=>toMem_any m.w M.mem wX (h.at hX).w hs.w
 have hp:=fun wX (hX:Below w.heap.size w wX)=>toWriteS_any m.p M.pend wX (h.at hX).p hs.p
 have ht:=fun wX (hX:Below w.heap.size w wX)=>toTlbS_any m.t M.tlb wX (h.at hX).t hs.t
 have hc:=fun wX (hX:Below w.heap.size w wX)=>toWcS_any m.c M.wc wX (h.at hX).c hs.c
 obtain ⟨a1,c1,e1,_⟩:=h.w
 obtain ⟨a2,c2,e2,_⟩:=h.p
 obtain ⟨a3,c3,e3,_⟩:=h.t
 obtain ⟨a4,c4,e4,_⟩:=h.c
 unfold MV.agg
 rw [e1] at hw
 rw [e2] at hp
 rw [e3] at ht
 rw [e4] at hc
 rw [e1,e2,e3,e4]
 have z1:=hs.w
 have HW:Hid _:=hw
 have HP:Hid _:=hp
 have HT:Hid _:=ht
 have HC:Hid _:=hc
 clear e1 e2 e3 e4 hw hp ht hc h
 go_enter Tryz.func8,Tryz.ntmps8
 go_wp2_with fail
 refine (HW.out _ ?_).mono ?_
 ·exact (bal.alloc (by simp) _).alloc (by simp <;> omega) _
 rintro e w1 ⟨g1,rfl,hg1,hr1,hb1⟩
 obtain ⟨hc1,hf1⟩:(∀ b o,b < w.heap.size+3->w1.cell? ⟨b,o,none⟩=(((w.alloc _).alloc _).alloc _).cell? ⟨b,o,none⟩)/\(∀ b o,b < w.heap.size+3->w1.frozen? ⟨b,o,none⟩=(((w.alloc _).alloc _).alloc _).frozen? ⟨b,o,none⟩) :=
  ⟨fun b o h=>hb1.cell (p:=⟨b,o,none⟩) (by simp; omega),fun b o h=>hb1.frozen (p:=⟨b,o,none⟩) (by simp; omega)⟩
 have s1:=hb1.size
 simp at s1 hg1
 have B1:Below w.heap.size w w1:=((bal.alloc (by simp) _).alloc (by simp <;> omega) _).trans (hb1.mono (by simp; omega))
 have R1:=hr1.erow (base:=w.heap.size) (by omega) hs.w
 have l1:=hr1.lt
 have HR1:Hid (ERow eWord w1 _ _ _):=R1
 have HB1:Hid (Below _ w w1):=B1
 clear hr1 R1 B1 hb1
 go_wp2_with fail
 refine (HP.out _ (HB1.out.setCell (by simp; omega) _)).mono ?_
 rintro e w2 ⟨rfl,hr2,hb2⟩
 simp only [World.size_setCell] at hr2
 obtain ⟨hc2,hf2⟩:(∀ b o,b < w.heap.size+3->w2.cell? ⟨b,o,none⟩=(w1.setCell _ _).cell? ⟨b,o,none⟩)/\(∀ b o,b < w.heap.size+3->w2.frozen? ⟨b,o,none⟩=(w1.setCell _ _).frozen? ⟨b,o,none⟩) :=
  ⟨fun b o h=>hb2.cell (p:=⟨b,o,none⟩) (by simp; omega),fun b o h=>hb2.frozen (p:=⟨b,o,none⟩) (by simp; omega)⟩
 have s2:=hb2.size
 simp at s2
 have T2:Touch (fun k=>k=w.heap.size+1+1) w1 w2:=⟨hb2.os,hb2.tape,hb2.output,by omega,fun k hk hn=>(hb2.block k (by simpa using hk)).trans (Below.heap_setCell _ _ _ _ hn)⟩
 have B2:Below w.heap.size w w2:=Touch.below HB1.out T2 (by omega) (fun k hk=>by omega)
 have l2:w1.heap.size < w2.heap.size:=by have:=hr2.own w1.heap.size rfl; omega
 have HR2:Hid (ERow eWord w2 w.heap.size (.slice (some ⟨g1,0,none⟩) M.mem.length M.mem.length) M.mem/\ERow eWrite w2 w.heap.size (.slice (some ⟨w1.heap.size,0,none⟩) M.pend.length M.pend.length) M.pend) :=
  ⟨HR1.out.touch T2 (fun k hk hx=>by simp [Value.ownBlock] at hk; omega),hr2.rebase (by omega)⟩
 have HB2:Hid (Below _ w w2):=B2
 clear hr2 hb2 T2 B2
 go_wp2_with fail
 refine (HT.out _ (HB2.out.setCell (by simp; omega) _)).mono ?_
 rintro e w3 ⟨rfl,hr3,hb3⟩
 simp only [World.size_setCell] at hr3
 obtain ⟨hc3,hf3⟩:(∀ b o,b < w.heap.size+3->w3.cell? ⟨b,o,none⟩=(w2.setCell _ _).cell? ⟨b,o,none⟩)/\(∀ b o,b < w.heap.size+3->w3.frozen? ⟨b,o,none⟩=(w2.setCell _ _).frozen? ⟨b,o,none⟩) :=
  ⟨fun b o h=>hb3.cell (p:=⟨b,o,none⟩) (by simp; omega),fun b o h=>hb3.frozen (p:=⟨b,o,none⟩) (by simp; omega)⟩
 have s3:=hb3.size
 simp at s3
 have T3:Touch (fun k=>k=w.heap.size+1+1) w2 w3:=⟨hb3.os,hb3.tape,hb3.output,by omega,fun k hk hn=>(hb3.block k (by simpa using hk)).trans (Below.heap_setCell _ _ _ _ hn)⟩
 have B3:Below w.heap.size w w3:=Touch.below HB2.out T3 (by omega) (fun k hk=>by omega)
 have l3:w2.heap.size < w3.heap.size:=by have:=hr3.own w2.heap.size rfl; omega
 have HR3:Hid (ERow eWord w3 w.heap.size (.slice (some ⟨g1,0,none⟩) M.mem.length M.mem.length) M.mem/\ERow eWrite w3 w.heap.size (.slice (some ⟨w1.heap.size,0,none⟩) M.pend.length M.pend.length) M.pend/\ERow eTlb w3 w.heap.size (.slice (some ⟨w2.heap.size,0,none⟩) M.tlb.length M.tlb.length) M.tlb) :=
  ⟨HR2.out.1.touch T3 (fun k hk hx=>by simp [Value.ownBlock] at hk; omega),HR2.out.2.touch T3 (fun k hk hx=>by simp [Value.ownBlock] at hk; omega),hr3.rebase (by omega)⟩
 have HB3:Hid (Below _ w w3):=B3
 clear hr3 hb3 T3 B3
 go_wp2_with fail
 refine (HC.out _ (HB3.out.setCell (by simp; omega) _)).mono ?_
 rintro e w4 ⟨rfl,hr4,hb4⟩
 simp only [World.size_setCell] at hr4
 obtain ⟨hc4,hf4⟩:(∀ b o,b < w.heap.size+3->w4.cell? ⟨b,o,none⟩=(w3.setCell _ _).cell? ⟨b,o,none⟩)/\(∀ b o,b < w.heap.size+3->w4.frozen? ⟨b,o,none⟩=(w3.setCell _ _).frozen? ⟨b,o,none⟩) :=
  ⟨fun b o h=>hb4.cell (p:=⟨b,o,none⟩) (by simp; omega),fun b o h=>hb4.frozen (p:=⟨b,o,none⟩) (by simp; omega)⟩
 have s4:=hb4.size
 simp at s4
 have T4:Touch (fun k=>k=w.heap.size+1+1) w3 w4:=⟨hb4.os,hb4.tape,hb4.output,by omega,fun k hk hn=>(hb4.block k (by simpa using hk)).trans (Below.heap_setCell _ _ _ _ hn)⟩
 have B4:Below w.heap.size w w4:=Touch.below HB3.out T4 (by omega) (fun k hk=>by omega)
 have l4:w3.heap.size < w4.heap.size:=by have:=hr4.own w3.heap.size rfl; omega
 have HR4:Hid (MRow w4 w.heap.size ⟨.slice (some ⟨g1,0,none⟩) M.mem.length M.mem.length,.slice (some ⟨w1.heap.size,0,none⟩) M.pend.length M.pend.length,.slice (some ⟨w2.heap.size,0,none⟩) M.tlb.length M.tlb.length,.slice (some ⟨w3.heap.size,0,none⟩) M.wc.length M.wc.length⟩ M) :=
  ⟨HR3.out.1.touch T4 (fun k hk hx=>by simp [Value.ownBlock] at hk; omega),HR3.out.2.1.touch T4 (fun k hk hx=>by simp [Value.ownBlock] at hk; omega),HR3.out.2.2.touch T4 (fun k hk hx=>by simp [Value.ownBlock] at hk; omega),hr4.rebase (by omega)⟩
 have HB4:Hid (Below _ w w4):=B4
 clear hr4 hb4 T4 B4
 go_wp2_with fail
 refine bodyPost_ret (v:=.agg #[.slice (some ⟨g1,0,none⟩) M.mem.length M.mem.length,.slice (some ⟨w1.heap.size,0,none⟩) M.pend.length M.pend.length,.slice (some ⟨w2.heap.size,0,none⟩) M.tlb.length M.tlb.length,.slice (some ⟨w3.heap.size,0,none⟩) M.wc.length M.wc.length])
  (by simp [results,Tryz.results8,go_sem,hc4,hc3,hc2,hc1]) rfl ⟨⟨.slice (some ⟨g1,0,none⟩) M.mem.length M.mem.length,.slice (some ⟨w1.heap.size,0,none⟩) M.pend.length M.pend.length,.slice (some ⟨w2.heap.size,0,none⟩) M.tlb.length M.tlb.length,.slice (some ⟨w3.heap.size,0,none⟩) M.wc.length M.wc.length⟩,rfl,?_,?_,?_⟩
 ·refine HR4.out.touch (S:=fun k=>k=w.heap.size+1+1\/k=w.heap.size+1) ⟨rfl,rfl,rfl,by simp,fun k hk hn=>?_⟩ ?_
  ·have n1:k ≠ w.heap.size+1+1:=fun e=>hn (.inl e)
   have n2:k ≠ w.heap.size+1:=fun e=>hn (.inr e)
   rw [Below.heap_setCell _ _ _ _ (by exact n2),Below.heap_setCell _ _ _ _ (by exact n2),Below.heap_setCell _ _ _ _ (by exact n2),Below.heap_setCell _ _ _ _ (by exact n2),Below.heap_setCell _ _ _ _ (by exact n1)]
  ·rintro k (hk | hk | hk | hk) <;> simp [Value.ownBlock] at hk <;> omega
 ·intro k
  simp only [Value.ownBlock,Option.some.injEq,ne_eq]
  omega
 ·exact ((((HB4.out.setCell (by simp; omega) _).setCell (by simp) _).setCell (by simp) _).setCell (by simp) _).setCell (by simp) _
theorem esrc_open {α:Type} (E:Elt α) (Q:α->Prop) {H:Type} {enc:TypeId × Value->H} {W:World} {sp:Nat->Bool} {T ts:TypeId} (ht:Tryz.prog.underlying ts=some (.slice T)) (hc:Tryz.prog.cellsOf T=E.sz)
  (hel:∀ n cs y,DataW.trod enc Tryz.prog W 0 sp true n T cs=some y->∃ x,cs=E.enc x/\Q x) {fuel:Nat} {v:Value} {y:DataW H × List MemPlace} (hf:DataW.trod enc Tryz.prog W 0 sp true fuel ts [v]=some y) :
  ∃ xs,ESrc E W v xs/\xs.length<=9223372036854775807/\∀ i,i < xs.length->Q (eAt E xs i):=by
 rcases Go.Deep.open_slice ht hf with ⟨hcs,_⟩ | ⟨a,len,cap,m,n,D,Pl,hcs,_,hl,hm,hmm,_,hx⟩
 ·simp at hcs
  subst hcs
  exact ⟨[],⟨none,0,rfl,fun h=>absurd h (by simp)⟩,by simp,fun i hi=>absurd hi (by simp)⟩
 ·simp at hcs
  subst hcs
  unfold maxLen at hm
  have hlm:len<=m:=by rw [hmm]; split <;> omega
  have hex:∀ i,i < len->∃ x,Q x/\∀ j,j < E.sz->W.cell? ((a.add (i * E.sz)).add j)=(E.enc x)[j]?:=by
   intro i hi
   obtain ⟨cs',h1,h2⟩:=hx i (by omega)
   obtain ⟨x,rfl,hq⟩:=hel _ _ _ h2
   rw [hc] at h1
   exact ⟨x,hq,(World.cells?_some h1).2.2⟩
  have hch:∃ X:Nat->α,∀ i,i < len->Q (X i)/\∀ j,j < E.sz->W.cell? ((a.add (i * E.sz)).add j)=(E.enc (X i))[j]?:=by
   refine ⟨fun i=>if hi:i < len then Classical.choose (hex i hi) else E.dflt,fun i hi=>?_⟩
   simp only [dif_pos hi]
   exact Classical.choose_spec (hex i hi)
  obtain ⟨X,hX⟩:=hch
  have hlen:((List.range len).map X).length=len:=by simp
  have hat:∀ i,i < len->eAt E ((List.range len).map X) i=X i:=by
   intro i hi
   simp [eAt,hi]
  refine ⟨(List.range len).map X,⟨some a,cap,by rw [hlen],fun h0=>?_⟩,by omega,fun i hi=>?_⟩
  ·rw [hlen] at h0
   have hcell:∀ i,i < len->∀ j,j < E.sz->W.cell? ((a.add (i * E.sz)).add j)=some (eCell E ((List.range len).map X) i j):=by
    intro i hi j hj
    rw [(hX i hi).2 j hj,eCell,hat i hi,List.getElem?_eq_getElem (by rw [E.len]; exact hj)]
    rfl
   obtain ⟨b,off,spot⟩:=a
   have hspot:spot=none:=by
    have:=hcell 0 h0 0 E.pos
    simpa [Addr.add] using World.cell?_spot this
   subst hspot
   have hplain:∀ i,i < len->∀ j,j < E.sz->W.cell? ⟨b,off+i * E.sz+j,none⟩=some (eCell E ((List.range len).map X) i j):=by
    intro i hi j hj
    have:=hcell i hi j hj
    rwa [add_plain,add_plain] at this
   exact ⟨b,off,rfl,World.block_lt_of_cell? W _ (hplain 0 h0 0 E.pos),fun i hi j hj=>hplain i (by omega) j hj⟩
  ·rw [hlen] at hi
   rw [hat i hi]
   exact (hX i hi).1
theorem mach_laidOut:laidOutB Tryz.prog=true:=by kernel_rfl
theorem list2 {α:Type} {l:List α} (h:l.length=2):∃ a0 a1,l=[a0,a1]:=by
 match l,h with
 | [a0,a1],_=>exact ⟨a0,a1,rfl⟩
theorem list4 {α:Type} {l:List α} (h:l.length=4):∃ a0 a1 a2 a3,l=[a0,a1,a2,a3]:=by
 match l,h with
 | [a0,a1,a2,a3],_=>exact ⟨a0,a1,a2,a3,rfl⟩
theorem list5 {α:Type} {l:List α} (h:l.length=5):∃ a0 a1 a2 a3 a4,l=[a0,a1,a2,a3,a4]:=by
 match l,h with
 | [a0,a1,a2,a3,a4],_=>exact ⟨a0,a1,a2,a3,a4,rfl⟩
theorem cellsWrite:Tryz.prog.cellsOf 141=2:=by kernel_rfl
def okWrite (x:WriteE):Prop:=(Lit.int .i64 x.addr).wf=true/\(Lit.int .u64 x.word).wf=true
set_option maxRecDepth 100000 in
theorem elWrite {H:Type} {enc:TypeId × Value->H} {W:World} {sp:Nat->Bool} (n:Nat) (cs:List Value) (y:DataW H × List MemPlace) (h:DataW.trod enc Tryz.prog W 0 sp true n 141 cs=some y):∃ x,cs=eWrite.enc x/\okWrite x:=by
 obtain ⟨xs,m,_,_,hl,hlen,hf⟩:=DataW.trod_struct Tryz.underlying141 h
 rw [cellsWrite] at hl
 obtain ⟨v0,v1,rfl⟩:=list2 hl
 have h0:DataW.trod enc Tryz.prog W 0 sp true m 3 [v0]=xs[0]?:=hf 0 _ rfl
 have h1:DataW.trod enc Tryz.prog W 0 sp true m 46 [v1]=xs[1]?:=hf 1 _ rfl
 have k0:∃ z,xs[0]?=some z:=⟨_,List.getElem?_eq_getElem (by rw [hlen]; decide)⟩
 obtain ⟨z0,e0⟩:=k0
 rw [e0] at h0
 obtain ⟨q0,r0,_,w0⟩:=DataW.trod_int Tryz.underlying3 h0
 simp only [List.cons.injEq,and_true] at r0
 have k1:∃ z,xs[1]?=some z:=⟨_,List.getElem?_eq_getElem (by rw [hlen]; decide)⟩
 obtain ⟨z1,e1⟩:=k1
 rw [e1] at h1
 obtain ⟨q1,r1,_,w1⟩:=DataW.trod_int Tryz.underlying46 h1
 simp only [List.cons.injEq,and_true] at r1
 exact ⟨⟨q0,q1⟩,by rw [r0,r1]; rfl,w0,w1⟩
theorem cellsTlb:Tryz.prog.cellsOf 143=5:=by kernel_rfl
def okTlb (x:TlbE):Prop:=(Lit.int .i64 x.page).wf=true/\(Lit.int .i64 x.size).wf=true/\(Lit.int .i64 x.out).wf=true/\(Lit.int .i64 x.perm).wf=true
set_option maxRecDepth 100000 in
theorem elTlb {H:Type} {enc:TypeId × Value->H} {W:World} {sp:Nat->Bool} (n:Nat) (cs:List Value) (y:DataW H × List MemPlace) (h:DataW.trod enc Tryz.prog W 0 sp true n 143 cs=some y):∃ x,cs=eTlb.enc x/\okTlb x:=by
 obtain ⟨xs,m,_,_,hl,hlen,hf⟩:=DataW.trod_struct Tryz.underlying143 h
 rw [cellsTlb] at hl
 obtain ⟨v0,v1,v2,v3,v4,rfl⟩:=list5 hl
 have h0:DataW.trod enc Tryz.prog W 0 sp true m 3 [v0]=xs[0]?:=hf 0 _ rfl
 have h1:DataW.trod enc Tryz.prog W 0 sp true m 3 [v1]=xs[1]?:=hf 1 _ rfl
 have h2:DataW.trod enc Tryz.prog W 0 sp true m 3 [v2]=xs[2]?:=hf 2 _ rfl
 have h3:DataW.trod enc Tryz.prog W 0 sp true m 3 [v3]=xs[3]?:=hf 3 _ rfl
 have h4:DataW.trod enc Tryz.prog W 0 sp true m 4 [v4]=xs[4]?:=hf 4 _ rfl
 have k0:∃ z,xs[0]?=some z:=⟨_,List.getElem?_eq_getElem (by rw [hlen]; decide)⟩
 obtain ⟨z0,e0⟩:=k0
 rw [e0] at h0
 obtain ⟨q0,r0,_,w0⟩:=DataW.trod_int Tryz.underlying3 h0
 simp only [List.cons.injEq,and_true] at r0
 have k1:∃ z,xs[1]?=some z:=⟨_,List.getElem?_eq_getElem (by rw [hlen]; decide)⟩
 obtain ⟨z1,e1⟩:=k1
 rw [e1] at h1
 obtain ⟨q1,r1,_,w1⟩:=DataW.trod_int Tryz.underlying3 h1
 simp only [List.cons.injEq,and_true] at r1
 have k2:∃ z,xs[2]?=some z:=⟨_,List.getElem?_eq_getElem (by rw [hlen]; decide)⟩
 obtain ⟨z2,e2⟩:=k2
 rw [e2] at h2
 obtain ⟨q2,r2,_,w2⟩:=DataW.trod_int Tryz.underlying3 h2
 simp only [List.cons.injEq,and_true] at r2
 have k3:∃ z,xs[3]?=some z:=⟨_,List.getElem?_eq_getElem (by rw [hlen]; decide)⟩
 obtain ⟨z3,e3⟩:=k3
 rw [e3] at h3
 obtain ⟨q3,r3,_,w3⟩:=DataW.trod_int Tryz.underlying3 h3
 simp only [List.cons.injEq,and_true] at r3
 have k4:∃ z,xs[4]?=some z:=⟨_,List.getElem?_eq_getElem (by rw [hlen]; decide)⟩
 obtain ⟨z4,e4⟩:=k4
 rw [e4] at h4
 obtain ⟨q4,r4,_⟩:=DataW.trod_bool Tryz.underlying4 h4
 simp only [List.cons.injEq,and_true] at r4
 exact ⟨⟨q0,q1,q2,q3,q4⟩,by rw [r0,r1,r2,r3,r4]; rfl,w0,w1,w2,w3⟩
theorem cellsWc:Tryz.prog.cellsOf 145=4:=by kernel_rfl
def okWc (x:WcE):Prop:=(Lit.int .i64 x.level).wf=true/\(Lit.int .i64 x.page).wf=true/\(Lit.int .i64 x.table).wf=true
set_option maxRecDepth 100000 in
theorem elWc {H:Type} {enc:TypeId × Value->H} {W:World} {sp:Nat->Bool} (n:Nat) (cs:List Value) (y:DataW H × List MemPlace) (h:DataW.trod enc Tryz.prog W 0 sp true n 145 cs=some y):∃ x,cs=eWc.enc x/\okWc x:=by
 obtain ⟨xs,m,_,_,hl,hlen,hf⟩:=DataW.trod_struct Tryz.underlying145 h
 rw [cellsWc] at hl
 obtain ⟨v0,v1,v2,v3,rfl⟩:=list4 hl
 have h0:DataW.trod enc Tryz.prog W 0 sp true m 3 [v0]=xs[0]?:=hf 0 _ rfl
 have h1:DataW.trod enc Tryz.prog W 0 sp true m 3 [v1]=xs[1]?:=hf 1 _ rfl
 have h2:DataW.trod enc Tryz.prog W 0 sp true m 3 [v2]=xs[2]?:=hf 2 _ rfl
 have h3:DataW.trod enc Tryz.prog W 0 sp true m 4 [v3]=xs[3]?:=hf 3 _ rfl
 have k0:∃ z,xs[0]?=some z:=⟨_,List.getElem?_eq_getElem (by rw [hlen]; decide)⟩
 obtain ⟨z0,e0⟩:=k0
 rw [e0] at h0
 obtain ⟨q0,r0,_,w0⟩:=DataW.trod_int Tryz.underlying3 h0
 simp only [List.cons.injEq,and_true] at r0
 have k1:∃ z,xs[1]?=some z:=⟨_,List.getElem?_eq_getElem (by rw [hlen]; decide)⟩
 obtain ⟨z1,e1⟩:=k1
 rw [e1] at h1
 obtain ⟨q1,r1,_,w1⟩:=DataW.trod_int Tryz.underlying3 h1
 simp only [List.cons.injEq,and_true] at r1
 have k2:∃ z,xs[2]?=some z:=⟨_,List.getElem?_eq_getElem (by rw [hlen]; decide)⟩
 obtain ⟨z2,e2⟩:=k2
 rw [e2] at h2
 obtain ⟨q2,r2,_,w2⟩:=DataW.trod_int Tryz.underlying3 h2
 simp only [List.cons.injEq,and_true] at r2
 have k3:∃ z,xs[3]?=some z:=⟨_,List.getElem?_eq_getElem (by rw [hlen]; decide)⟩
 obtain ⟨z3,e3⟩:=k3
 rw [e3] at h3
 obtain ⟨q3,r3,_⟩:=DataW.trod_bool Tryz.underlying4 h3
 simp only [List.cons.injEq,and_true] at r3
 exact ⟨⟨q0,q1,q2,q3⟩,by rw [r0,r1,r2,r3]; rfl,w0,w1,w2⟩
structure SV where
 a1:Option Addr
 c1:Nat
 a2:Option Addr
 c2:Nat
 a3:Option Addr
 c3:Nat
 a4:Option Addr
 c4:Nat
def SV.mv (s:SV) (M:Mach):MV:=⟨.slice s.a1 M.mem.length s.c1,.slice s.a2 M.pend.length s.c2,.slice s.a3 M.tlb.length s.c3,.slice s.a4 M.wc.length s.c4⟩
abbrev MA (s:SV) (M:Mach):Value:=.agg #[.slice s.a1 M.mem.length s.c1,.slice s.a2 M.pend.length s.c2,.slice s.a3 M.tlb.length s.c3,.slice s.a4 M.wc.length s.c4]
abbrev MC (w:World) (B:Nat) (s:SV) (M:Mach):Prop:=w.cell? ⟨B,0,none⟩=some (.slice s.a1 M.mem.length s.c1)/\w.cell? ⟨B,1,none⟩=some (.slice s.a2 M.pend.length s.c2)/\w.cell? ⟨B,2,none⟩=some (.slice s.a3 M.tlb.length s.c3)/\w.cell? ⟨B,3,none⟩=some (.slice s.a4 M.wc.length s.c4)
attribute [local simp] MC
theorem MRow.sv {W:World} {b:Nat} {m:MV} {M:Mach} (h:MRow W b m M):∃ s:SV,m=s.mv M:=by
 obtain ⟨a1,c1,e1,_⟩:=h.w.form
 obtain ⟨a2,c2,e2,_⟩:=h.p.form
 obtain ⟨a3,c3,e3,_⟩:=h.t.form
 obtain ⟨a4,c4,e4,_⟩:=h.c.form
 obtain ⟨x,y,z,t⟩:=m
 exact ⟨⟨a1,c1,a2,c2,a3,c3,a4,c4⟩,by simp only at e1 e2 e3 e4; rw [e1,e2,e3,e4]; rfl⟩
theorem toMachine_s (s:SV) (M:Mach) (w:World) (hs:M.Small) (h:MSrc w (s.mv M) M) :
  Calls Tryz.prog 8 #[.agg #[.slice s.a1 M.mem.length s.c1,.slice s.a2 M.pend.length s.c2,.slice s.a3 M.tlb.length s.c3,.slice s.a4 M.wc.length s.c4]] w fun e w'=>∃ s':SV,e=.returned (.agg #[.slice s'.a1 M.mem.length s'.c1,.slice s'.a2 M.pend.length s'.c2,.slice s'.a3 M.tlb.length s'.c3,.slice s'.a4 M.wc.length s'.c4])/\MRow w' w.heap.size (s'.mv M) M/\(s'.mv M).apart/\Below w.heap.size w w':=by
 refine (toMachine_any (s.mv M) M w hs h).mono ?_
 rintro e w' ⟨m',rfl,h1,h2,h3⟩
 obtain ⟨s',rfl⟩:=h1.sv
 exact ⟨s',rfl,h1,h2,h3⟩
theorem cellsMach:Tryz.prog.cellsOf 29=4:=by kernel_rfl
structure MOk (M:Mach):Prop where
 w:M.mem.length<=9223372036854775807
 p:M.pend.length<=9223372036854775807
 t:M.tlb.length<=9223372036854775807
 c:M.wc.length<=9223372036854775807
 word:∀ i,0<=M.mem.getD i 0/\M.mem.getD i 0 < 2 ^ 64
 pend:∀ i,i < M.pend.length->okWrite (eAt eWrite M.pend i)
 tlb:∀ i,i < M.tlb.length->okTlb (eAt eTlb M.tlb i)
 wc:∀ i,i < M.wc.length->okWc (eAt eWc M.wc i)
theorem cellsWord1:Tryz.prog.cellsOf 46=1:=by kernel_rfl
theorem elWord {H:Type} {enc:TypeId × Value->H} {W:World} {sp:Nat->Bool} (n:Nat) (cs:List Value) (y:DataW H × List MemPlace) (h:DataW.trod enc Tryz.prog W 0 sp true n 46 cs=some y):∃ x,cs=eWord.enc x/\(Lit.int .u64 x).wf=true:=by
 obtain ⟨x,r,_,hw⟩:=DataW.trod_int Tryz.underlying46 h
 exact ⟨x,r,hw⟩
set_option maxRecDepth 100000 in
theorem mach_open {H:Type} {enc:TypeId × Value->H} {W:World} {r:Reach} {b0:Nat} {v:Value} {d:DataW H} {p:List MemPlace} (hv:Value.okWide Tryz.prog W r b0 29 v) (h:DataW.Trod enc Tryz.prog W 0 (fun _=>true) true 29 v d p) :
  ∃ (s:SV) (M:Mach),v=.agg #[.slice s.a1 M.mem.length s.c1,.slice s.a2 M.pend.length s.c2,.slice s.a3 M.tlb.length s.c3,.slice s.a4 M.wc.length s.c4]/\MOk M/\MSrc W (s.mv M) M:=by
 obtain ⟨cs,rfl,hsz⟩:=okWide_struct Tryz.underlying29 hv
 obtain ⟨l⟩:=cs
 obtain ⟨u1,u2,u3,u4,rfl⟩:=list4 (hsz.trans cellsMach)
 obtain ⟨fuel,hf⟩:=h
 obtain ⟨xs,m,_,_,hl,hlen,hfs⟩:=DataW.trod_struct Tryz.underlying29 hf
 have e0:∃ z,xs[0]?=some z:=⟨_,List.getElem?_eq_getElem (by rw [hlen]; decide)⟩
 have e1:∃ z,xs[1]?=some z:=⟨_,List.getElem?_eq_getElem (by rw [hlen]; decide)⟩
 have e2:∃ z,xs[2]?=some z:=⟨_,List.getElem?_eq_getElem (by rw [hlen]; decide)⟩
 have e3:∃ z,xs[3]?=some z:=⟨_,List.getElem?_eq_getElem (by rw [hlen]; decide)⟩
 obtain ⟨y0,e0⟩:=e0
 obtain ⟨y1,e1⟩:=e1
 obtain ⟨y2,e2⟩:=e2
 obtain ⟨y3,e3⟩:=e3
 have h0:DataW.trod enc Tryz.prog W 0 (fun _=>true) true m 24 [u1]=xs[0]?:=hfs 0 _ rfl
 have h1:DataW.trod enc Tryz.prog W 0 (fun _=>true) true m 25 [u2]=xs[1]?:=hfs 1 _ rfl
 have h2:DataW.trod enc Tryz.prog W 0 (fun _=>true) true m 26 [u3]=xs[2]?:=hfs 2 _ rfl
 have h3:DataW.trod enc Tryz.prog W 0 (fun _=>true) true m 27 [u4]=xs[3]?:=hfs 3 _ rfl
 rw [e0] at h0
 rw [e1] at h1
 rw [e2] at h2
 rw [e3] at h3
 obtain ⟨y,m',_,_,hy⟩:=trod_struct1 Tryz.underlying24 h0
 have hy':DataW.trod enc Tryz.prog W 0 (fun _=>true) true m' 22 [u1]=some y:=hy
 obtain ⟨zs,q1,q2,q3⟩:=esrc_open eWord (fun x=>(Lit.int .u64 x).wf=true) Tryz.underlying22 cellsWord1 elWord hy'
 obtain ⟨ps,r1,r2,r3⟩:=esrc_open eWrite okWrite Tryz.underlying25 cellsWrite elWrite h1
 obtain ⟨ts,s1,s2,s3⟩:=esrc_open eTlb okTlb Tryz.underlying26 cellsTlb elTlb h2
 obtain ⟨ws,t1,t2,t3⟩:=esrc_open eWc okWc Tryz.underlying27 cellsWc elWc h3
 obtain ⟨a1,c1,rfl,g1⟩:=q1
 obtain ⟨a2,c2,rfl,g2⟩:=r1
 obtain ⟨a3,c3,rfl,g3⟩:=s1
 obtain ⟨a4,c4,rfl,g4⟩:=t1
 refine ⟨⟨a1,c1,a2,c2,a3,c3,a4,c4⟩,⟨zs,ps,ts,ws⟩,rfl,⟨q2,r2,s2,t2,fun i=>?_,r3,s3,t3⟩,⟨?_,⟨a2,c2,rfl,g2⟩,⟨a3,c3,rfl,g3⟩,⟨a4,c4,rfl,g4⟩⟩⟩
 ·show 0<=zs.getD i 0/\zs.getD i 0 < 2 ^ 64
  by_cases hi:i < zs.length
  ·have hw:(Lit.int .u64 (zs.getD i 0)).wf=true:=q3 i hi
   have:=bounds_u64 hw
   omega
  ·rw [List.getD_eq_getElem?_getD,List.getElem?_eq_none (by omega)]
   simp
 ·refine ⟨a1,c1,rfl,fun h0=>?_⟩
  obtain ⟨b,o,e,hb,hc⟩:=g1 h0
  refine ⟨b,o,e,hb,fun i hi=>?_⟩
  have:=hc i hi 0 (by decide)
  simpa [eWord,eCell,eAt] using this
theorem take_snocE {α:Type} (E:Elt α) (xs:List α) (t:Nat) (h:t < xs.length):xs.take (t+1)=xs.take t ++ [eAt E xs t]:=by
 rw [List.take_succ_eq_append_getElem h]; simp [eAt,h]
theorem ERow.snoc {α:Type} {E:Elt α} {w:World} {B:Nat} {v:Value} {xs:List α} {t m:Nat} (ht:t < xs.length) (hm:m=t+1) (h:w.ownsRow B E.T E.sz v m (ecells E (xs.take t) ++ E.enc (eAt E xs t))):ERow E w B v (xs.take (t+1)):=by
 unfold ERow
 have e1:(xs.take (t+1)).length=t+1:=by rw [List.length_take]; omega
 have e2:ecells E (xs.take (t+1))=ecells E (xs.take t) ++ E.enc (eAt E xs t):=by
  rw [take_snocE E xs t ht,ecells_append]; simp [ecells]
 rw [e1,e2,<- hm]
 exact h
theorem ERow.empty {α:Type} (E:Elt α) (w:World) (B:Nat) (hb:B<=w.heap.size):ERow E (w.alloc (.cells #[] E.T)) B (.slice (some ⟨w.heap.size,0,none⟩) 0 0) [] :=
 ⟨by simp [ecells],.inr ⟨w.heap.size,0,#[],rfl,hb,heap_alloc_new w _,Nat.le_refl _,by unfold maxLen; omega,by simp,by simp [ecells]⟩⟩
theorem infoWord:(Tryz.prog.info? 46).map (fun i=>(i.zero,i.size,i.bytes))=some (some (.int .u64 0),1,8):=by kernel_rfl
set_option maxHeartbeats 1000000 in
theorem copyMem_any (v:Value) (zs:List Int) (b:Nat) (w:World) (hn:zs.length<=1048576) (hv:ERow eWord w b v zs) :
  Calls Tryz.prog 89 #[.agg #[v]] w fun e w'=>∃ g c,e=.returned (.agg #[.slice (some ⟨g,0,none⟩) zs.length c])/\ERow eWord w' w.heap.size (.slice (some ⟨g,0,none⟩) zs.length c) zs/\Below w.heap.size w w':=by
 obtain ⟨a,c,rfl,ha⟩:=eWord_form hv
 obtain ⟨i0,hi,hz0,hz1,hz2⟩:=info_parts infoWord
 obtain ⟨wb,hwb⟩:∃ wb,wb=(w.alloc (.cells #[.slice a zs.length c] 31)).alloc (.cells #[.slice none 0 0] 31):=⟨_,rfl⟩
 have hbb:Below w.heap.size w wb:=by rw [hwb]; exact bal.alloc (by simp) _
 have hzb:wb.heap.size=w.heap.size+2:=by rw [hwb]; simp
 have q0:wb.cell? ⟨w.heap.size,0,none⟩=some (.slice a zs.length c):=by rw [hwb]; simp [go_sem]
 have q1:wb.cell? ⟨w.heap.size+1,0,none⟩=some (.slice none 0 0):=by rw [hwb]; simp [go_sem]
 have f1:wb.frozen? ⟨w.heap.size+1,0,none⟩=false:=by rw [hwb]; simp [go_sem]
 have he:=ERow.empty eWord wb (w.heap.size+2) (by omega)
 have HQ:Hid (wb.cell? ⟨w.heap.size,0,none⟩=some (.slice a zs.length c)/\wb.cell? ⟨w.heap.size+1,0,none⟩=some (.slice none 0 0)/\wb.frozen? ⟨w.heap.size+1,0,none⟩=false):=⟨q0,q1,f1⟩
 have HWB:Hid (wb=_):=hwb
 have HBB:Hid (Below _ w wb):=hbb
 have HE:Hid (ERow _ _ _ _ _):=he
 have HZ:Hid (wb.heap.size=w.heap.size+2):=hzb
 clear hwb hbb q0 q1 f1 he hzb hv
 go_enter Tryz.func89,Tryz.ntmps89
 go_wp2_with fail
 go_loopw [3,4] (fun vv iv wr=>∃ t gv cv:Nat,t<=zs.length/\iv=.int .i64 t/\vv=.slice (some ⟨gv,0,none⟩) t cv/\ERow eWord wr (w.heap.size+2) (.slice (some ⟨gv,0,none⟩) t cv) (zs.take t)/\Below (w.heap.size+2) wb wr) (fun _ iv _=>zs.length - (intOf iv).toNat)
 case atStart =>
  refine ⟨0,w.heap.size+1+1,0,Nat.zero_le _,rfl,rfl,?_,?_⟩
  ·have h:=HE.out
   rw [HZ.out,HWB.out] at h
   exact h
  ·rw [HWB.out]
   exact (Below.refl (w.heap.size+2) _).alloc (by simp) _
 case round =>
  obtain ⟨t,gv,cv,ht,rfl,rfl,hrow,hb⟩:=hrel
  have hz:=HZ.out
  have hsz:=hb.size
  obtain ⟨q0,q1,f1⟩:=HQ.out
  by_cases hlt:t < zs.length
  ·obtain ⟨g,N,f,rfl,_,hr,hN,hf⟩:=ha (by omega)
   have hb2:Below w.heap.size w wr:=HBB.out.trans (hb.mono (by omega))
   have hr1:wr.rowIs g 46 N f:=hr.of_block (hb2.block g hr.lt)
   have c1:=hr1.cell (i:=t) (by omega)
   rw [hf t hlt] at c1
   have c0:=(hb.cell (p:=⟨w.heap.size,0,none⟩) (by simp)).trans q0
   have hgl:=hr1.lt
   have hec:eWord.enc (eAt eWord zs t)=[.int .u64 (zs.getD t 0)]:=rfl
   generalize zs.getD t 0=A at *
   have L1:(0:Int)<=(t:Int):=by omega
   have L2:(t:Int) < (zs.length:Int):=by omega
   have HROW:Hid (ERow _ wr _ _ _):=hrow
   have HB:Hid (Below _ wb wr):=hb
   have HEC:Hid _:=hec
   have htl:(zs.take t).length=t:=by rw [List.length_take]; omega
   have hown:wr.ownsRow (w.heap.size+2) 46 1 (.slice (some ⟨gv,0,none⟩) t cv) t (ecells eWord (zs.take t)):=by
    have h:=hrow
    unfold ERow at h
    rw [htl] at h
    exact h
   have HOWN:Hid _:=hown
   clear hrow hb hb2 hr1 hr hf hec q0 q1 f1 htl hown ha
   go_wp2_with (at_builtin; refine wpList_append_lies _ rfl (.tmp 13) (.tmp 19) 22 rfl (w.heap.size+2) 46 i0 _ 1 8 Tryz.underlying22 hi hz0 hz1 hz2 rfl (by omega) _ _ _ rfl (World.ownsRow.alloc HOWN.out _) ⟨wr.heap.size,0,none⟩ 1 1 [.int .u64 A] rfl rfl ?c1 ?c2 (by omega) ?c3 ?c4 ?c5 (wr.heap.size+1) ?c6 ?_)
   case c1=>exact World.news_of_block (heap_alloc_new wr (.cells #[.int .u64 A] 46))
   case c2=>intro u hu; simp at hu; subst hu; rfl
   case c3=>unfold maxLen; omega
   case c4=>omega
   case c5=>simp; omega
   case c6=>simp
   intro g1 cap1 wn hown hgrow hat hlt3
   have hnew:ERow eWord wn (w.heap.size+2) (.slice (some ⟨g1,0,none⟩) (t+1) cap1) (zs.take (t+1)):=ERow.snoc (m:=t+1) hlt rfl (by rw [HEC.out]; exact hown)
   have hbn:Below (w.heap.size+2) wb wn:=((HB.out.alloc (by omega) _).grown hgrow (by simp; omega) (fun q hq=>(HROW.out.own q hq).1))
   clear hown hgrow hat c1 c0
   go_wp2_with fail
   go_roundw
   case rel=>exact ⟨t+1,g1,cap1,by omega,by go_num,rfl,hnew,hbn⟩
   case measure=>simp [intOf]; omega
  ·have e:t=zs.length:=by omega
   subst e
   rw [List.take_length] at hrow
   have c0:=(hb.cell (p:=⟨w.heap.size,0,none⟩) (by simp)).trans q0
   have c1:=(hb.cell (p:=⟨w.heap.size+1,0,none⟩) (by simp)).trans q1
   have f1':=(hb.frozen (p:=⟨w.heap.size+1,0,none⟩) (by simp)).trans f1
   have hown:=hrow.own gv rfl
   have HROW:Hid (ERow _ wr _ _ _):=hrow
   have HB:Hid (Below _ wb wr):=hb
   clear hrow hb ha
   go_wp2_with fail
   refine bodyPost_ret (v:=.agg #[.slice (some ⟨gv,0,none⟩) zs.length cv]) (by simp [results,Tryz.results89,go_sem,c1]) rfl ⟨gv,cv,rfl,?_,?_⟩
   ·have T:Touch (fun k=>k=w.heap.size+1) wr (wr.setCell ⟨w.heap.size+1,0,none⟩ (.slice (some ⟨gv,0,none⟩) zs.length cv)):=⟨rfl,rfl,rfl,by simp,fun k hk hn=>Below.heap_setCell _ _ _ _ hn⟩
    refine ERow.rebase (HROW.out.touch T ?_) (by omega:w.heap.size<=w.heap.size+2)
    intro k hk hx
    simp [Value.ownBlock] at hk
    omega
   ·exact HBB.out.trans ((HB.out.mono (by omega)).setCell (by simp) _)
end Go.Proofs.YtiiejckfcnmhoabGreat
