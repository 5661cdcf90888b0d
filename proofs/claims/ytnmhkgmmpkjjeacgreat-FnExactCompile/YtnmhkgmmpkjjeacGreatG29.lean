import Derived.Test.YtnmhkgmmpkjjeacGreatG23
import Derived.Test.YtnmhkgmmpkjjeacGreatG28
import Derived.Test.YtnmhkgmmpkjjeacGreatG26
namespace Go.Proofs.YtnmhkgmmpkjjeacGreat
open Go.ChangeShapes Go.WideShapes Go.ChangeAt Go.RowKit
set_option linter.unusedVariables false
set_option maxRecDepth 100000
attribute [local go_sem ↓] Go.wp_at_zero Go.wp_at_succ
structure Tch (S:Nat->Prop) (w w':World):Prop where
 os:w'.os=w.os
 tape:w'.tape=w.tape
 output:w'.output=w.output
 size:w.heap.size<=w'.heap.size
 block:∀ k,k < w.heap.size->¬ S k->w'.heap[k]?=w.heap[k]?
theorem Tch.refl {S:Nat->Prop} (w:World):Tch S w w:=⟨rfl,rfl,rfl,Nat.le_refl _,fun _ _ _=>rfl⟩
theorem Tch.of_below {S:Nat->Prop} {a b:World} (h:Below a.heap.size a b):Tch S a b:=⟨h.os,h.tape,h.output,h.size,fun i hi _=>h.block i hi⟩
theorem Tch.of_grown {S:Nat->Prop} {a b:World} {row:Option Nat} (h:a.grownBy b row) (hS:∀ k,row=some k->S k):Tch S a b :=
 ⟨h.os,h.tape,h.output,h.size,fun i hi hn=>h.block i hi (fun e=>hn (hS i e.symm))⟩
theorem Tch.then {S S':Nat->Prop} {a b c:World} (h:Tch S a b) (k:Tch S' b c) (hS:∀ k,k < a.heap.size->S' k->S k):Tch S a c :=
 ⟨k.os.trans h.os,k.tape.trans h.tape,k.output.trans h.output,Nat.le_trans h.size k.size,fun i hi hn=>(k.block i (Nat.lt_of_lt_of_le hi h.size) (fun e=>hn (hS i hi e))).trans (h.block i hi hn)⟩
theorem Tch.set {S:Nat->Prop} {a b:World} (h:Tch S a b) (p:Addr) (v:Value) (hp:S p.block):Tch S a (b.setCell p v) :=
 ⟨h.os,h.tape,h.output,by simpa using h.size,fun k hk hn=>(Below.heap_setCell _ _ _ _ (fun e=>hn (by rw [e]; exact hp))).trans (h.block k hk hn)⟩
theorem Tch.below {S:Nat->Prop} {a b:World} (h:Tch S a b) (hS:∀ k,k < a.heap.size->¬ S k):Below a.heap.size a b :=
 ⟨h.os,h.tape,h.output,h.size,fun k hk=>h.block k hk (hS k hk)⟩
theorem Tch.imp {S S':Nat->Prop} {a b:World} (h:Tch S a b) (hS:∀ k,k < a.heap.size->S k->S' k):Tch S' a b :=
 ⟨h.os,h.tape,h.output,h.size,fun k hk hn=>h.block k hk (fun e=>hn (hS k hk e))⟩
theorem Tch.cell {S:Nat->Prop} {a b:World} (h:Tch S a b) {p:Addr} (hp:p.block < a.heap.size) (hn:¬ S p.block):b.cell? p=a.cell? p:=by
 unfold World.cell?
 rw [h.block _ hp hn]
theorem Tch.frozen {S:Nat->Prop} {a b:World} (h:Tch S a b) {p:Addr} (hp:p.block < a.heap.size) (hn:¬ S p.block):b.frozen? p=a.frozen? p:=by
 unfold World.frozen?
 rw [h.block _ hp hn]
theorem ERow.tch {α:Type} {E:Elt α} {w w':World} {base:Nat} {a:Option Addr} {n c:Nat} {xs:List α} {S:Nat->Prop} (h:ERow E w base (.slice a n c) xs) (hg:Tch S w w') (hne:∀ k,oB a=some k->¬ S k):ERow E w' base (.slice a n c) xs:=by
 have hk:=h.own
 refine ⟨h.1,?_⟩
 rcases h.2 with hh | ⟨g,cap,cur,e,hb,hg',r⟩
 ·exact .inl hh
 ·refine .inr ⟨g,cap,cur,e,hb,?_,r⟩
  have ho:(Value.slice a n c).ownBlock=some g:=by rw [e]; rfl
  rw [hg.block g (hk g ho).2 (hne g (by rw [<- own_sl a n c]; exact ho))]
  exact hg'
structure SetAt (w:World) (P k B:Nat) (a:Option Addr) (c:Nat) (xs:List Int):Prop where
 lt:P < w.heap.size
 cell:w.cell? ⟨P,k,none⟩=some (.slice a xs.length c)
 fz:w.frozen? ⟨P,k,none⟩=false
 row:ERow eInt w B (.slice a xs.length c) xs
 off:oB a ≠ some P
 base:B<=w.heap.size
theorem SetAt.tch {w w':World} {P k B c:Nat} {a:Option Addr} {xs:List Int} {S:Nat->Prop} (h:SetAt w P k B a c xs) (hg:Tch S w w') (hP:¬ S P) (hne:∀ k,oB a=some k->¬ S k):SetAt w' P k B a c xs :=
 ⟨Nat.lt_of_lt_of_le h.lt hg.size,(hg.cell (p:=⟨P,k,none⟩) h.lt hP).trans h.cell,(hg.frozen (p:=⟨P,k,none⟩) h.lt hP).trans h.fz,h.row.tch hg hne,h.off,Nat.le_trans h.base hg.size⟩
structure SetStep (w w':World) (P k B:Nat) (a a':Option Addr) (c':Nat) (ys:List Int):Prop where
 set:SetAt w' P k B a' c' ys
 tch:Tch (fun j=>j=P\/oB a=some j) w w'
 oth:∀ i,i ≠ k->w'.cell? ⟨P,i,none⟩=w.cell? ⟨P,i,none⟩
 ofz:∀ i,w'.frozen? ⟨P,i,none⟩=w.frozen? ⟨P,i,none⟩
 own:oB a'=oB a\/∃ j,oB a'=some j/\w.heap.size<=j
theorem SetStep.same {w w':World} {P k B c:Nat} {a:Option Addr} {xs:List Int} (h:SetAt w P k B a c xs) (hb:Below w.heap.size w w'):SetStep w w' P k B a a c xs :=
 ⟨h.tch (Tch.of_below (S:=fun _=>False) hb) (fun f=>f) (fun _ _ f=>f),Tch.of_below hb,fun i _=>hb.cell (p:=⟨P,i,none⟩) h.lt,fun i=>by unfold World.frozen?; rw [hb.block P h.lt],.inl rfl⟩
theorem SetStep.put {w wa w1:World} {P k B c c':Nat} {a a':Option Addr} {xs ys:List Int} (h:SetAt w P k B a c xs) (hb:Below w.heap.size w wa) (hr:ERow eInt w1 B (.slice a' ys.length c') ys) (hg:wa.grownBy w1 (oB a)) (ho:oB a'=oB a\/∃ j,oB a'=some j/\w.heap.size<=j):SetStep w (w1.setCell ⟨P,k,none⟩ (.slice a' ys.length c')) P k B a a' c' ys:=by
 have hP:oB a ≠ some P:=h.off
 have hPa:P < wa.heap.size:=Nat.lt_of_lt_of_le h.lt hb.size
 have hblk:w1.heap[P]?=w.heap[P]?:=(hg.block P hPa (fun e=>hP e.symm)).trans (hb.block P h.lt)
 have hP1:P < w1.heap.size:=Nat.lt_of_lt_of_le hPa hg.size
 have hc1:∀ i,w1.cell? ⟨P,i,none⟩=w.cell? ⟨P,i,none⟩:=fun i=>by unfold World.cell?; rw [hblk]
 have hf1:∀ i,w1.frozen? ⟨P,i,none⟩=w.frozen? ⟨P,i,none⟩:=fun i=>by unfold World.frozen?; rw [hblk]
 have hT:Tch (fun j=>j=P\/oB a=some j) w w1:=⟨hg.os.trans hb.os,hg.tape.trans hb.tape,hg.output.trans hb.output,Nat.le_trans hb.size hg.size,fun i hi hn=>(hg.block i (Nat.lt_of_lt_of_le hi hb.size) (fun e=>hn (.inr e.symm))).trans (hb.block i hi)⟩
 have hoP:oB a' ≠ some P:=by
  rcases ho with e | ⟨j,e,hj⟩
  ·rw [e]; exact hP
  ·rw [e]
   intro e2
   simp only [Option.some.injEq] at e2
   have:=h.lt
   omega
 refine ⟨⟨by simpa using hP1,?_,by simp [hf1,h.fz],hr.tch (S:=fun j=>j=P) ⟨rfl,rfl,rfl,by simp,fun i hi hn=>Below.heap_setCell _ _ _ _ (fun e=>hn e)⟩ (fun j e e2=>hoP (by rw [e,e2])),hoP,by have:=h.base; have:=hb.size; have:=hg.size; simp; omega⟩,hT.set _ _ (.inl rfl),fun i hi=>?_,fun i=>by simp [hf1],ho⟩
 ·exact World.cell?_setCell_same _ _ _ (by rw [hc1,h.cell])
 ·rw [<- hc1]
  exact World.cell?_setCell_other _ _ _ _ (fun e=>hi (by simp only [Addr.mk.injEq,true_and,and_true] at e; exact e.symm))
set_option maxHeartbeats 1000000 in
theorem add_any (P k B c:Nat) (a:Option Addr) (xs:List Int) (e0:Int) (w:World) (hs:Rising xs) (hn:xs.length<=100000) (h:SetAt w P k B a c xs) :
  Calls Tryz.prog 71 #[.pointer (some ⟨P,k,none⟩),.int .i64 e0] w fun r w'=>r=.returned (.tuple #[])/\∃ a' c',SetStep w w' P k B a a' c' (addL xs e0):=by
 have hb:=bsearch_any a c B xs e0 w hn hs h.row
 have c0:=h.cell
 have hlt:=h.lt
 have f0:=h.fz
 have HS:Hid (SetAt w P k B a c xs):=h
 cases hf:foundB xs e0 <;> rw [hf] at hb
 ·have HL:Hid (addL xs e0=insL xs (posOf xs e0) e0):=hidOf <| by unfold addL; rw [hf]; rfl
  clear hs h hf
  go_enter Tryz.func71,Tryz.ntmps71
  go_wp2_with fail
  refine hb.mono ?_
  rintro e w1 ⟨rfl,hb1,hp⟩
  have hins:∀ w2,Below w.heap.size w w2->Calls Tryz.prog 93 #[.slice a xs.length c,.int .i64 (posOf xs e0:Nat),.slice (some ⟨w2.heap.size,0,none⟩) 1 1] (w2.alloc (.cells #[.int .i64 e0] 3)) fun r w'=>∃ a' c',r=.returned (.slice a' (insL xs (posOf xs e0) e0).length c')/\ERow eInt w' B (.slice a' (insL xs (posOf xs e0) e0).length c') (insL xs (posOf xs e0) e0)/\(w2.alloc (.cells #[.int .i64 e0] 3)).grownBy w' (oB a)/\(oB a'=oB a\/oB a'=some (w2.heap.size+1)):=fun w2 hb2=>by
   have hr:=HS.out.row.below (hb2.trans (bal (w:=w2) (o:=.cells #[.int .i64 e0] 3) |>.mono hb2.size))
   have ho:oB a ≠ some w2.heap.size:=fun ee=>by
    have:=(HS.out.row.own _ (by rw [own_sl]; exact ee)).2
    have:=hb2.size
    omega
   have h1:=ins_any a c B (posOf xs e0) w2.heap.size xs e0 (w2.alloc (.cells #[.int .i64 e0] 3)) hp (by have:=HS.out.base; have:=hb2.size; simp; omega) hn ho (heap_alloc_new w2 _) hr
   refine h1.mono ?_
   rintro r w' ⟨a',c',e1,e2,e3,e4⟩
   exact ⟨a',c',e1,e2,e3,by simpa using e4⟩
  have hi:=hins w1 hb1
  have c1:=(hb1.cell (p:=⟨P,k,none⟩) hlt).trans c0
  have lt1:P < w1.heap.size:=Nat.lt_of_lt_of_le hlt hb1.size
  have HB:Hid (Below w.heap.size w w1):=hb1
  have HF:Hid (w1.frozen? ⟨P,k,none⟩=false):=hidOf <| by unfold World.frozen? at f0 ⊢; rw [hb1.block P hlt]; exact f0
  generalize insL xs (posOf xs e0) e0=YS at hi HL
  clear hins hb1 hb c0 f0
  go_wp2_with fail
  refine hi.mono ?_
  rintro e w2 ⟨a',c',rfl,hr2,hg2,ho2⟩
  have hba:Below w.heap.size w (w1.alloc (.cells #[.int .i64 e0] 3)):=HB.out.trans (bal.mono HB.out.size)
  have hblk:w2.heap[P]?=w1.heap[P]?:=(hg2.block P (by simp; omega) (fun ee=>HS.out.off ee.symm)).trans (Below.heap_alloc w1 _ _ lt1)
  have c2:w2.cell? ⟨P,k,none⟩=some (.slice a xs.length c):=by unfold World.cell? at c1 ⊢; rw [hblk]; exact c1
  have f2:w2.frozen? ⟨P,k,none⟩=false:=by have:=HF.out; unfold World.frozen? at this ⊢; rw [hblk]; exact this
  have lt2:P < w2.heap.size:=Nat.lt_of_lt_of_le (by simp; omega) hg2.size
  have HST:Hid (SetStep w (w2.setCell ⟨P,k,none⟩ (.slice a' YS.length c')) P k B a a' c' YS):=SetStep.put HS.out hba hr2 hg2 (ho2.imp id (fun ee=>⟨_,ee,by have:=HB.out.size; omega⟩))
  clear hba hblk hi hr2 hg2 ho2 c1
  go_wp2_with fail
  refine bodyPost_end (v:=.tuple #[]) (by simp [results,Tryz.results71,go_sem]) rfl ?_
  exact ⟨rfl,a',c',by rw [HL.out]; exact HST.out⟩
 ·have HL:Hid (addL xs e0=xs):=hidOf <| by unfold addL; rw [hf]; rfl
  clear hs h hf
  go_enter Tryz.func71,Tryz.ntmps71
  go_wp2_with fail
  refine hb.mono ?_
  rintro e w1 ⟨rfl,hb1,hp⟩
  clear hb
  go_wp2_with fail
  refine bodyPost_end (v:=.tuple #[]) (by simp [results,Tryz.results71,go_sem]) rfl ?_
  exact ⟨rfl,a,c,by rw [HL.out]; exact SetStep.same HS.out hb1⟩
set_option maxHeartbeats 1000000 in
theorem remove_any (P k B c:Nat) (a:Option Addr) (xs:List Int) (e0:Int) (w:World) (hs:Rising xs) (hn:xs.length<=100000) (h:SetAt w P k B a c xs) :
  Calls Tryz.prog 73 #[.pointer (some ⟨P,k,none⟩),.int .i64 e0] w fun r w'=>r=.returned (.tuple #[])/\∃ a' c',SetStep w w' P k B a a' c' (remL xs e0):=by
 have hb:=bsearch_any a c B xs e0 w hn hs h.row
 have c0:=h.cell
 have hlt:=h.lt
 have f0:=h.fz
 have HS:Hid (SetAt w P k B a c xs):=h
 cases hf:foundB xs e0 <;> rw [hf] at hb
 ·have HL:Hid (remL xs e0=xs):=hidOf <| by unfold remL; rw [hf]; rfl
  clear hs h hf
  go_enter Tryz.func73,Tryz.ntmps73
  go_wp2_with fail
  refine hb.mono ?_
  rintro e w1 ⟨rfl,hb1,hp⟩
  clear hb
  go_wp2_with fail
  refine bodyPost_end (v:=.tuple #[]) (by simp [results,Tryz.results73,go_sem]) rfl ?_
  exact ⟨rfl,a,c,by rw [HL.out]; exact SetStep.same HS.out hb1⟩
 ·have HL:Hid (remL xs e0=cutS xs (posOf xs e0)):=hidOf <| by unfold remL; rw [hf]; rfl
  have hp0:posOf xs e0 < xs.length:=by
   unfold foundB at hf
   exact (of_decide_eq_true hf).1
  clear hs h hf
  go_enter Tryz.func73,Tryz.ntmps73
  go_wp2_with fail
  refine hb.mono ?_
  rintro e w1 ⟨rfl,hb1,hp⟩
  have hi:=del_any a c B (posOf xs e0) xs w1 hp0 (HS.out.row.below hb1)
  have c1:=(hb1.cell (p:=⟨P,k,none⟩) hlt).trans c0
  have lt1:P < w1.heap.size:=Nat.lt_of_lt_of_le hlt hb1.size
  have HB:Hid (Below w.heap.size w w1):=hb1
  have HF:Hid (w1.frozen? ⟨P,k,none⟩=false):=hidOf <| by unfold World.frozen? at f0 ⊢; rw [hb1.block P hlt]; exact f0
  generalize cutS xs (posOf xs e0)=YS at hi HL
  clear hb1 hb c0 f0
  go_wp2_with fail
  refine hi.mono ?_
  rintro e w2 ⟨rfl,hr2,hg2⟩
  have hblk:w2.heap[P]?=w1.heap[P]?:=hg2.block P lt1 (fun ee=>HS.out.off ee.symm)
  have c2:w2.cell? ⟨P,k,none⟩=some (.slice a xs.length c):=by unfold World.cell? at c1 ⊢; rw [hblk]; exact c1
  have f2:w2.frozen? ⟨P,k,none⟩=false:=by have:=HF.out; unfold World.frozen? at this ⊢; rw [hblk]; exact this
  have lt2:P < w2.heap.size:=Nat.lt_of_lt_of_le lt1 hg2.size
  have HST:Hid (SetStep w (w2.setCell ⟨P,k,none⟩ (.slice a YS.length c)) P k B a a c YS):=SetStep.put HS.out HB.out hr2 hg2 (.inl rfl)
  clear hblk hi hr2 hg2 c1
  go_wp2_with fail
  refine bodyPost_end (v:=.tuple #[]) (by simp [results,Tryz.results73,go_sem]) rfl ?_
  exact ⟨rfl,a,c,by rw [HL.out]; exact HST.out⟩
set_option maxHeartbeats 1000000 in
theorem takeS_any (P k g o c n:Nat) (x:Int) (w:World) (hlt:P < w.heap.size) (hg:g < w.heap.size) (c0:w.cell? ⟨P,k,none⟩=some (.slice (some ⟨g,o,none⟩) (n+1) c)) (f0:w.frozen? ⟨P,k,none⟩=false) (x0:w.cell? ⟨g,o,none⟩=some (.int .i64 x)) (hc:n+1<=c) :
  Calls Tryz.prog 74 #[.pointer (some ⟨P,k,none⟩)] w fun r w'=>r=.returned (.int .i64 x)/\∃ A,(0 < n->A=some ⟨g,o+1,none⟩)/\w'=w.setCell ⟨P,k,none⟩ (.slice A n (c - 1)):=by
 obtain ⟨AD,hAD⟩:∃ AD:Addr,(if c=1 then some (⟨g,o,none⟩:Addr) else some ⟨g,o+1,none⟩)=some AD:=by
  by_cases h:c=1
  ·exact ⟨_,if_pos h⟩
  ·exact ⟨_,if_neg h⟩
 have HD:Hid (0 < n->some AD=some (⟨g,o+1,none⟩:Addr)):=fun hn=>by rw [<- hAD,if_neg (by omega)]
 have L1:(0:Int) < (n:Int)+1:=by omega
 have L2:(1:Int)<=(n:Int)+1:=by omega
 go_enter Tryz.func74,Tryz.ntmps74
 go_wp2_with fail
 go_ret
 exact ⟨rfl,some AD,HD.out,rfl⟩
end Go.Proofs.YtnmhkgmmpkjjeacGreat
namespace Go.Proofs.YtnmhkgmmpkjjeacGreat
open Go.ChangeShapes Go.WideShapes Go.ChangeAt Go.RowKit
set_option linter.unusedVariables false
theorem free_mem (qs:List P3) (n:Nat) (x:Int):x ∈ freeL qs n ↔ ∃ k:Nat,k < n/\hasFr qs (k:Nat)=false/\x=k:=by
 unfold freeL
 rw [nums_mem]
 constructor
 ·rintro ⟨k,h1,h2,h3⟩
  exact ⟨k,h1,by simpa using h2,h3⟩
 ·rintro ⟨k,h1,h2,h3⟩
  exact ⟨k,h1,by simpa using h2,h3⟩
theorem free_rising (qs:List P3) (n:Nat):Rising (freeL qs n):=nums_rising _ _
theorem free_add (t:Nat):addL (freeL [] t) (t:Nat)=freeL [] (t+1):=by
 refine rising_ext (add_rising (free_rising _ _) _) (free_rising _ _) (fun x=>?_)
 rw [add_mem (free_rising _ _),free_mem,free_mem]
 constructor
 ·rintro (rfl | ⟨k,h1,h2,h3⟩)
  ·exact ⟨t,by omega,rfl,rfl⟩
  ·exact ⟨k,by omega,h2,h3⟩
 ·rintro ⟨k,h1,h2,h3⟩
  by_cases e:k=t
  ·exact .inl (by rw [h3,e])
  ·exact .inr ⟨k,by omega,h2,h3⟩
theorem hasFr_one (q:P3) (f:Int):hasFr [q] f=decide (q.fr=f):=by
 unfold hasFr
 simp
theorem free_rem (qs:List P3) (n:Nat) (q:P3):remL (freeL qs n) q.fr=freeL (qs ++ [q]) n:=by
 refine rising_ext (rem_rising (free_rising _ _) _) (free_rising _ _) (fun x=>?_)
 rw [rem_mem (free_rising _ _),free_mem,free_mem]
 constructor
 ·rintro ⟨⟨k,h1,h2,h3⟩,h4⟩
  refine ⟨k,h1,?_,h3⟩
  rw [hasFr_append,h2,hasFr_one,Bool.false_or]
  exact decide_eq_false (fun e=>h4 (by rw [h3,e]))
 ·rintro ⟨k,h1,h2,h3⟩
  rw [hasFr_append,hasFr_one,Bool.or_eq_false_iff] at h2
  exact ⟨⟨k,h1,h2.1,h3⟩,fun e=>of_decide_eq_false h2.2 (by rw [<- e,h3])⟩
theorem free_len (qs:List P3) (n:Nat):(freeL qs n).length<=n:=by
 unfold freeL numsL
 rw [List.length_map]
 exact Nat.le_trans (List.length_filter_le _ _) (by rw [List.length_range]; omega)
def retL (gone:List P3) (n:Nat):List Int:=numsL (fun f=>hasFr gone (f:Nat)) n
theorem ret_len (qs:List P3) (n:Nat):(retL qs n).length<=n:=by
 unfold retL numsL
 rw [List.length_map]
 exact Nat.le_trans (List.length_filter_le _ _) (by rw [List.length_range]; omega)
theorem ret_rising (qs:List P3) (n:Nat):Rising (retL qs n):=nums_rising _ _
theorem ret_add (qs:List P3) (n:Nat) (q:P3) (h0:0<=q.fr) (h1:q.fr < n):addL (retL qs n) q.fr=retL (qs ++ [q]) n:=by
 refine rising_ext (add_rising (ret_rising _ _) _) (ret_rising _ _) (fun x=>?_)
 rw [add_mem (ret_rising _ _)]
 unfold retL
 rw [nums_mem,nums_mem]
 constructor
 ·rintro (rfl | ⟨k,h2,h3,h4⟩)
  ·refine ⟨q.fr.toNat,by omega,?_,by omega⟩
   rw [hasFr_append,hasFr_one]
   have:q.fr=((q.fr.toNat:Nat):Int):=by omega
   rw [decide_eq_true this,Bool.or_true]
  ·exact ⟨k,h2,by rw [hasFr_append,h3,Bool.true_or],h4⟩
 ·rintro ⟨k,h2,h3,h4⟩
  rw [hasFr_append,hasFr_one,Bool.or_eq_true] at h3
  rcases h3 with h3 | h3
  ·exact .inr ⟨k,h2,h3,h4⟩
  ·exact .inl (by rw [h4,of_decide_eq_true h3])
theorem free_low (qs:List P3) (n:Nat) (lv pg:Int) (h:lowF qs < n):freeL qs n=((lowF qs:Nat):Int) :: freeL (qs ++ [⟨(lowF qs:Nat),lv,pg⟩]) n:=by
 obtain ⟨_,s1,s2⟩:=lowF_spec qs
 refine rising_ext (free_rising _ _) (List.pairwise_cons.2 ⟨fun x hx=>?_,free_rising _ _⟩) (fun x=>?_)
 ·obtain ⟨k,h1,h2,h3⟩:=(free_mem _ _ _).1 hx
  rw [hasFr_append,hasFr_one,Bool.or_eq_false_iff] at h2
  have h4:¬ ((lowF qs:Nat):Int)=(k:Nat):=of_decide_eq_false h2.2
  have h5:¬ k < lowF qs:=fun hk=>by rw [s1 k hk] at h2; cases h2.1
  omega
 ·rw [List.mem_cons,free_mem,free_mem]
  constructor
  ·rintro ⟨k,h1,h2,h3⟩
   by_cases e:k=lowF qs
   ·exact .inl (by rw [h3,e])
   ·refine .inr ⟨k,h1,?_,h3⟩
    rw [hasFr_append,h2,hasFr_one,Bool.false_or]
    exact decide_eq_false (fun e2=>e (by have:((lowF qs:Nat):Int)=(k:Nat):=e2; omega))
  ·rintro (e | ⟨k,h1,h2,h3⟩)
   ·exact ⟨lowF qs,h,s2,e⟩
   ·rw [hasFr_append,Bool.or_eq_false_iff] at h2
    exact ⟨k,h1,h2.1,h3⟩
theorem hm_snocK (kept:List P3) (q:P3):hmOf (kept ++ [q]) []=hmOf kept [] ++ [⟨q.lv,q.pg,q.fr,true⟩]:=by unfold hmOf; simp
theorem hm_snocF (kept fs:List P3) (q:P3):hmOf kept (fs ++ [q])=hmOf kept fs ++ [⟨q.lv,q.pg,q.fr,false⟩]:=by unfold hmOf; simp
theorem mGet_no {kept fs:List P3} {lv pg:Int} (h:∀ q ∈ kept ++ fs,¬ (q.lv=lv/\q.pg=pg)):mGet (hmOf kept fs) lv pg=none:=by
 rw [mGet_hm]
 rw [List.find?_eq_none.2 (fun q hq=>by unfold sameS; rw [decide_eq_false (h q (List.mem_append_left _ hq))]; decide),List.find?_eq_none.2 (fun q hq=>by unfold sameS; rw [decide_eq_false (h q (List.mem_append_right _ hq))]; decide)]
 rfl
theorem take_before {ps:List P3} (hs:ps.Pairwise (fun a b=>key a < key b)) (t:Nat) (ht:t < ps.length):∀ q ∈ ps.take t,¬ (q.lv=(pAt ps t).lv/\q.pg=(pAt ps t).pg):=by
 intro q hq he
 obtain ⟨i,hi,rfl⟩:=List.getElem_of_mem hq
 rw [List.length_take] at hi
 rw [List.getElem_take] at he
 have:=List.pairwise_iff_getElem.1 hs i t (by omega) ht (by omega)
 have e:ps[t]=pAt ps t:=by unfold pAt; rw [List.getD_eq_getElem?_getD,List.getElem?_eq_getElem ht]; rfl
 unfold key at this
 rw [e] at this
 omega
theorem fresh_before {H:Nat->Ht} {n:Nat} {ps:List P3} (hn:0 < n) (h:PlcOk n ps) (hw:(wPre H 256).length<=n) (k:Nat) (hk:k < (wPre H 256).length):∀ q ∈ frTo (keptL H ps) (wPre H 256) k,¬ (q.lv=((wPre H 256)[k]).1/\q.pg=((wPre H 256)[k]).2):=by
 intro q hq he
 obtain ⟨j,hj,hj2,h1,h2,_⟩:=fresh_mem hn h hw k (by omega) q hq
 have:=List.pairwise_iff_getElem.1 (wPre_sorted H 256) j k hj2 hk hj
 unfold skey at this
 have e1:((wPre H 256)[j]).1=((wPre H 256)[k]).1:=by have:=he.1; omega
 have e2:((wPre H 256)[j]).2=((wPre H 256)[k]).2:=by have:=he.2; omega
 omega
theorem home_some {H:Nat->Ht} {n:Nat} {ps:List P3} (hn:0 < n) (h:PlcOk n ps) (hw:(wPre H 256).length<=n) (k:Nat) (hk:k < (wPre H 256).length):(mGet (hmOf (keptL H ps) (frTo (keptL H ps) (wPre H 256) k)) ((wPre H 256)[k]).1 ((wPre H 256)[k]).2).isSome=!decide (frOf (keptL H ps) ((wPre H 256)[k]).1 ((wPre H 256)[k]).2 < 0):=by
 by_cases hf:frOf (keptL H ps) ((wPre H 256)[k]).1 ((wPre H 256)[k]).2 < 0
 ·rw [decide_eq_true hf,mGet_no]
  ·rfl
  ·intro q hq he
   rcases List.mem_append.1 hq with hq | hq
   ·have hx:=frOf_at (kept_sorted H h) hq
    rw [he.1,he.2] at hx
    have:=(h.fr (by omega) (kept_mem.1 hq).1).1
    omega
   ·exact fresh_before hn h hw k hk q hq he
 ·rw [decide_eq_false hf,hm_kept (by omega)]
  rfl
theorem home_none {H:Nat->Ht} {n:Nat} {ps:List P3} (hn:0 < n) (h:PlcOk n ps) (hw:(wPre H 256).length<=n) (k:Nat) (hk:k < (wPre H 256).length) (hf:frOf (keptL H ps) ((wPre H 256)[k]).1 ((wPre H 256)[k]).2 < 0):mGet (hmOf (keptL H ps) (frTo (keptL H ps) (wPre H 256) k)) ((wPre H 256)[k]).1 ((wPre H 256)[k]).2=none:=by
 have:=home_some hn h hw k hk
 rw [decide_eq_true hf] at this
 simpa using this
theorem MapIs.tch {w w':World} {B:Nat} {m:List HE} {S:Nat->Prop} (h:MapIs w B m) (hg:Tch S w w') (hn:¬ S B):MapIs w' B m:=h.of_block (hg.block B h.lt hn)
theorem LayIs.tch {w w':World} {g:Nat} {H:Nat->Ht} {S:Nat->Prop} (h:LayIs w g H) (hg:Tch S w w') (hn:¬ S g):LayIs w' g H:=h.of_block hg.size (hg.block g h.lt hn)
theorem CRow.tch {w w':World} {g:Nat} {zs:List Int} {S:Nat->Prop} (h:CRow w g zs) (hg:Tch S w w') (hn:¬ S g):CRow w' g zs:=h.of_block (hg.block g h.lt hn)
theorem PSt.tch {w w':World} {gp gz cz gl B:Nat} {zs:List Int} {H:Nat->Ht} {m:List HE} {S:Nat->Prop} (h:PSt w gp gz cz gl B zs H m) (hg:Tch S w w') (h1:¬ S gp) (h2:¬ S gz) (h3:¬ S gl) (h4:¬ S B):PSt w' gp gz cz gl B zs H m :=
 ⟨Nat.lt_of_lt_of_le h.lt hg.size,(hg.cell (p:=⟨gp,0,none⟩) h.lt h1).trans h.c0,(hg.cell (p:=⟨gp,1,none⟩) h.lt h1).trans h.c1,(hg.cell (p:=⟨gp,2,none⟩) h.lt h1).trans h.c2,h.words.tch hg h2,h.lay.tch hg h3,h.map.tch hg h4⟩
structure Sep (w0:World) (gp gz gl M:Nat):Prop where
 p:gp < w0.heap.size
 z:gz < w0.heap.size
 l:gl < w0.heap.size
 m:M < w0.heap.size
 zp:gz ≠ gp
 lp:gl ≠ gp
 mp:M ≠ gp
 zm:gz ≠ M
 lm:gl ≠ M
structure SS (w0 w:World) (gp gz cz gl M:Nat) (zs:List Int) (H:Nat->Ht) (m:List HE) (aR:Option Addr) (cR:Nat) (rt:List Int) (aC:Option Addr) (cC:Nat) (cr:List P3):Prop where
 tch:Tch (fun k=>k=gp\/k=M) w0 w
 pst:PSt w gp gz cz gl M zs H m
 ret:SetAt w gp 4 (w0.heap.size+1) aR cR rt
 c3:w.cell? ⟨gp,3,none⟩=some (.slice aC cr.length cC)
 f3:w.frozen? ⟨gp,3,none⟩=false
 crow:ERow ePl w (w0.heap.size+1) (.slice aC cr.length cC) cr
 dif:∀ k,oB aR=some k->oB aC ≠ some k
theorem SS.ownR {w0 w:World} {gp gz cz gl M cR cC:Nat} {zs:List Int} {H:Nat->Ht} {m:List HE} {aR aC:Option Addr} {rt:List Int} {cr:List P3} (h:SS w0 w gp gz cz gl M zs H m aR cR rt aC cC cr):∀ k,oB aR=some k->w0.heap.size+1<=k/\k < w.heap.size:=fun k hk=>h.ret.row.own k (by rw [own_sl]; exact hk)
theorem SS.ownC {w0 w:World} {gp gz cz gl M cR cC:Nat} {zs:List Int} {H:Nat->Ht} {m:List HE} {aR aC:Option Addr} {rt:List Int} {cr:List P3} (h:SS w0 w gp gz cz gl M zs H m aR cR rt aC cC cr):∀ k,oB aC=some k->w0.heap.size+1<=k/\k < w.heap.size:=fun k hk=>h.crow.own k (by rw [own_sl]; exact hk)
theorem SS.elsewhere {w0 w w':World} {gp gz cz gl M cR cC:Nat} {zs:List Int} {H:Nat->Ht} {m:List HE} {aR aC:Option Addr} {rt:List Int} {cr:List P3} {S:Nat->Prop} (h:SS w0 w gp gz cz gl M zs H m aR cR rt aC cC cr) (hs:Sep w0 gp gz gl M) (hg:Tch S w w') (hS:∀ k,S k->w0.heap.size<=k/\oB aR ≠ some k/\oB aC ≠ some k):SS w0 w' gp gz cz gl M zs H m aR cR rt aC cC cr:=by
 have np:∀ k,k < w0.heap.size->¬ S k:=fun k hk hh=>by have:=(hS k hh).1; omega
 exact ⟨h.tch.then hg (fun k hk hh=>absurd hh (np k hk)),h.pst.tch hg (np _ hs.p) (np _ hs.z) (np _ hs.l) (np _ hs.m),h.ret.tch hg (np _ hs.p) (fun k hk hh=>(hS k hh).2.1 hk),(hg.cell (p:=⟨gp,3,none⟩) h.pst.lt (np _ hs.p)).trans h.c3,(hg.frozen (p:=⟨gp,3,none⟩) h.pst.lt (np _ hs.p)).trans h.f3,h.crow.tch hg (fun k hk hh=>(hS k hh).2.2 hk),h.dif⟩
theorem SS.below {w0 w w':World} {gp gz cz gl M cR cC:Nat} {zs:List Int} {H:Nat->Ht} {m:List HE} {aR aC:Option Addr} {rt:List Int} {cr:List P3} (h:SS w0 w gp gz cz gl M zs H m aR cR rt aC cC cr) (hs:Sep w0 gp gz gl M) (hg:Below w.heap.size w w'):SS w0 w' gp gz cz gl M zs H m aR cR rt aC cC cr :=
 h.elsewhere hs (Tch.of_below (S:=fun _=>False) hg) (fun k hh=>hh.elim)
theorem SS.put {w0 w w':World} {gp gz cz gl M cR cC:Nat} {zs:List Int} {H:Nat->Ht} {m m':List HE} {aR aC:Option Addr} {rt:List Int} {cr:List P3} (h:SS w0 w gp gz cz gl M zs H m aR cR rt aC cC cr) (hs:Sep w0 gp gz gl M) (hg:w.grownBy w' (some M)) (hm:MapIs w' M m'):SS w0 w' gp gz cz gl M zs H m' aR cR rt aC cC cr:=by
 have ht:Tch (fun k=>k=M) w w':=Tch.of_grown hg (fun k e=>by simpa using e.symm)
 have nr:∀ k,oB aR=some k->¬ k=M:=fun k hk e=>by have:=(h.ownR k hk).1; have:=hs.m; omega
 have nc:∀ k,oB aC=some k->¬ k=M:=fun k hk e=>by have:=(h.ownC k hk).1; have:=hs.m; omega
 exact ⟨h.tch.then ht (fun k hk hh=>.inr hh),⟨Nat.lt_of_lt_of_le h.pst.lt ht.size,(ht.cell (p:=⟨gp,0,none⟩) h.pst.lt (fun e=>hs.mp e.symm)).trans h.pst.c0,(ht.cell (p:=⟨gp,1,none⟩) h.pst.lt (fun e=>hs.mp e.symm)).trans h.pst.c1,(ht.cell (p:=⟨gp,2,none⟩) h.pst.lt (fun e=>hs.mp e.symm)).trans h.pst.c2,h.pst.words.tch ht hs.zm,h.pst.lay.tch ht hs.lm,hm⟩,h.ret.tch ht (fun e=>hs.mp e.symm) nr,(ht.cell (p:=⟨gp,3,none⟩) h.pst.lt (fun e=>hs.mp e.symm)).trans h.c3,(ht.frozen (p:=⟨gp,3,none⟩) h.pst.lt (fun e=>hs.mp e.symm)).trans h.f3,h.crow.tch ht nc,h.dif⟩
theorem SS.back {w0 w w':World} {gp gz cz gl M cR cR' cC:Nat} {zs:List Int} {H:Nat->Ht} {m:List HE} {aR aR' aC:Option Addr} {rt rt':List Int} {cr:List P3} (h:SS w0 w gp gz cz gl M zs H m aR cR rt aC cC cr) (hs:Sep w0 gp gz gl M) (hg:SetStep w w' gp 4 (w0.heap.size+1) aR aR' cR' rt'):SS w0 w' gp gz cz gl M zs H m aR' cR' rt' aC cC cr:=by
 have nS:∀ k,k < w0.heap.size->k ≠ gp->¬ (k=gp\/oB aR=some k):=fun k hk hn hh=>by
  rcases hh with e | e
  ·exact hn e
  ·have:=(h.ownR k e).1; omega
 have nc:∀ k,oB aC=some k->¬ (k=gp\/oB aR=some k):=fun k hk hh=>by
  rcases hh with e | e
  ·have:=(h.ownC k hk).1; have:=hs.p; omega
  ·exact h.dif k e hk
 refine ⟨h.tch.then hg.tch (fun k hk hh=>?_),⟨hg.set.lt,(hg.oth 0 (by decide)).trans h.pst.c0,(hg.oth 1 (by decide)).trans h.pst.c1,(hg.oth 2 (by decide)).trans h.pst.c2,h.pst.words.tch hg.tch (nS _ hs.z hs.zp),h.pst.lay.tch hg.tch (nS _ hs.l hs.lp),h.pst.map.tch hg.tch (nS _ hs.m hs.mp)⟩,hg.set,(hg.oth 3 (by decide)).trans h.c3,(hg.ofz 3).trans h.f3,h.crow.tch hg.tch nc,fun k hk hc=>?_⟩
 ·rcases hh with e | e
  ·exact .inl e
  ·have:=(h.ownR k e).1; omega
 ·rcases hg.own with e | ⟨j,e,hj⟩
  ·exact h.dif k (by rw [<- e]; exact hk) hc
  ·have:j=k:=by rw [e] at hk; simpa using hk
   have:=(h.ownC k hc).2
   omega
theorem SS.make {w0 w wa w1:World} {gp gz cz gl M cR cC cC':Nat} {zs:List Int} {H:Nat->Ht} {m:List HE} {aR aC aC':Option Addr} {rt:List Int} {cr cr':List P3} (h:SS w0 w gp gz cz gl M zs H m aR cR rt aC cC cr) (hs:Sep w0 gp gz gl M) (hb:Below w.heap.size w wa) (hr:ERow ePl w1 (w0.heap.size+1) (.slice aC' cr'.length cC') cr') (hg:wa.grownBy w1 (oB aC)) (ho:oB aC'=oB aC\/∃ j,oB aC'=some j/\w.heap.size<=j):SS w0 (w1.setCell ⟨gp,3,none⟩ (.slice aC' cr'.length cC')) gp gz cz gl M zs H m aR cR rt aC' cC' cr':=by
 have hT:Tch (fun j=>oB aC=some j) w w1:=⟨hg.os.trans hb.os,hg.tape.trans hb.tape,hg.output.trans hb.output,Nat.le_trans hb.size hg.size,fun i hi hn=>(hg.block i (Nat.lt_of_lt_of_le hi hb.size) (fun e=>hn e.symm)).trans (hb.block i hi)⟩
 have hw0:=h.tch.size
 have nS:∀ k,k < w0.heap.size->¬ oB aC=some k:=fun k hk e=>by have:=(h.ownC k e).1; omega
 have hP1:PSt w1 gp gz cz gl M zs H m:=h.pst.tch hT (nS _ hs.p) (nS _ hs.z) (nS _ hs.l) (nS _ hs.m)
 have hR1:SetAt w1 gp 4 (w0.heap.size+1) aR cR rt:=h.ret.tch hT (nS _ hs.p) (fun k hk hh=>h.dif k hk hh)
 have h31:w1.cell? ⟨gp,3,none⟩=some (.slice aC cr.length cC):=(hT.cell (p:=⟨gp,3,none⟩) h.pst.lt (nS _ hs.p)).trans h.c3
 have hf1:w1.frozen? ⟨gp,3,none⟩=false:=(hT.frozen (p:=⟨gp,3,none⟩) h.pst.lt (nS _ hs.p)).trans h.f3
 have hS:Tch (fun j=>j=gp) w1 (w1.setCell ⟨gp,3,none⟩ (.slice aC' cr'.length cC')):=(Tch.refl w1).set _ _ rfl
 have oth:∀ i,i ≠ 3->(w1.setCell ⟨gp,3,none⟩ (.slice aC' cr'.length cC')).cell? ⟨gp,i,none⟩=w1.cell? ⟨gp,i,none⟩:=fun i hi=>World.cell?_setCell_other _ _ _ _ (fun e=>hi (by simp only [Addr.mk.injEq,true_and,and_true] at e; exact e.symm))
 have np:∀ k,oB aR=some k->¬ k=gp:=fun k hk e=>by have:=(h.ownR k hk).1; have:=hs.p; omega
 have nc':∀ k,oB aC'=some k->¬ k=gp:=fun k hk e=>by
  rcases ho with e2 | ⟨j,e2,hj⟩
  ·have:=(h.ownC k (by rw [<- e2]; exact hk)).1; have:=hs.p; omega
  ·have:j=k:=by rw [e2] at hk; simpa using hk
   have:=hs.p; omega
 refine ⟨(h.tch.then hT (fun k hk hh=>absurd hh (nS k hk))).then hS (fun k hk hh=>.inl hh),⟨by simpa using hP1.lt,(oth 0 (by decide)).trans hP1.c0,(oth 1 (by decide)).trans hP1.c1,(oth 2 (by decide)).trans hP1.c2,hP1.words.tch hS hs.zp,hP1.lay.tch hS hs.lp,hP1.map.tch hS hs.mp⟩,⟨by simpa using hR1.lt,(oth 4 (by decide)).trans hR1.cell,by simpa using hR1.fz,hR1.row.tch hS np,hR1.off,by simpa using hR1.base⟩,World.cell?_setCell_same _ _ _ h31,by simpa using hf1,hr.tch hS nc',fun k hk hc=>?_⟩
 rcases ho with e2 | ⟨j,e2,hj⟩
 ·exact h.dif k hk (by rw [<- e2]; exact hc)
 ·have:j=k:=by rw [e2] at hc; simpa using hc
  have:=(h.ownR k hk).2
  omega
end Go.Proofs.YtnmhkgmmpkjjeacGreat
