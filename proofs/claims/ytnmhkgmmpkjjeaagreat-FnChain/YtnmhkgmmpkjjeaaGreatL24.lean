import Derived.Test.YtnmhkgmmpkjjeaaGreatL23
import Derived.Test.YtnmhkgmmpkjjeaaGreatL21
namespace Go.Proofs.YtnmhkgmmpkjjeaaGreat
open Go.ChangeShapes Go.WideShapes Go.ChangeAt Go.RowKit
set_option linter.unusedVariables false
set_option maxRecDepth 100000
attribute [local go_sem ↓] Go.wp_at_zero Go.wp_at_succ
def FA:Dc P3:=⟨67,3,fun p=>[.int .i64 p.fr,.int .i64 p.lv,.int .i64 p.pg],⟨0,0,0⟩,by omega,fun _=>rfl⟩
theorem Ab.e {w:World} {b:Nat} {v:Value} {ps:List P3} (h:Ab w b v ps):A6 FA w b v ps:=h
theorem A6.p {w:World} {b:Nat} {v:Value} {ps:List P3} (h:A6 FA w b v ps):Ab w b v ps:=h
theorem GZ {w:World} {b g c:Nat} {ps:List P3} (h:A6 FA w b (.slice (some ⟨g,0,none⟩) ps.length c) ps) (i:Nat) (hi:i<ps.length):g<w.heap.size/\w.cell? ⟨g,i*3,none⟩=some (.int .i64 (Ag ps i).fr)/\w.cell? ⟨g,i*3+1,none⟩=some (.int .i64 (Ag ps i).lv)/\w.cell? ⟨g,i*3+2,none⟩=some (.int .i64 (Ag ps i).pg):=by
 obtain⟨a,c',e,h1⟩:=h.form;obtain⟨g',N,f,e2,_,hr,hN,hf⟩:=h1 (by omega);have hN':ps.length*3<=N:=hN;simp only[Value.slice.injEq] at e;obtain⟨e,_,_⟩:=e;rw[e2] at e;simp only[Option.some.injEq,Addr.mk.injEq,and_true] at e;subst e;refine⟨hr.lt,?_,?_,?_⟩
 ·rw[hr.cell (i:=i*3) (by omega)];exact congrArg some (hf i hi 0 (by decide))
 ·rw[hr.cell (i:=i*3+1) (by omega)];exact congrArg some (hf i hi 1 (by decide))
 ·rw[hr.cell (i:=i*3+2) (by omega)];exact congrArg some (hf i hi 2 (by decide))
theorem Rc {w:World} {b g c:Nat} {es:List En} (h:A6 NO w b (.slice (some ⟨g,0,none⟩) es.length c) es) (i:Nat) (hi:i<es.length):g<w.heap.size/\w.cell? ⟨g,i*3,none⟩=some (.int .i64 (AI NO es i).lv)/\w.cell? ⟨g,i*3+1,none⟩=some (.int .i64 (AI NO es i).pg)/\w.cell? ⟨g,i*3+2,none⟩=some (.int .i64 (AI NO es i).ad):=by
 obtain⟨a,c',e,h1⟩:=h.form;obtain⟨g',N,f,e2,_,hr,hN,hf⟩:=h1 (by omega);have hN':es.length*3<=N:=hN;simp only[Value.slice.injEq] at e;obtain⟨e,_,_⟩:=e;rw[e2] at e;simp only[Option.some.injEq,Addr.mk.injEq,and_true] at e;subst e;refine⟨hr.lt,?_,?_,?_⟩
 ·rw[hr.cell (i:=i*3) (by omega)];exact congrArg some (hf i hi 0 (by decide))
 ·rw[hr.cell (i:=i*3+1) (by omega)];exact congrArg some (hf i hi 1 (by decide))
 ·rw[hr.cell (i:=i*3+2) (by omega)];exact congrArg some (hf i hi 2 (by decide))
theorem Nw (g c b:Nat) (Hs:List Ht) (lv p:Nat) (w:World) (hl:Hs.length=4096) (h1:1<=lv) (h3:lv<=3) (hp:p+Hj lv<=4096) (h:A6 Db w b (.slice (some ⟨g,0,none⟩) Hs.length c) Hs) : Calls Tryz.prog 73 #[.slice (some ⟨g,0,none⟩) 4096 c,.int .i64 lv,.int .i64 p] w fun e w'=>e=.returned (.bool (nd (hF Hs) lv p))/\Below w.heap.size w w':=by
 rcases(show lv=1\/lv=2\/lv=3 by omega) with rfl|rfl|rfl
 ·rw[GM];exact NP _ _ w
 ·exact Ly g c b Hs p w hl hp h
 ·exact Le g c b Hs p w hl hp h
structure Fz {α β:Type} (E:Dc α) (F:Dc β) (w wr:World) (v1 v2:Value) (l1:List α) (l2:List β):Prop where
 rows:∃g1 c1 g2 c2:Nat,v1=.slice (some ⟨g1,0,none⟩) l1.length c1/\v2=.slice (some ⟨g2,0,none⟩) l2.length c2/\A6 E wr w.heap.size (.slice (some ⟨g1,0,none⟩) l1.length c1) l1/\A6 F wr w.heap.size (.slice (some ⟨g2,0,none⟩) l2.length c2) l2/\g1≠g2
 bel:Below w.heap.size w wr
theorem Fz.below {α β:Type} {E:Dc α} {F:Dc β} {w wr w1:World} {v1 v2:Value} {l1:List α} {l2:List β} (h:Fz E F w wr v1 v2 l1 l2) (hb:Below wr.heap.size wr w1):Fz E F w w1 v1 v2 l1 l2:=by
 obtain⟨⟨g1,c1,g2,c2,e1,e2,h1,h2,hne⟩,hbel⟩:=h;exact⟨⟨g1,c1,g2,c2,e1,e2,h1.below hb,h2.below hb,hne⟩,hbel.trans (hb.mono hbel.size)⟩
theorem Fz.swap {α β:Type} {E:Dc α} {F:Dc β} {w wr:World} {v1 v2:Value} {l1:List α} {l2:List β} (h:Fz E F w wr v1 v2 l1 l2):Fz F E w wr v2 v1 l2 l1:=by
 obtain⟨⟨g1,c1,g2,c2,e1,e2,h1,h2,hne⟩,hbel⟩:=h;exact⟨⟨g2,c2,g1,c1,e2,e1,h2,h1,fun e=>hne e.symm⟩,hbel⟩
theorem Fz.second {α β:Type} {E:Dc α} {F:Dc β} {w wr:World} {v1:Value} {l1:List α} (h:F0 E w wr v1 l1):Fz E F w (wr.alloc (.cells #[] F.T)) v1 (.slice (some ⟨wr.heap.size,0,none⟩) 0 0) l1 []:=by
 obtain⟨⟨g1,c1,e1,h1⟩,hbel⟩:=h;have hb:Below wr.heap.size wr (wr.alloc (.cells #[] F.T)):=Ao;refine⟨⟨g1,c1,wr.heap.size,0,e1,rfl,h1.below hb,?_,?_⟩,hbel.trans (hb.mono hbel.size)⟩
 ·exact(A6.empty F wr wr.heap.size (Nat.le_refl _)).rebase hbel.size
 ·have:=(h1.own g1 rfl).2;omega
theorem F0.new {α:Type} (E:Dc α) (w:World):F0 E w (w.alloc (.cells #[] E.T)) (.slice (some ⟨w.heap.size,0,none⟩) 0 0) []:=⟨⟨w.heap.size,0,rfl,A6.empty E w w.heap.size (Nat.le_refl _)⟩,Ao⟩
theorem Fz.push1 {α β:Type} {E:Dc α} {F:Dc β} {w w1 wn:World} {g1 c1 g1' c1':Nat} {v2:Value} {l1:List α} {l2:List β} {x:α} {o:Obj} (h:Fz E F w w1 (.slice (some ⟨g1,0,none⟩) l1.length c1) v2 l1 l2) (hown:wn.ownsRow w.heap.size E.T E.sz (.slice (some ⟨g1',0,none⟩) (l1.length+1) c1') (l1.length+1) (AE E l1++E.enc x)) (hgrow:(w1.alloc o).grownBy wn (Value.ownBlock (.slice (some ⟨g1,0,none⟩) l1.length c1))) (hat:Value.ownBlock (.slice (some ⟨g1,0,none⟩) l1.length c1)=some g1'\/g1'=w1.heap.size+1) : Fz E F w wn (.slice (some ⟨g1',0,none⟩) (l1.length+1) c1') v2 (l1++[x]) l2:=by
 obtain⟨⟨g,c,g2,c2,e1,e2,h1,h2,hne⟩,hbel⟩:=h;simp only[Value.slice.injEq,Option.some.injEq,Addr.mk.injEq,and_true,true_and] at e1;obtain⟨rfl,rfl⟩:=e1;have hg2:=(h2.own g2 rfl).2;have h2a:A6 F (w1.alloc o) w.heap.size (.slice (some ⟨g2,0,none⟩) l2.length c2) l2:=h2.below Ao
 have h2n:=h2a.kept hgrow (fun k hk e=>by
  have hk':some g2=some k:=hk
  have e':some k=some g1:=e
  rw[<- hk'] at e'
  simp only[Option.some.injEq] at e'
  exact hne e'.symm)
 refine⟨⟨g1',c1',g2,c2,by simp,e2,?_,h2n,?_⟩,?_⟩
 ·have:=A6.push rfl hown;rw[List.length_append,List.length_singleton];exact this
 ·rcases hat with e|e
  ·have e':some g1=some g1':=e;simp only[Option.some.injEq] at e';rw[<- e'];exact hne
  ·omega
 ·exact(hbel.alloc hbel.size _).grown hgrow (by have:=hbel.size;simp;omega) (fun q hq=>(h1.own q hq).1)
theorem Fz.push2 {α β:Type} {E:Dc α} {F:Dc β} {w w1 wn:World} {g2 c2 g2' c2':Nat} {v1:Value} {l1:List α} {l2:List β} {x:β} {o:Obj} (h:Fz E F w w1 v1 (.slice (some ⟨g2,0,none⟩) l2.length c2) l1 l2) (hown:wn.ownsRow w.heap.size F.T F.sz (.slice (some ⟨g2',0,none⟩) (l2.length+1) c2') (l2.length+1) (AE F l2++F.enc x)) (hgrow:(w1.alloc o).grownBy wn (Value.ownBlock (.slice (some ⟨g2,0,none⟩) l2.length c2))) (hat:Value.ownBlock (.slice (some ⟨g2,0,none⟩) l2.length c2)=some g2'\/g2'=w1.heap.size+1) :
  Fz E F w wn v1 (.slice (some ⟨g2',0,none⟩) (l2.length+1) c2') l1 (l2++[x]):=(Fz.push1 h.swap hown hgrow hat).swap
theorem Fz.open1 {α β:Type} {E:Dc α} {F:Dc β} {w wr:World} {v1 v2:Value} {l1:List α} {l2:List β} (h:Fz E F w wr v1 v2 l1 l2):∃g c:Nat,v1=.slice (some ⟨g,0,none⟩) l1.length c/\A6 E wr w.heap.size (.slice (some ⟨g,0,none⟩) l1.length c) l1:=by
 obtain⟨⟨g1,c1,g2,c2,e1,e2,h1,h2,hne⟩,hbel⟩:=h;exact⟨g1,c1,e1,h1⟩
theorem Fz.open2 {α β:Type} {E:Dc α} {F:Dc β} {w wr:World} {v1 v2:Value} {l1:List α} {l2:List β} (h:Fz E F w wr v1 v2 l1 l2):∃g c:Nat,v2=.slice (some ⟨g,0,none⟩) l2.length c/\A6 F wr w.heap.size (.slice (some ⟨g,0,none⟩) l2.length c) l2:=h.swap.open1
def Au (H:Nat->Ht) (ps:List P3) (k:Nat):List P3:=AC H (ps.take k)
def BN (H:Nat->Ht) (ps:List P3) (k:Nat):List P3:=CH H (ps.take k)
theorem Fu (ps:List P3) (t:Nat) (h:t<ps.length):ps.take (t+1)=ps.take t++[Ag ps t]:=DD FA ps t h
theorem JD (H:Nat->Ht) (ps:List P3) (k:Nat) (hk:k<ps.length):Au H ps (k+1)=Au H ps k++(if Rw H (Ag ps k) then [Ag ps k] else []):=by
 unfold Au AC;rw[Fu ps k hk,List.filter_append];congr 1;cases h:Rw H (Ag ps k)<;>simp[h]
theorem J0 (H:Nat->Ht) (ps:List P3) (k:Nat) (hk:k<ps.length):BN H ps (k+1)=BN H ps k++(if Rw H (Ag ps k) then [] else [Ag ps k]):=by
 unfold BN CH;rw[Fu ps k hk,List.filter_append];congr 1;cases h:Rw H (Ag ps k)<;>simp[h]
theorem Pw (H:Nat->Ht) (ps:List P3) (k:Nat):(Au H ps k).length<=ps.length:=by
 unfold Au AC;exact Nat.le_trans (List.length_filter_le _ _) (by rw[List.length_take];omega)
theorem PY (H:Nat->Ht) (ps:List P3) (k:Nat):(BN H ps k).length<=ps.length:=by
 unfold BN CH;exact Nat.le_trans (List.length_filter_le _ _) (by rw[List.length_take];omega)
theorem H9 (H:Nat->Ht) (ps:List P3):Au H ps ps.length=AC H ps:=by unfold Au;rw[List.take_length]
theorem KU (H:Nat->Ht) (ps:List P3):BN H ps ps.length=CH H ps:=by unfold BN;rw[List.take_length]
theorem BI.nat {n:Int} {ps:List P3} (h:BI n ps) {q:P3} (hq:q∈ps):∃lv pg:Nat,q.lv=lv/\q.pg=pg/\1<=lv/\lv<=3/\pg+Hj lv<=4096:=by
 rcases h.mem q hq with e|⟨i,hi,e,hp,_⟩|⟨i,j,hi,hj,e,hp,_⟩
 ·exact⟨1,0,by rw[e];rfl,by rw[e];rfl,by decide,by decide,by decide⟩
 ·exact⟨2,i*256,e,hp,by decide,by decide,show i*256+256<=4096 by omega⟩
 ·exact⟨3,i*256+j*16,e,hp,by decide,by decide,show i*256+j*16+16<=4096 by omega⟩
theorem GK (zs:List Int) (h:Ae zs.length≠0):BI (Ae zs.length) (A5 zs):=by
 unfold A5;rw[if_neg h];exact ED zs (Ae zs.length)
theorem FJ {zs:List Int} (h:BO zs=true):Ae zs.length≠0:=by
 unfold BO at h;simp at h;exact h.1
theorem Sr (x:Int) (h0:0<=x) (h1:x<18446744073709551616) (w:World) : Calls Tryz.prog 78 #[.int .u64 x,.int .i64 0] w fun e w'=>e=.returned (.int .i64 (x%2))/\w'=w:=by
 have hfl:∀w:World,Calls Tryz.prog 133 #[.int .u64 x,.int .i64 0,.int .i64 1] w fun e w'=>e=.returned (.int .u64 (x%2))/\w'=w:=fun w=>by
  go_enter Tryz.func133,Tryz.ntmps133
  go_wp2_with fail
  go_ret;exact⟨rfl,rfl⟩
 have hm:0<=x%2/\x%2<2:=by omega
 go_enter Tryz.func78,Tryz.ntmps78
 go_wp2_with (go_at_call 133;refine(hfl _).mono ?_;rintro e w1 ⟨rfl,hw1⟩;obtain rfl:=hw1.symm)
 go_ret;exact⟨rfl,rfl⟩
def BU (zs:List Int) (xs:List AF):List Ay×Int :=
 if BO zs=false then ([],1) else if Eh xs=false then ([],2) else if Ae zs.length<((AA (lay xs) 256).length:Nat) then ([],3)
 else (AO zs (Ae zs.length).toNat (lay xs) (A5 zs),0)
theorem Gh {zs:List Int} {xs:List AF} (h:BO zs=false):BU zs xs=([],1):=by unfold BU;rw[if_pos h]
theorem GV {zs:List Int} {xs:List AF} (h:BO zs=true) (h2:Eh xs=false):BU zs xs=([],2):=by unfold BU;rw[if_neg (by rw[h];decide),if_pos h2]
theorem Ge {zs:List Int} {xs:List AF} (h:BO zs=true) (h2:Eh xs=true) (h3:Ae zs.length<((AA (lay xs) 256).length:Nat)):BU zs xs=([],3):=by unfold BU;rw[if_neg (by rw[h];decide),if_neg (by rw[h2];decide),if_pos h3]
theorem EU {zs:List Int} {xs:List AF} (h:BO zs=true) (h2:Eh xs=true) (h3:¬Ae zs.length<((AA (lay xs) 256).length:Nat)):BU zs xs=(AO zs (Ae zs.length).toNat (lay xs) (A5 zs),0):=by unfold BU;rw[if_neg (by rw[h];decide),if_neg (by rw[h2];decide),if_neg h3]
def CZ (w:World) (r:List Ay×Int) (e:Ending) (w':World):Prop :=
 ∃a c,e=.returned (.tuple #[.slice a r.1.length c,.int .i64 r.2])/\A6 Az w' w.heap.size (.slice a r.1.length c) r.1/\Below w.heap.size w w'
theorem Rl {H:Nat->Ht} {n:Nat} {ps:List P3} (hn:0<n) (h:BI n ps) (hw:(AA H 256).length<=n) (k:Nat) (hk:k<=(AA H 256).length):(AC H ps++BJ (AC H ps) (AA H 256) k).length<=1100:=by
 have h1:=Qm (H:=H) (n:=n) (by omega) h;have h2:=List.countP_le_length (p:=Nj (AC H ps)) (l:=AA H 256);have h3:=Er (AC H ps) (AA H 256) k hk;have h4:=Hp H 256;rw[List.length_append];omega
theorem Vd (s:List (Nat×Nat)) (k:Nat) (hk:k<s.length):Ag (Og s) k=⟨-1,(s[k]).1,(s[k]).2⟩:=by
 unfold Ag Og;rw[List.getD_eq_getElem?_getD,List.getElem?_map,List.getElem?_eq_getElem hk];rfl
structure Hn (w wr:World) (v1 v2:Value) (l1 l2:List Ay) (gm:Nat) (mk:Nat->Bool):Prop where
 two:Fz Az Az w wr v1 v2 l1 l2
 ne:∀g n c,(v1=.slice (some ⟨g,0,none⟩) n c\/v2=.slice (some ⟨g,0,none⟩) n c)->gm≠g
 mark:wr.rowIs gm 4 4096 (fun p=>.bool (mk p))
 lo:w.heap.size<=gm
theorem Hn.below {w wr w1:World} {v1 v2:Value} {l1 l2:List Ay} {gm:Nat} {mk:Nat->Bool} (h:Hn w wr v1 v2 l1 l2 gm mk) (hb:Below wr.heap.size wr w1):Hn w w1 v1 v2 l1 l2 gm mk :=
 ⟨h.two.below hb,h.ne,h.mark.of_block (hb.block gm h.mark.lt),h.lo⟩
theorem Hn.push1 {w w1 wn:World} {g1 c1 g1' c1':Nat} {v2:Value} {l1 l2:List Ay} {x:Ay} {o:Obj} {gm:Nat} {mk:Nat->Bool} (h:Hn w w1 (.slice (some ⟨g1,0,none⟩) l1.length c1) v2 l1 l2 gm mk) (hown:wn.ownsRow w.heap.size Az.T Az.sz (.slice (some ⟨g1',0,none⟩) (l1.length+1) c1') (l1.length+1) (AE Az l1++Az.enc x)) (hgrow:(w1.alloc o).grownBy wn (Value.ownBlock (.slice (some ⟨g1,0,none⟩) l1.length c1))) (hat:Value.ownBlock (.slice (some ⟨g1,0,none⟩) l1.length c1)=some g1'\/g1'=w1.heap.size+1) : Hn w wn (.slice (some ⟨g1',0,none⟩) (l1.length+1) c1') v2 (l1++[x]) l2 gm mk:=by
 have hl:=h.mark.lt;refine⟨Fz.push1 h.two hown hgrow hat,?_,?_,h.lo⟩
 ·intro g n c hh;rcases hh with hh|hh
  ·simp only[Value.slice.injEq,Option.some.injEq,Addr.mk.injEq,and_true] at hh;obtain⟨rfl,_⟩:=hh;rcases hat with e|e
   ·have e':some g1=some g1':=e;simp only[Option.some.injEq] at e';rw[<- e'];exact h.ne g1 _ _ (.inl rfl)
   ·omega
  ·exact h.ne g n c (.inr hh)
 ·have hne:some gm≠Value.ownBlock (.slice (some ⟨g1,0,none⟩) l1.length c1):=fun e=>h.ne g1 _ _ (.inl rfl) (by have e':some gm=some g1:=e;simpa using e')
  exact h.mark.of_block ((hgrow.block gm (by simp;omega) hne).trans (Below.heap_alloc _ _ _ hl))
theorem Hn.swap {w wr:World} {v1 v2:Value} {l1 l2:List Ay} {gm:Nat} {mk:Nat->Bool} (h:Hn w wr v1 v2 l1 l2 gm mk):Hn w wr v2 v1 l2 l1 gm mk:=⟨h.two.swap,fun g n c hh=>h.ne g n c hh.symm,h.mark,h.lo⟩
theorem Hn.push2 {w w1 wn:World} {g2 c2 g2' c2':Nat} {v1:Value} {l1 l2:List Ay} {x:Ay} {o:Obj} {gm:Nat} {mk:Nat->Bool} (h:Hn w w1 v1 (.slice (some ⟨g2,0,none⟩) l2.length c2) l1 l2 gm mk) (hown:wn.ownsRow w.heap.size Az.T Az.sz (.slice (some ⟨g2',0,none⟩) (l2.length+1) c2') (l2.length+1) (AE Az l2++Az.enc x)) (hgrow:(w1.alloc o).grownBy wn (Value.ownBlock (.slice (some ⟨g2,0,none⟩) l2.length c2))) (hat:Value.ownBlock (.slice (some ⟨g2,0,none⟩) l2.length c2)=some g2'\/g2'=w1.heap.size+1) :
  Hn w wn v1 (.slice (some ⟨g2',0,none⟩) (l2.length+1) c2') l1 (l2++[x]) gm mk:=(Hn.push1 h.swap hown hgrow hat).swap
theorem Hn.set {w wr:World} {v1 v2:Value} {l1 l2:List Ay} {gm:Nat} {mk mk':Nat->Bool} {p:Nat} (h:Hn w wr v1 v2 l1 l2 gm mk) (hm:∀q,mk' q=(mk q||decide (q=p))):Hn w (wr.setCell ⟨gm,p,none⟩ (.bool true)) v1 v2 l1 l2 gm mk':=by
 obtain⟨⟨⟨g1,c1,g2,c2,e1,e2,h1,h2,hne⟩,hbel⟩,hn,hmk,hlo⟩:=h;have n1:gm≠g1:=hn g1 _ _ (.inl e1);have n2:gm≠g2:=hn g2 _ _ (.inr e2);have hg:wr.grownBy (wr.setCell ⟨gm,p,none⟩ (.bool true)) (some gm):=Bp (World.grownBy.refl _ _) _ _;refine⟨⟨⟨g1,c1,g2,c2,e1,e2,h1.kept hg ?_,h2.kept hg ?_,hne⟩,hbel.setCell hlo _⟩,hn,?_,hlo⟩
 ·intro k hk e;have hk':some g1=some k:=hk;rw[<- hk'] at e;simp only[Option.some.injEq] at e;exact n1 e.symm
 ·intro k hk e;have hk':some g2=some k:=hk;rw[<- hk'] at e;simp only[Option.some.injEq] at e;exact n2 e.symm
 ·have h5:=hmk.set p (.bool true);refine(show (wr.setCell ⟨gm,p,none⟩ (.bool true)).rowIs gm 4 4096 (fun q=>.bool (mk' q)) from ?_);have e:(fun q=>Value.bool (mk' q))=(fun q=>if q=p then Value.bool true else Value.bool (mk q)):=by
   funext q;rw[hm q];by_cases hq:q=p
   ·rw[if_pos hq,decide_eq_true hq,Bool.or_true]
   ·rw[if_neg hq,decide_eq_false hq,Bool.or_false]
  rw[e];exact h5
theorem Iz (zs:List Int) (H:Nat->Ht) (all:List P3) (es:List En) (e:En):AR zs H all (es++[e])=AR zs H all es++(if JT zs H all e then [⟨1,e.ad,0,0⟩] else []):=by
 unfold AR;rw[List.filter_append,List.map_append];cases h:JT zs H all e<;>simp[h]
theorem J4 (zs:List Int) (H:Nat->Ht) (all:List P3) (es:List En) (e:En):AZ zs H all (es++[e])=AZ zs H all es++(if SH zs H all e then [⟨1,e.ad,0,Bv H all e.lv e.pg⟩] else []):=by
 unfold AZ;rw[List.filter_append,List.map_append];cases h:SH zs H all e<;>simp[h]
theorem Np (zs:List Int) (H:Nat->Ht) (all:List P3) (es:List En) (e:En) (p:Nat):FD zs H all (es++[e]) p=(FD zs H all es p||(JT zs H all e&&decide (e.pg<=p/\(p:Int)<e.pg+Bj e.lv))):=by
 unfold FD;rw[List.any_append];simp
theorem Dh (zs:List Int) (H:Nat->Ht) (all:List P3) (es:List En):(AR zs H all es).length<=es.length:=by
 unfold AR;rw[List.length_map];exact List.length_filter_le _ _
theorem Do (zs:List Int) (H:Nat->Ht) (all:List P3) (es:List En):(AZ zs H all es).length<=es.length:=by
 unfold AZ;rw[List.length_map];exact List.length_filter_le _ _
theorem MN {n:Nat} {ps:List P3} (H:Nat->Ht) (hn:0<n) (h:BI n ps) (lv pg:Int):AH (AC H ps) lv pg<n:=by
 by_cases h0:0<=AH (AC H ps) lv pg
 ·obtain⟨q,hq,_,_,e⟩:=E8 h0;rw[<- e];exact(h.fr (by omega) (BE.1 hq).1).2
 ·omega
theorem VZ {n:Nat} {ps:List P3} (H:Nat->Ht) (hn:0<n) (h:BI n ps) (i:Nat) (hi:i<(BW (AC H ps) 4096).length):∃lv pg ad:Nat,AI NO (BW (AC H ps) 4096) i=⟨lv,pg,ad⟩/\1<=lv/\lv<=3/\pg+Aq lv<=4096/\ad<n*16:=by
 have hm:AI NO (BW (AC H ps) 4096) i∈BW (AC H ps) 4096:=by
  unfold AI;rw[List.getD_eq_getElem?_getD,List.getElem?_eq_getElem hi];exact List.getElem_mem hi
 obtain⟨page,lv,hp,h1,h3,hmod,e1,e2,h0,e3⟩:=IJ hm;have hf:=MN H hn h lv (page-page%(Aq lv*16):Nat);obtain⟨F,hF⟩:∃F:Nat,AH (AC H ps) lv (page-page%(Aq lv*16):Nat)=F:=⟨(AH (AC H ps) lv (page-page%(Aq lv*16):Nat)).toNat,by omega⟩
 rw[hF] at e3 hf;refine⟨lv,page,F*16+page/Aq lv%16,?_,h1,h3,?_,?_⟩
 ·rcases hx:AI NO (BW (AC H ps) 4096) i with⟨a,b,c⟩;rw[hx] at e1 e2 e3;dsimp only at e1 e2 e3;rw[e1,e2,e3];simp
 ·rcases(show lv=1\/lv=2\/lv=3 by omega) with rfl|rfl|rfl
  ·have:page%256=0:=hmod;show page+256<=4096;omega
  ·have:page%16=0:=hmod;show page+16<=4096;omega
  ·show page+1<=4096;omega
 ·have:page/Aq lv%16<16:=Nat.mod_lt _ (by decide);omega
theorem UK (w:World) (x:Ay):A6 Az (w.alloc (.cells #[.int .i64 x.kind,.int .i64 x.a,.int .i64 x.b,.int .u64 x.word] 77)) w.heap.size (.slice (some ⟨w.heap.size,0,none⟩) 1 1) [x] :=
 ⟨by simp[AE,Az],.inr ⟨w.heap.size,1,#[.int .i64 x.kind,.int .i64 x.a,.int .i64 x.b,.int .u64 x.word],rfl,Nat.le_refl _,heap_alloc_new w _,Nat.le_refl _,by unfold maxLen;omega,by simp[Az],by simp[AE,Az]⟩⟩
theorem Pa (w wr:World) (v:Value) (l:List Ay) (a2:Option Addr) (c2 b2:Nat) (ys:List Ay) (hlen:l.length+ys.length<=100000) (h:F0 Az w wr v l) (h2:A6 Az wr b2 (.slice a2 ys.length c2) ys) (hne:∀k,Value.ownBlock (.slice a2 ys.length c2)=some k->∀g n c,v=.slice (some ⟨g,0,none⟩) n c->k≠g) : Calls Tryz.prog 80 #[v,.slice a2 ys.length c2] wr fun e w'=>∃v',e=.returned v'/\F0 Az w w' v' (l++ys)/\(∀k,k<wr.heap.size->(∀g n c,v=.slice (some ⟨g,0,none⟩) n c->k≠g)->w'.heap[k]?=wr.heap[k]?)/\wr.heap.size<=w'.heap.size/\(∀g n c,v'=.slice (some ⟨g,0,none⟩) n c->wr.heap.size<=g\/∃n c,v=.slice (some ⟨g,0,none⟩) n c):=by
 obtain⟨⟨g,c,rfl,hr⟩,hbel⟩:=h;refine(MW g c w.heap.size l a2 c2 b2 ys wr hlen hbel.size hr h2 (fun k hk=>hne k hk g _ _ rfl)).mono fun e w' ⟨v',he,hg⟩=>?_
 obtain⟨⟨g',c',e',hr',hg'⟩,hgr⟩:=hg;have hgl:=(hr.own g rfl).1;refine⟨v',he,⟨⟨g',c',e',hr'⟩,⟨hgr.os.trans hbel.os,hgr.tape.trans hbel.tape,hgr.output.trans hbel.output,Nat.le_trans hbel.size hgr.size,fun k hk=>?_⟩⟩,fun k hk hn=>hgr.block k hk (fun e=>hn g _ _ rfl (by simpa using e)),hgr.size,fun g0 n0 c0 e0=>?_⟩
 ·have h1:=hbel.size;exact(hgr.block k (by omega) (fun e=>by have h9:k=g:=(by simpa using e);omega)).trans (hbel.block k hk)
 ·rw[e'] at e0;simp only[Value.slice.injEq,Option.some.injEq,Addr.mk.injEq,and_true] at e0;obtain⟨rfl,_⟩:=e0;rcases hg' with e|e
  ·exact .inr ⟨_,_,by rw[e]⟩
  ·exact .inl e
theorem OI (gone:List P3) (t:Nat):Ah (t+1) gone=Ah t gone++(if Aw gone (t:Nat) then [⟨4,(t:Nat),0,0⟩] else []):=by
 unfold Ah;rw[List.range_succ,List.filter_append,List.map_append];cases h:Aw gone (t:Nat)<;>simp[h]
theorem JL (gone:List P3) (t:Nat):(Ah t gone).length<=t:=by
 unfold Ah;rw[List.length_map];exact Nat.le_trans (List.length_filter_le _ _) (by rw[List.length_range];omega)
theorem Hv (H:Nat->Ht) (all:List P3) (t:P3) (k:Nat):Al H all t (k+1)=Al H all t k++[⟨1,t.fr*16+(k:Nat),0,Bv H all t.lv (t.pg+(k:Nat)*Bj t.lv)⟩]:=by
 unfold Al;rw[List.range_succ,List.map_append];rfl
theorem GH (H:Nat->Ht) (all:List P3) (t:P3) (k:Nat):(Al H all t k).length=k:=by unfold Al;simp
theorem JK (H:Nat->Ht) (all fs:List P3) (t:Nat) (ht:t<fs.length):AK H all (fs.take (t+1))=AK H all (fs.take t)++Al H all (Ag fs t) 16:=by
 unfold AK;rw[Fu fs t ht,List.flatMap_append];simp
theorem DJ (H:Nat->Ht) (all fs:List P3):(AK H all fs).length=fs.length*16:=by
 unfold AK;induction fs with
 | nil=>rfl
 | cons p r ih=>rw[List.flatMap_cons,List.length_append,ih,GH,List.length_cons];omega
theorem JJ (H:Nat->Ht) (all fs:List P3):AK H all fs=[]↔fs=[]:=by
 constructor
 ·intro h;have:=DJ H all fs;rw[h] at this;simp at this;exact List.eq_nil_of_length_eq_zero (by omega)
 ·intro h;rw[h];rfl
theorem Wk {BR T:List Ay} (h:¬BR=[]):(if BR.isEmpty then [] else ((BR++[Ci])++T)++[Ci])=(([]++BR++[Ci])++T)++[Ci]:=by
 rw[if_neg (by rw[List.isEmpty_iff];exact h),List.nil_append]
theorem Vz {α:Type} {BR:List α} (h:¬BR=[]):decide ((0:Int)<(BR.length:Int))=true:=decide_eq_true (by have:=List.length_pos_iff.2 h;omega)
theorem Ts {α:Type} {BR:List α} (h:¬BR=[]):decide (0<BR.length)=true:=decide_eq_true (List.length_pos_iff.2 h)
theorem XN {α:Type} {BR:List α} (h:BR=[]):decide ((0:Int)<(BR.length:Int))=false/\decide (0<BR.length)=false:=by subst h;exact⟨rfl,rfl⟩
theorem W9 (H:Nat->Ht) (AL FR:List P3) (O2:List Ay) (h:FR=[]):O2++BB (AK H AL FR)=O2++AK H AL FR:=by rw[(JJ H AL FR).2 h,Ig]
theorem Vu (H:Nat->Ht) (AL FR:List P3) (O2:List Ay) (h:¬FR=[]):O2++BB (AK H AL FR)=(O2++AK H AL FR)++[Ci]:=by rw[Dq (fun e=>h ((JJ H AL FR).1 e)),List.append_assoc]
end Go.Proofs.YtnmhkgmmpkjjeaaGreat
namespace Go.Proofs.YtnmhkgmmpkjjeaaGreat
open Go.ChangeShapes Go.WideShapes Go.ChangeAt Go.RowKit
set_option linter.unusedVariables false
theorem Em (qs:List P3) (n:Nat) (x:Int):x∈CV qs n↔∃k:Nat,k<n/\Aw qs (k:Nat)=false/\x=k:=by
 unfold CV;rw[G3];constructor
 ·rintro⟨k,h1,h2,h3⟩;exact⟨k,h1,by simpa using h2,h3⟩
 ·rintro⟨k,h1,h2,h3⟩;exact⟨k,h1,by simpa using h2,h3⟩
theorem Bh (qs:List P3) (n:Nat):Bo (CV qs n):=DG _ _
theorem Sh (t:Nat):JN (CV [] t) (t:Nat)=CV [] (t+1):=by
 refine Dl (Hb (Bh _ _) _) (Bh _ _) (fun x=>?_);rw[Mk (Bh _ _),Em,Em];constructor
 ·rintro(rfl|⟨k,h1,h2,h3⟩)
  ·exact⟨t,by omega,rfl,rfl⟩
  ·exact⟨k,by omega,h2,h3⟩
 ·rintro⟨k,h1,h2,h3⟩;by_cases e:k=t
  ·exact .inl (by rw[h3,e])
  ·exact .inr ⟨k,by omega,h2,h3⟩
theorem Ed (q:P3) (f:Int):Aw [q] f=decide (q.fr=f):=by
 unfold Aw;simp
theorem TK (qs:List P3) (n:Nat) (q:P3):L9 (CV qs n) q.fr=CV (qs++[q]) n:=by
 refine Dl (Pc (Bh _ _) _) (Bh _ _) (fun x=>?_);rw[UJ (Bh _ _),Em,Em];constructor
 ·rintro⟨⟨k,h1,h2,h3⟩,h4⟩;refine⟨k,h1,?_,h3⟩;rw[C3,h2,Ed,Bool.false_or];exact decide_eq_false (fun e=>h4 (by rw[h3,e]))
 ·rintro⟨k,h1,h2,h3⟩;rw[C3,Ed,Bool.or_eq_false_iff] at h2;exact⟨⟨k,h1,h2.1,h3⟩,fun e=>of_decide_eq_false h2.2 (by rw[<- e,h3])⟩
theorem Ny (qs:List P3) (n:Nat):(CV qs n).length<=n:=by
 unfold CV BX;rw[List.length_map];exact Nat.le_trans (List.length_filter_le _ _) (by rw[List.length_range];omega)
def DR (gone:List P3) (n:Nat):List Int:=BX (fun f=>Aw gone (f:Nat)) n
theorem Md (qs:List P3) (n:Nat):(DR qs n).length<=n:=by
 unfold DR BX;rw[List.length_map];exact Nat.le_trans (List.length_filter_le _ _) (by rw[List.length_range];omega)
theorem Fc (qs:List P3) (n:Nat):Bo (DR qs n):=DG _ _
theorem VA (qs:List P3) (n:Nat) (q:P3) (h0:0<=q.fr) (h1:q.fr<n):JN (DR qs n) q.fr=DR (qs++[q]) n:=by
 refine Dl (Hb (Fc _ _) _) (Fc _ _) (fun x=>?_);rw[Mk (Fc _ _)];unfold DR;rw[G3,G3];constructor
 ·rintro(rfl|⟨k,h2,h3,h4⟩)
  ·refine⟨q.fr.toNat,by omega,?_,by omega⟩;rw[C3,Ed];(have:q.fr=((q.fr.toNat:Nat):Int):=by omega);rw[decide_eq_true this,Bool.or_true]
  ·exact⟨k,h2,by rw[C3,h3,Bool.true_or],h4⟩
 ·rintro⟨k,h2,h3,h4⟩;rw[C3,Ed,Bool.or_eq_true] at h3;rcases h3 with h3|h3
  ·exact .inr ⟨k,h2,h3,h4⟩
  ·exact .inl (by rw[h4,of_decide_eq_true h3])
theorem TC (qs:List P3) (n:Nat) (lv pg:Int) (h:Ew qs<n):CV qs n=((Ew qs:Nat):Int) :: CV (qs++[⟨(Ew qs:Nat),lv,pg⟩]) n:=by
 obtain⟨_,s1,s2⟩:=FN qs;refine Dl (Bh _ _) (List.pairwise_cons.2 ⟨fun x hx=>?_,Bh _ _⟩) (fun x=>?_)
 ·obtain⟨k,h1,h2,h3⟩:=(Em _ _ _).1 hx;rw[C3,Ed,Bool.or_eq_false_iff] at h2;have h4:¬((Ew qs:Nat):Int)=(k:Nat):=of_decide_eq_false h2.2;have h5:¬k<Ew qs:=fun hk=>by rw[s1 k hk] at h2;cases h2.1
  omega
 ·rw[List.mem_cons,Em,Em];constructor
  ·rintro⟨k,h1,h2,h3⟩;by_cases e:k=Ew qs
   ·exact .inl (by rw[h3,e])
   ·refine .inr ⟨k,h1,?_,h3⟩;rw[C3,h2,Ed,Bool.false_or];exact decide_eq_false (fun e2=>e (by have:((Ew qs:Nat):Int)=(k:Nat):=e2;omega))
  ·rintro(e|⟨k,h1,h2,h3⟩)
   ·exact⟨Ew qs,h,s2,e⟩
   ·rw[C3,Bool.or_eq_false_iff] at h2;exact⟨k,h1,h2.1,h3⟩
theorem Tt (kept:List P3) (q:P3):BG (kept++[q]) []=BG kept []++[⟨q.lv,q.pg,q.fr,true⟩]:=by unfold BG;simp
theorem TV (kept fs:List P3) (q:P3):BG kept (fs++[q])=BG kept fs++[⟨q.lv,q.pg,q.fr,false⟩]:=by unfold BG;simp
theorem Qp {kept fs:List P3} {lv pg:Int} (h:∀q∈kept++fs,¬(q.lv=lv/\q.pg=pg)):F2 (BG kept fs) lv pg=none:=by
 rw[IF];rw[List.find?_eq_none.2 (fun q hq=>by unfold As;rw[decide_eq_false (h q (List.mem_append_left _ hq))];decide),List.find?_eq_none.2 (fun q hq=>by unfold As;rw[decide_eq_false (h q (List.mem_append_right _ hq))];decide)];rfl
theorem O8 {ps:List P3} (hs:ps.Pairwise (fun a b=>key a<key b)) (t:Nat) (ht:t<ps.length):∀q∈ps.take t,¬(q.lv=(Ag ps t).lv/\q.pg=(Ag ps t).pg):=by
 intro q hq he;obtain⟨i,hi,rfl⟩:=List.getElem_of_mem hq;rw[List.length_take] at hi;rw[List.getElem_take] at he;have:=List.pairwise_iff_getElem.1 hs i t (by omega) ht (by omega);have e:ps[t]=Ag ps t:=by unfold Ag;rw[List.getD_eq_getElem?_getD,List.getElem?_eq_getElem ht];rfl
 unfold key at this;rw[e] at this;omega
theorem NB {H:Nat->Ht} {n:Nat} {ps:List P3} (hn:0<n) (h:BI n ps) (hw:(AA H 256).length<=n) (k:Nat) (hk:k<(AA H 256).length):∀q∈BJ (AC H ps) (AA H 256) k,¬(q.lv=((AA H 256)[k]).1/\q.pg=((AA H 256)[k]).2):=by
 intro q hq he;obtain⟨j,hj,hj2,h1,h2,_⟩:=DO hn h hw k (by omega) q hq;have:=List.pairwise_iff_getElem.1 (GA H 256) j k hj2 hk hj;unfold Il at this;have e1:((AA H 256)[j]).1=((AA H 256)[k]).1:=by have:=he.1;omega
 have e2:((AA H 256)[j]).2=((AA H 256)[k]).2:=by have:=he.2;omega
 omega
theorem Lv {H:Nat->Ht} {n:Nat} {ps:List P3} (hn:0<n) (h:BI n ps) (hw:(AA H 256).length<=n) (k:Nat) (hk:k<(AA H 256).length):(F2 (BG (AC H ps) (BJ (AC H ps) (AA H 256) k)) ((AA H 256)[k]).1 ((AA H 256)[k]).2).isSome=!decide (AH (AC H ps) ((AA H 256)[k]).1 ((AA H 256)[k]).2<0):=by
 by_cases hf:AH (AC H ps) ((AA H 256)[k]).1 ((AA H 256)[k]).2<0
 ·rw[decide_eq_true hf,Qp]
  ·rfl
  ·intro q hq he;rcases List.mem_append.1 hq with hq|hq
   ·have hx:=EZ (DN H h) hq;rw[he.1,he.2] at hx;have:=(h.fr (by omega) (BE.1 hq).1).1;omega
   ·exact NB hn h hw k hk q hq he
 ·rw[decide_eq_false hf,QR (by omega)];rfl
theorem Ra {H:Nat->Ht} {n:Nat} {ps:List P3} (hn:0<n) (h:BI n ps) (hw:(AA H 256).length<=n) (k:Nat) (hk:k<(AA H 256).length) (hf:AH (AC H ps) ((AA H 256)[k]).1 ((AA H 256)[k]).2<0):F2 (BG (AC H ps) (BJ (AC H ps) (AA H 256) k)) ((AA H 256)[k]).1 ((AA H 256)[k]).2=none:=by
 have:=Lv hn h hw k hk;rw[decide_eq_true hf] at this;simpa using this
theorem CU.tch {w w':World} {B:Nat} {m:List HE} {S:Nat->Prop} (h:CU w B m) (hg:Aj S w w') (hn:¬S B):CU w' B m:=h.of_block (hg.block B h.lt hn)
theorem Bw.tch {w w':World} {g:Nat} {H:Nat->Ht} {S:Nat->Prop} (h:Bw w g H) (hg:Aj S w w') (hn:¬S g):Bw w' g H:=h.of_block hg.size (hg.block g h.lt hn)
theorem At.tch {w w':World} {g:Nat} {zs:List Int} {S:Nat->Prop} (h:At w g zs) (hg:Aj S w w') (hn:¬S g):At w' g zs:=h.of_block (hg.block g h.lt hn)
theorem IS.tch {w w':World} {gp gz cz gl B:Nat} {zs:List Int} {H:Nat->Ht} {m:List HE} {S:Nat->Prop} (h:IS w gp gz cz gl B zs H m) (hg:Aj S w w') (h1:¬S gp) (h2:¬S gz) (h3:¬S gl) (h4:¬S B):IS w' gp gz cz gl B zs H m :=
 ⟨Nat.lt_of_lt_of_le h.lt hg.size,(hg.cell (p:=⟨gp,0,none⟩) h.lt h1).trans h.c0,(hg.cell (p:=⟨gp,1,none⟩) h.lt h1).trans h.c1,(hg.cell (p:=⟨gp,2,none⟩) h.lt h1).trans h.c2,h.words.tch hg h2,h.lay.tch hg h3,h.map.tch hg h4⟩
structure SF (w0:World) (gp gz gl M:Nat):Prop where
 p:gp<w0.heap.size
 z:gz<w0.heap.size
 l:gl<w0.heap.size
 m:M<w0.heap.size
 zp:gz≠gp
 lp:gl≠gp
 mp:M≠gp
 zm:gz≠M
 lm:gl≠M
structure SS (w0 w:World) (gp gz cz gl M:Nat) (zs:List Int) (H:Nat->Ht) (m:List HE) (aR:Option Addr) (cR:Nat) (rt:List Int) (aC:Option Addr) (cC:Nat) (cr:List P3):Prop where
 tch:Aj (fun k=>k=gp\/k=M) w0 w
 pst:IS w gp gz cz gl M zs H m
 ret:BH w gp 4 (w0.heap.size+1) aR cR rt
 c3:w.cell? ⟨gp,3,none⟩=some (.slice aC cr.length cC)
 f3:w.frozen? ⟨gp,3,none⟩=false
 crow:A6 FA w (w0.heap.size+1) (.slice aC cr.length cC) cr
 dif:∀k,oB aR=some k->oB aC≠some k
theorem SS.ownR {w0 w:World} {gp gz cz gl M cR cC:Nat} {zs:List Int} {H:Nat->Ht} {m:List HE} {aR aC:Option Addr} {rt:List Int} {cr:List P3} (h:SS w0 w gp gz cz gl M zs H m aR cR rt aC cC cr):∀k,oB aR=some k->w0.heap.size+1<=k/\k<w.heap.size:=fun k hk=>h.ret.row.own k (by rw[CC];exact hk)
theorem SS.ownC {w0 w:World} {gp gz cz gl M cR cC:Nat} {zs:List Int} {H:Nat->Ht} {m:List HE} {aR aC:Option Addr} {rt:List Int} {cr:List P3} (h:SS w0 w gp gz cz gl M zs H m aR cR rt aC cC cr):∀k,oB aC=some k->w0.heap.size+1<=k/\k<w.heap.size:=fun k hk=>h.crow.own k (by rw[CC];exact hk)
theorem SS.elsewhere {w0 w w':World} {gp gz cz gl M cR cC:Nat} {zs:List Int} {H:Nat->Ht} {m:List HE} {aR aC:Option Addr} {rt:List Int} {cr:List P3} {S:Nat->Prop} (h:SS w0 w gp gz cz gl M zs H m aR cR rt aC cC cr) (hs:SF w0 gp gz gl M) (hg:Aj S w w') (hS:∀k,S k->w0.heap.size<=k/\oB aR≠some k/\oB aC≠some k):SS w0 w' gp gz cz gl M zs H m aR cR rt aC cC cr:=by
 have np:∀k,k<w0.heap.size->¬S k:=fun k hk hh=>by have:=(hS k hh).1;omega
 exact⟨h.tch.then hg (fun k hk hh=>absurd hh (np k hk)),h.pst.tch hg (np _ hs.p) (np _ hs.z) (np _ hs.l) (np _ hs.m),h.ret.tch hg (np _ hs.p) (fun k hk hh=>(hS k hh).2.1 hk),(hg.cell (p:=⟨gp,3,none⟩) h.pst.lt (np _ hs.p)).trans h.c3,(hg.frozen (p:=⟨gp,3,none⟩) h.pst.lt (np _ hs.p)).trans h.f3,h.crow.tch hg (fun k hk hh=>(hS k hh).2.2 hk),h.dif⟩
theorem SS.below {w0 w w':World} {gp gz cz gl M cR cC:Nat} {zs:List Int} {H:Nat->Ht} {m:List HE} {aR aC:Option Addr} {rt:List Int} {cr:List P3} (h:SS w0 w gp gz cz gl M zs H m aR cR rt aC cC cr) (hs:SF w0 gp gz gl M) (hg:Below w.heap.size w w'):SS w0 w' gp gz cz gl M zs H m aR cR rt aC cC cr :=
 h.elsewhere hs (Aj.of_below (S:=fun _=>False) hg) (fun k hh=>hh.elim)
theorem SS.put {w0 w w':World} {gp gz cz gl M cR cC:Nat} {zs:List Int} {H:Nat->Ht} {m m':List HE} {aR aC:Option Addr} {rt:List Int} {cr:List P3} (h:SS w0 w gp gz cz gl M zs H m aR cR rt aC cC cr) (hs:SF w0 gp gz gl M) (hg:w.grownBy w' (some M)) (hm:CU w' M m'):SS w0 w' gp gz cz gl M zs H m' aR cR rt aC cC cr:=by
 have ht:Aj (fun k=>k=M) w w':=Aj.of_grown hg (fun k e=>by simpa using e.symm);have nr:∀k,oB aR=some k->¬k=M:=fun k hk e=>by have:=(h.ownR k hk).1;have:=hs.m;omega
 have nc:∀k,oB aC=some k->¬k=M:=fun k hk e=>by have:=(h.ownC k hk).1;have:=hs.m;omega
 exact⟨h.tch.then ht (fun k hk hh=>.inr hh),⟨Nat.lt_of_lt_of_le h.pst.lt ht.size,(ht.cell (p:=⟨gp,0,none⟩) h.pst.lt (fun e=>hs.mp e.symm)).trans h.pst.c0,(ht.cell (p:=⟨gp,1,none⟩) h.pst.lt (fun e=>hs.mp e.symm)).trans h.pst.c1,(ht.cell (p:=⟨gp,2,none⟩) h.pst.lt (fun e=>hs.mp e.symm)).trans h.pst.c2,h.pst.words.tch ht hs.zm,h.pst.lay.tch ht hs.lm,hm⟩,h.ret.tch ht (fun e=>hs.mp e.symm) nr,(ht.cell (p:=⟨gp,3,none⟩) h.pst.lt (fun e=>hs.mp e.symm)).trans h.c3,(ht.frozen (p:=⟨gp,3,none⟩) h.pst.lt (fun e=>hs.mp e.symm)).trans h.f3,h.crow.tch ht nc,h.dif⟩
theorem SS.back {w0 w w':World} {gp gz cz gl M cR cR' cC:Nat} {zs:List Int} {H:Nat->Ht} {m:List HE} {aR aR' aC:Option Addr} {rt rt':List Int} {cr:List P3} (h:SS w0 w gp gz cz gl M zs H m aR cR rt aC cC cr) (hs:SF w0 gp gz gl M) (hg:BQ w w' gp 4 (w0.heap.size+1) aR aR' cR' rt'):SS w0 w' gp gz cz gl M zs H m aR' cR' rt' aC cC cr:=by
 have nS:∀k,k<w0.heap.size->k≠gp->¬(k=gp\/oB aR=some k):=fun k hk hn hh=>by
  rcases hh with e|e
  ·exact hn e
  ·have:=(h.ownR k e).1;omega
 have nc:∀k,oB aC=some k->¬(k=gp\/oB aR=some k):=fun k hk hh=>by
  rcases hh with e|e
  ·have:=(h.ownC k hk).1;have:=hs.p;omega
  ·exact h.dif k e hk
 refine⟨h.tch.then hg.tch (fun k hk hh=>?_),⟨hg.set.lt,(hg.oth 0 (by decide)).trans h.pst.c0,(hg.oth 1 (by decide)).trans h.pst.c1,(hg.oth 2 (by decide)).trans h.pst.c2,h.pst.words.tch hg.tch (nS _ hs.z hs.zp),h.pst.lay.tch hg.tch (nS _ hs.l hs.lp),h.pst.map.tch hg.tch (nS _ hs.m hs.mp)⟩,hg.set,(hg.oth 3 (by decide)).trans h.c3,(hg.ofz 3).trans h.f3,h.crow.tch hg.tch nc,fun k hk hc=>?_⟩
 ·rcases hh with e|e
  ·exact .inl e
  ·have:=(h.ownR k e).1;omega
 ·rcases hg.own with e|⟨j,e,hj⟩
  ·exact h.dif k (by rw[<- e];exact hk) hc
  ·(have:j=k:=by rw[e] at hk;simpa using hk);have:=(h.ownC k hc).2;omega
theorem SS.make {w0 w wa w1:World} {gp gz cz gl M cR cC cC':Nat} {zs:List Int} {H:Nat->Ht} {m:List HE} {aR aC aC':Option Addr} {rt:List Int} {cr cr':List P3} (h:SS w0 w gp gz cz gl M zs H m aR cR rt aC cC cr) (hs:SF w0 gp gz gl M) (hb:Below w.heap.size w wa) (hr:A6 FA w1 (w0.heap.size+1) (.slice aC' cr'.length cC') cr') (hg:wa.grownBy w1 (oB aC)) (ho:oB aC'=oB aC\/∃j,oB aC'=some j/\w.heap.size<=j):SS w0 (w1.setCell ⟨gp,3,none⟩ (.slice aC' cr'.length cC')) gp gz cz gl M zs H m aR cR rt aC' cC' cr':=by
 have hT:Aj (fun j=>oB aC=some j) w w1:=⟨hg.os.trans hb.os,hg.tape.trans hb.tape,hg.output.trans hb.output,Nat.le_trans hb.size hg.size,fun i hi hn=>(hg.block i (Nat.lt_of_lt_of_le hi hb.size) (fun e=>hn e.symm)).trans (hb.block i hi)⟩;have hw0:=h.tch.size;have nS:∀k,k<w0.heap.size->¬oB aC=some k:=fun k hk e=>by have:=(h.ownC k e).1;omega
 have hP1:IS w1 gp gz cz gl M zs H m:=h.pst.tch hT (nS _ hs.p) (nS _ hs.z) (nS _ hs.l) (nS _ hs.m);have hR1:BH w1 gp 4 (w0.heap.size+1) aR cR rt:=h.ret.tch hT (nS _ hs.p) (fun k hk hh=>h.dif k hk hh);have h31:w1.cell? ⟨gp,3,none⟩=some (.slice aC cr.length cC):=(hT.cell (p:=⟨gp,3,none⟩) h.pst.lt (nS _ hs.p)).trans h.c3;have hf1:w1.frozen? ⟨gp,3,none⟩=false:=(hT.frozen (p:=⟨gp,3,none⟩) h.pst.lt (nS _ hs.p)).trans h.f3;have hS:Aj (fun j=>j=gp) w1 (w1.setCell ⟨gp,3,none⟩ (.slice aC' cr'.length cC')):=(Aj.refl w1).set _ _ rfl;have oth:∀i,i≠3->(w1.setCell ⟨gp,3,none⟩ (.slice aC' cr'.length cC')).cell? ⟨gp,i,none⟩=w1.cell? ⟨gp,i,none⟩:=fun i hi=>World.cell?_setCell_other _ _ _ _ (fun e=>hi (by simp only[Addr.mk.injEq,true_and,and_true] at e;exact e.symm))
 have np:∀k,oB aR=some k->¬k=gp:=fun k hk e=>by have:=(h.ownR k hk).1;have:=hs.p;omega
 have nc':∀k,oB aC'=some k->¬k=gp:=fun k hk e=>by
  rcases ho with e2|⟨j,e2,hj⟩
  ·have:=(h.ownC k (by rw[<- e2];exact hk)).1;have:=hs.p;omega
  ·(have:j=k:=by rw[e2] at hk;simpa using hk);have:=hs.p;omega
 refine⟨(h.tch.then hT (fun k hk hh=>absurd hh (nS k hk))).then hS (fun k hk hh=>.inl hh),⟨by simpa using hP1.lt,(oth 0 (by decide)).trans hP1.c0,(oth 1 (by decide)).trans hP1.c1,(oth 2 (by decide)).trans hP1.c2,hP1.words.tch hS hs.zp,hP1.lay.tch hS hs.lp,hP1.map.tch hS hs.mp⟩,⟨by simpa using hR1.lt,(oth 4 (by decide)).trans hR1.cell,by simpa using hR1.fz,hR1.row.tch hS np,hR1.off,by simpa using hR1.base⟩,World.cell?_setCell_same _ _ _ h31,by simpa using hf1,hr.tch hS nc',fun k hk hc=>?_⟩;rcases ho with e2|⟨j,e2,hj⟩
 ·exact h.dif k hk (by rw[<- e2];exact hc)
 ·have:j=k:=by rw[e2] at hc;simpa using hc
  have:=(h.ownR k hk).2;omega
end Go.Proofs.YtnmhkgmmpkjjeaaGreat
