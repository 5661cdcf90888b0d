import Derived.Test.YtnmhkgmmpkjjeaaG15
import Derived.Test.YtnmhkgmmpkjjeaaG30
namespace Go.Proofs.Ytnmhkgmmpkjjeaa
open Go.ChangeShapes Go.WideShapes Go.ChangeAt Go.RowKit
set_option linter.unusedVariables false
attribute [local go_sem ↓] Go.wp_at_zero Go.wp_at_succ
theorem run_clear_many {P:Program} (w:World) (t e ty:TypeId) (z:Value) (m:Nat) (hm:0 < m) (zs:List Value) (ht:P.underlying t=some (.slice e)) (hv:∀ w,(zeroValue e).run P w=.ok z w) (hz:(Builtin.zeroCells z.cells m).toList=zs) (h1:∀ v ∈ zs,v.oneCell'=true) (b o c:Nat)
  (hc:∀ j,j < zs.length->(w.cell? ⟨b,o+j,none⟩).isSome=true) (hf:∀ j,j < zs.length->w.frozen? ⟨b,o+j,none⟩=false) :
  (Builtin.clear_ #[t] ty #[.slice (some ⟨b,o,none⟩) m c]).run P w=.ok (.tuple #[]) (w.setCells b o zs):=by
 obtain ⟨m,rfl⟩:∃ k,m=k+1:=⟨m - 1,by omega⟩
 have hst:=run_storeCells_cells (P:=P) b o zs 0 w (by simpa using hc) (by simpa using hf) h1
 simp only [Nat.add_zero] at hst
 simp [Builtin.clear_,run_underlying ht,hv,hz,hst]
def zero5 (m:Nat):List Value:=(Builtin.zeroCells #[.int .i64 0,.int .i64 0,.bool false,.int .i64 0,.int .i64 0] m).toList
theorem zero5_length (m:Nat):(zero5 m).length=m * 5:=by simp [zero5,Builtin.zeroCells]
theorem zero5_one (m:Nat):∀ v ∈ zero5 m,v.oneCell'=true:=by
 intro v hv
 unfold zero5 Builtin.zeroCells at hv
 simp only [Array.toList_map,List.mem_map] at hv
 obtain ⟨i,_,rfl⟩:=hv
 have hs:(#[.int .i64 0,.int .i64 0,.bool false,.int .i64 0,.int .i64 0]:Array Value).size=5:=rfl
 rw [hs]
 rcases (show i % 5=0\/i % 5=1\/i % 5=2\/i % 5=3\/i % 5=4 by omega) with e | e | e | e | e <;> (rw [e]; rfl)
theorem ERow.full {α:Type} {E:Elt α} {w:World} {b g cap:Nat} {xs:List α} (h:ERow E w b (.slice (some ⟨g,0,none⟩) xs.length cap) xs) :
  b<=g/\xs.length<=cap/\cap<=maxLen/\∃ f,w.rowIs g E.T (cap * E.sz) f/\∀ i,i < xs.length->∀ j,j < E.sz->f (i * E.sz+j)=eCell E xs i j:=by
 rcases h.2 with ⟨e,_⟩ | ⟨g',cap',cur,e,hb,hg,h1,h2,h3,h4⟩
 ·cases e
 ·simp only [Value.slice.injEq,Option.some.injEq,Addr.mk.injEq] at e
  obtain ⟨⟨rfl,_⟩,_,rfl⟩:=e
  refine ⟨hb,h1,h2,fun i=>cur.getD i (.bool false),⟨cur,hg,h3,fun i hi=>?_⟩,fun i hi j hj=>?_⟩
  ·rw [Array.getElem?_eq_getElem (by rw [h3]; exact hi)]
   simp [Array.getD_eq_getD_getElem?,Array.getElem?_eq_getElem (show i < cur.size by rw [h3]; exact hi)]
  ·have hu:=ecells_at E xs i hi j hj
   rw [<- h4,List.getElem?_take,if_pos (cell_lt hi hj)] at hu
   simp only [Array.getElem?_toList] at hu
   simp [Array.getD_eq_getD_getElem?,hu,eCell]
theorem eAt_snoc_lt {α:Type} (E:Elt α) (l:List α) (x:α) (t:Nat) (h:t < l.length):eAt E (l ++ [x]) t=eAt E l t:=by
 unfold eAt
 rw [List.getD_eq_getElem?_getD,List.getD_eq_getElem?_getD,List.getElem?_append_left h]
theorem eAt_snoc_end {α:Type} (E:Elt α) (l:List α) (x:α):eAt E (l ++ [x]) l.length=x:=by
 unfold eAt
 rw [List.getD_eq_getElem?_getD,List.getElem?_append_right (Nat.le_refl _)]
 simp
theorem take_snoc {α:Type} (E:Elt α) (xs:List α) (k:Nat) (hk:k < xs.length):xs.take (k+1)=xs.take k ++ [eAt E xs k]:=by
 rw [List.take_add_one,List.getElem?_eq_getElem hk]
 unfold eAt
 rw [List.getD_eq_getElem?_getD,List.getElem?_eq_getElem hk]
 rfl
def keepT (xs:List TlbE) (J:Nat):List TlbE:=(xs.take J).filter (fun e=>!e.doom)
theorem keepT_succ (xs:List TlbE) (J:Nat) (h:J < xs.length):keepT xs (J+1)=if (eAt eTE xs J).doom then keepT xs J else keepT xs J ++ [eAt eTE xs J]:=by
 unfold keepT
 rw [take_snoc eTE xs J h,List.filter_append]
 cases hd:(eAt eTE xs J).doom <;> simp [hd]
theorem keepT_all (xs:List TlbE):∀ i,i<=xs.length->(∀ t,t < i->(eAt eTE xs t).doom=false)->keepT xs i=xs.take i
 | 0,_,_=>by simp [keepT]
 | i+1,h,hd=>by rw [keepT_succ xs i h,hd i (by omega),keepT_all xs i (by omega) (fun t ht=>hd t (by omega)),take_snoc eTE xs i h]; rfl
theorem keepT_le (xs:List TlbE) (J:Nat):(keepT xs J).length<=J:=by
 unfold keepT
 exact Nat.le_trans (List.length_filter_le _ _) (by rw [List.length_take]; omega)
theorem keepT_end (xs:List TlbE):keepT xs xs.length=xs.filter (fun e=>!e.doom):=by unfold keepT; rw [List.take_length]
theorem cloT_any (P S O R:Int) (D:Bool) (w:World) :
  Calls Try.prog 232 #[.agg #[.int .i64 P,.int .i64 S,.bool D,.int .i64 O,.int .i64 R]] w fun e w'=>e=.returned (.bool D)/\Below w.heap.size w w':=by
 go_enter Try.func232,Try.ntmps232
 go_wp2_with fail
 go_ret
 exact ⟨rfl,(Below.refl _ _).alloc (Nat.le_refl _) _⟩
theorem elT {xs:List TlbE} {f:Nat->Value} {k:Nat} (hf:∀ j,j < 5->f (k * 5+j)=eCell eTE xs k j):∃ P S O R,f (k * 5)=.int .i64 P/\f (k * 5+1)=.int .i64 S/\f (k * 5+2)=.bool (eAt eTE xs k).doom/\f (k * 5+3)=.int .i64 O/\f (k * 5+4)=.int .i64 R/\eTE.enc (eAt eTE xs k)=[.int .i64 P,.int .i64 S,.bool (eAt eTE xs k).doom,.int .i64 O,.int .i64 R] :=
 ⟨_,_,_,_,hf 0 (by omega),hf 1 (by omega),hf 2 (by omega),hf 3 (by omega),hf 4 (by omega),rfl⟩
set_option maxHeartbeats 1000000 in
theorem idxT_any (a:Option Addr) (c B:Nat) (xs:List TlbE) (w:World) (hn:xs.length<=256) (hv:ERow eTE w B (.slice a xs.length c) xs) :
  Calls Try.prog 235 #[.slice a xs.length c,.func (.func 232) #[] #[]] w fun e w'=>(∃ r:Int,e=.returned (.int .i64 r)/\((r=-1/\∀ t,t < xs.length->(eAt eTE xs t).doom=false)\/∃ i:Nat,r=i/\i < xs.length/\(eAt eTE xs i).doom=true/\∀ t,t < i->(eAt eTE xs t).doom=false))/\Below w.heap.size w w':=by
 have HF:Hid (0 < xs.length->∃ g f,a=some ⟨g,0,none⟩/\g < w.heap.size/\(∀ wX:World,Below w.heap.size w wX->wX.rowIs g 168 (c * 5) f)/\xs.length<=c/\∀ i,i < xs.length->∀ j,j < 5->f (i * 5+j)=eCell eTE xs i j):=fun h0=>by
  obtain ⟨g,h1,_⟩:=hv.cellsB
  obtain ⟨rfl,hl,_⟩:=h1 h0
  obtain ⟨_,hc,_,f,hr,hf⟩:=hv.full
  exact ⟨g,f,rfl,hl,fun wX hX=>hr.of_block (hX.block g hl),hc,hf⟩
 clear hv
 go_enter Try.func235,Try.ntmps235
 go_wp2_with fail
 go_loopw [8] (fun i wr=>∃ k:Nat,k<=xs.length/\i=.int .i64 k/\Hid (∀ t,t < k->(eAt eTE xs t).doom=false)/\Below w.heap.size w wr) (fun i _=>xs.length - (intOf i).toNat)
 case atStart=>exact ⟨0,Nat.zero_le _,rfl,fun j hj=>absurd hj (by omega),Below.refl _ _⟩
 case round =>
  obtain ⟨k,hk,rfl,hall,hb⟩:=hrel
  by_cases hlt:k < xs.length
  ·obtain ⟨g,f,rfl,hgl,hr,hc,hf⟩:=HF.out (by omega)
   have hr1:=hr wr hb
   obtain ⟨P,S,O,R,e0,e1,e2,e3,e4,_⟩:=elT (hf k hlt)
   have c0:=hr1.cell (i:=k * 5) (by omega)
   have c1:=hr1.cell (i:=k * 5+1) (by omega)
   have c2:=hr1.cell (i:=k * 5+2) (by omega)
   have c3:=hr1.cell (i:=k * 5+3) (by omega)
   have c4:=hr1.cell (i:=k * 5+4) (by omega)
   rw [e0] at c0
   rw [e1] at c1
   rw [e2] at c2
   rw [e3] at c3
   rw [e4] at c4
   have L1:(0:Int)<=(k:Int):=by omega
   have L2:(k:Int) < (xs.length:Int):=by omega
   have HB:Hid (Below w.heap.size w wr):=hb
   clear hr hr1 hf e0 e1 e2 e3 e4 hb
   cases hD:(eAt eTE xs k).doom <;> rw [hD] at c2
   ·have hcl:=cloT_any P S O R false wr
    have HD:Hid ((eAt eTE xs k).doom=false):=hD
    clear hD
    go_wp2_with (go_at_call 232; refine hcl.mono ?_; rintro e w1 ⟨rfl,hb1⟩)
    go_roundw
    case rel =>
     refine ⟨k+1,by omega,by go_num,fun t ht=>?_,HB.out.trans (hb1.mono HB.out.size)⟩
     by_cases e:t=k
     ·rw [e]; exact HD.out
     ·exact hall.out t (by omega)
    case measure=>simp [intOf]; omega
   ·have hcl:=cloT_any P S O R true wr
    have HD:Hid ((eAt eTE xs k).doom=true):=hD
    clear hD
    go_wp2_with (go_at_call 232; refine hcl.mono ?_; rintro e w1 ⟨rfl,hb1⟩)
    go_ret
    exact ⟨⟨_,rfl,.inr ⟨k,rfl,hlt,HD.out,hall.out⟩⟩,HB.out.trans (hb1.mono HB.out.size)⟩
  ·go_wp2_with fail
   go_ret
   exact ⟨⟨_,rfl,.inl ⟨rfl,fun t ht=>hall.out t (by omega)⟩⟩,hb⟩
set_option maxRecDepth 100000 in
set_option maxHeartbeats 4000000 in
theorem delFT_any (a:Option Addr) (c B:Nat) (xs:List TlbE) (w:World) (hn:xs.length<=256) (hv:ERow eTE w B (.slice a xs.length c) xs) :
  Calls Try.prog 231 #[.slice a xs.length c,.func (.func 232) #[] #[]] w fun e w'=>e=.returned (.slice a (xs.filter (fun e=>!e.doom)).length c)/\ERow eTE w' B (.slice a (xs.filter (fun e=>!e.doom)).length c) (xs.filter (fun e=>!e.doom))/\w.grownBy w' (oOf a):=by
 have hid:=idxT_any a c B xs w hn hv
 have HV:Hid (ERow eTE w B (.slice a xs.length c) xs):=hv
 obtain ⟨ys,hys⟩:∃ ys,ys=xs.filter (fun e=>!e.doom):=⟨_,rfl⟩
 rw [<- hys]
 have HYS:Hid (ys=_):=hys
 clear hv hys
 go_enter Try.func231,Try.ntmps231
 go_wp2_with fail
 refine hid.mono ?_
 rintro e w1 ⟨⟨r,rfl,hr⟩,hb1⟩
 rcases hr with ⟨rfl,hno⟩ | ⟨i,rfl,hi,hdi,hbef⟩
 ·have hyx:ys=xs:=by rw [HYS.out,<- keepT_end,keepT_all xs xs.length (Nat.le_refl _) hno,List.take_length]
  subst hyx
  clear hid hno
  go_wp2_with fail
  go_ret
  exact ⟨rfl,HV.out.below hb1,⟨hb1.os,hb1.tape,hb1.output,hb1.size,fun k hk _=>hb1.block k hk⟩⟩
 ·obtain ⟨g,hg1,_⟩:=HV.out.cellsB
  obtain ⟨rfl,hgl,hBg,hlc⟩:=hg1 (by omega)
  obtain ⟨_,_,hmx,f0,hr0,hf0⟩:=HV.out.full
  have hr1:w1.rowIs g 168 (c * 5) f0:=hr0.of_block (hb1.block g hgl)
  have hf1:∀ t,t < xs.length->∀ j,j < 5->f0 (t * 5+j)=eCell eTE xs t j:=hf0
  have hk0:keepT xs (i+1)=xs.take i:=by rw [keepT_succ xs i hi,hdi,keepT_all xs i (by omega) hbef]; rfl
  have HR1:Hid (w1.rowIs g 168 (c * 5) f0):=hr1
  have HF1:Hid _:=hf1
  have HK0:Hid (keepT xs (i+1)=xs.take i):=hk0
  have HB1:Hid (Below w.heap.size w w1):=hb1
  have di:((i:Int) == -1)=false:=by simp
  have L0:(0:Int)<=(i:Int):=by omega
  clear hid hr0 hf0 hr1 hf1 hk0 hb1 hg1
  go_wp2_with fail
  go_loopw [5,6] (fun s5 s6 wr=>∃ (I J:Nat),s5=.int .i64 I/\s6=.int .i64 J/\J<=xs.length/\I < J/\I=(keepT xs J).length/\(∃ f,wr.rowIs g 168 (c * 5) f/\Hid ((∀ t,t < I->∀ j,j < 5->f (t * 5+j)=eCell eTE (keepT xs J) t j)/\(∀ t,J<=t->t < xs.length->∀ j,j < 5->f (t * 5+j)=eCell eTE xs t j)))/\w1.grownBy wr (some g)) (fun s5 s6 _=>xs.length - (intOf s6).toNat)
  case atStart =>
   refine ⟨i,i+1,rfl,by go_num,by omega,by omega,?_,⟨f0,HR1.out,fun t ht j hj=>?_,fun t h1 h2 j hj=>HF1.out t h2 j hj⟩,World.grownBy.refl _ _⟩
   ·rw [HK0.out,List.length_take]; omega
   ·rw [HF1.out t (by omega) j hj,HK0.out]
    unfold eCell eAt
    rw [List.getD_eq_getElem?_getD,List.getD_eq_getElem?_getD,List.getElem?_take,if_pos ht]
  case round =>
   obtain ⟨I,J,rfl,rfl,hJn,hIJ,hI,⟨f,hrow,hf⟩,hgr⟩:=hrel
   have hgw:g < wr.heap.size:=hrow.lt
   by_cases hlt:J < xs.length
   ·obtain ⟨P,S,O,R,e0,e1,e2,e3,e4,hec⟩:=elT (hf.out.2 J (Nat.le_refl _) hlt)
    have c0:=hrow.cell (i:=J * 5) (by omega)
    have c1:=hrow.cell (i:=J * 5+1) (by omega)
    have c2:=hrow.cell (i:=J * 5+2) (by omega)
    have c3:=hrow.cell (i:=J * 5+3) (by omega)
    have c4:=hrow.cell (i:=J * 5+4) (by omega)
    rw [e0] at c0
    rw [e1] at c1
    rw [e2] at c2
    rw [e3] at c3
    rw [e4] at c4
    have hks:=keepT_succ xs J hlt
    have M1:(0:Int)<=(J:Int):=by omega
    have M2:(J:Int) < (xs.length:Int):=by omega
    have M3:(0:Int)<=(I:Int):=by omega
    have M4:(I:Int) < (xs.length:Int):=by omega
    have HROW:Hid (wr.rowIs g 168 (c * 5) f):=hrow
    have HGR:Hid (w1.grownBy wr (some g)):=hgr
    have HI:Hid (I=_):=hI
    clear e0 e1 e2 e3 e4 hrow hgr hI
    cases hD:(eAt eTE xs J).doom <;> rw [hD] at c2 hks hec
    ·obtain ⟨wx,hwx⟩:∃ wx,wx=wr.alloc (.cells #[.int .i64 P,.int .i64 S,.bool false,.int .i64 O,.int .i64 R] 168):=⟨_,rfl⟩
     have hzx:wx.heap.size=wr.heap.size+1:=by rw [hwx]; simp
     have bx:Below wr.heap.size wr wx:=by rw [hwx]; exact (Below.refl _ _).alloc (Nat.le_refl _) _
     have hcl:=cloT_any P S O R false wx
     have HBX:Hid (∀ wX,Below wx.heap.size wx wX->wX.cell? ⟨wr.heap.size,0,none⟩=some (.int .i64 P)/\wX.cell? ⟨wr.heap.size,1,none⟩=some (.int .i64 S)/\wX.cell? ⟨wr.heap.size,2,none⟩=some (.bool false)/\wX.cell? ⟨wr.heap.size,3,none⟩=some (.int .i64 O)/\wX.cell? ⟨wr.heap.size,4,none⟩=some (.int .i64 R)):=fun wX hX=>by
      refine ⟨?_,?_,?_,?_,?_⟩
      iterate 5 (exact (hX.cell (by simp; omega)).trans (by rw [hwx]; simp [go_sem]))
     rw [hwx] at hcl
     have HWX:Hid (wx=_):=hwx
     have HKS:Hid (keepT xs (J+1)=keepT xs J ++ [eAt eTE xs J]):=by rw [hks]; rfl
     have HEC:Hid _:=hec
     have HBXW:Hid (Below wr.heap.size wr wx):=bx
     have HZX:Hid (wx.heap.size=_):=hzx
     clear hwx bx hD hks hec hzx
     go_wp2_with fail
     refine hcl.mono ?_
     rintro e w2 ⟨rfl,hb2'⟩
     have hb2:Below wx.heap.size wx w2:=by rw [HWX.out]; exact hb2'
     have b2:Below wr.heap.size wr w2:=HBXW.out.trans (hb2.mono HBXW.out.size)
     have hrow2:w2.rowIs g 168 (c * 5) f:=HROW.out.of_block (b2.block g hgw)
     obtain ⟨x0,x1,x2,x3,x4⟩:=HBX.out w2 hb2
     have o0:=hrow2.cell (i:=I * 5) (by omega)
     have o1:=hrow2.cell (i:=I * 5+1) (by omega)
     have o2:=hrow2.cell (i:=I * 5+2) (by omega)
     have o3:=hrow2.cell (i:=I * 5+3) (by omega)
     have o4:=hrow2.cell (i:=I * 5+4) (by omega)
     have z0:=hrow2.frozen (I * 5)
     have z1:=hrow2.frozen (I * 5+1)
     have z2:=hrow2.frozen (I * 5+2)
     have z3:=hrow2.frozen (I * 5+3)
     have z4:=hrow2.frozen (I * 5+4)
     have N0:¬ g=wr.heap.size:=by omega
     have N1:wr.heap.size < w2.heap.size:=by have:=hb2.size; have:=HZX.out; omega
     have N2:g < w2.heap.size:=by omega
     generalize f (I * 5)=v0 at o0
     generalize f (I * 5+1)=v1 at o1
     generalize f (I * 5+2)=v2 at o2
     generalize f (I * 5+3)=v3 at o3
     generalize f (I * 5+4)=v4 at o4
     have HR2:Hid (w2.rowIs g 168 (c * 5) f):=hrow2
     have HB2:Hid (Below wr.heap.size wr w2):=b2
     clear hcl hb2 hb2' b2 hrow2 c0 c1 c2 c3 c4
     go_wp2_with fail
     go_roundw
     case rel =>
      refine ⟨I+1,J+1,by go_num,by go_num,by omega,by omega,?_,⟨_,((((HR2.out.set (I * 5) _).set (I * 5+1) _).set (I * 5+2) _).set (I * 5+3) _).set (I * 5+4) _,fun t ht j hj=>?_,fun t h1 h2 j hj=>?_⟩,?_⟩
      ·rw [HKS.out,List.length_append,<- HI.out]; rfl
      ·by_cases e:t=I
       ·have hcell:eCell eTE (keepT xs (J+1)) t j=(([.int .i64 P,.int .i64 S,.bool false,.int .i64 O,.int .i64 R]:List Value)[j]?).getD (.bool false):=by
         unfold eCell
         rw [HKS.out,e,HI.out,eAt_snoc_end,HEC.out]
        rw [hcell,e]
        rcases (show j=0\/j=1\/j=2\/j=3\/j=4 by omega) with rfl | rfl | rfl | rfl | rfl <;> simp
       ·have hcell:eCell eTE (keepT xs (J+1)) t j=eCell eTE (keepT xs J) t j:=by
         unfold eCell
         rw [HKS.out,eAt_snoc_lt eTE _ _ t (by rw [<- HI.out]; omega)]
        rw [hcell,<- hf.out.1 t (by omega) j hj]
        rw [if_neg (by omega),if_neg (by omega),if_neg (by omega),if_neg (by omega),if_neg (by omega)]
      ·rw [<- hf.out.2 t (by omega) h2 j hj]
       rw [if_neg (by omega),if_neg (by omega),if_neg (by omega),if_neg (by omega),if_neg (by omega)]
      ·refine eGrown_set (eGrown_set (eGrown_set (eGrown_set (eGrown_set ?_ _ _) _ _) _ _) _ _) _ _
       exact ⟨HB2.out.os.trans HGR.out.os,HB2.out.tape.trans HGR.out.tape,HB2.out.output.trans HGR.out.output,Nat.le_trans HGR.out.size HB2.out.size,fun q hq hne=>(HB2.out.block q (Nat.lt_of_lt_of_le hq HGR.out.size)).trans (HGR.out.block q hq hne)⟩
     case measure=>simp [intOf]; omega
    ·obtain ⟨wx,hwx⟩:∃ wx,wx=wr.alloc (.cells #[.int .i64 P,.int .i64 S,.bool true,.int .i64 O,.int .i64 R] 168):=⟨_,rfl⟩
     have bx:Below wr.heap.size wr wx:=by rw [hwx]; exact (Below.refl _ _).alloc (Nat.le_refl _) _
     have hcl:=cloT_any P S O R true wx
     rw [hwx] at hcl
     have HWX:Hid (wx=_):=hwx
     have HKS:Hid (keepT xs (J+1)=keepT xs J):=by rw [hks]; rfl
     have HBXW:Hid (Below wr.heap.size wr wx):=bx
     clear hwx bx hD hks hec
     go_wp2_with fail
     refine hcl.mono ?_
     rintro e w2 ⟨rfl,hb2'⟩
     have hb2:Below wx.heap.size wx w2:=by rw [HWX.out]; exact hb2'
     have HB2:Hid (Below wr.heap.size wr w2):=HBXW.out.trans (hb2.mono HBXW.out.size)
     clear hcl hb2 hb2' c0 c1 c2 c3 c4
     go_wp2_with fail
     go_roundw
     case rel =>
      refine ⟨I,J+1,rfl,by go_num,by omega,by omega,by rw [HKS.out]; exact HI.out,⟨f,HROW.out.of_block (HB2.out.block g hgw),fun t ht j hj=>?_,fun t h1 h2 j hj=>hf.out.2 t (by omega) h2 j hj⟩,?_⟩
      ·rw [HKS.out]; exact hf.out.1 t ht j hj
      ·exact ⟨HB2.out.os.trans HGR.out.os,HB2.out.tape.trans HGR.out.tape,HB2.out.output.trans HGR.out.output,Nat.le_trans HGR.out.size HB2.out.size,fun q hq hne=>(HB2.out.block q (Nat.lt_of_lt_of_le hq HGR.out.size)).trans (HGR.out.block q hq hne)⟩
     case measure=>simp [intOf]; omega
   ·obtain rfl:J=xs.length:=by omega
    have hclr:∀ ty,(Builtin.clear_ #[132] ty #[.slice (some ⟨g,I * 5,none⟩) (xs.length - I) (c - I)]).run Try.prog wr=.ok (.tuple #[]) (wr.setCells g (I * 5) (zero5 (xs.length - I))):=fun ty =>
     run_clear_many wr 132 168 ty (.agg #[.int .i64 0,.int .i64 0,.bool false,.int .i64 0,.int .i64 0]) (xs.length - I) (by omega) (zero5 (xs.length - I)) Try.underlying132 zeroT rfl (zero5_one _) g (I * 5) (c - I)
      (fun j hj=>by
       rw [zero5_length] at hj
       rw [hrow.cell (i:=I * 5+j) (by omega)]; rfl) (fun j hj=>hrow.frozen _)
    have L1:(I:Int)<=(xs.length:Int):=by omega
    have L2:(0:Int)<=(I:Int):=by omega
    have L3:¬ c=I:=by omega
    have L4:(xs.length:Int)<=(c:Int):=by omega
    have L5:(I:Int)<=(c:Int):=by omega
    have HROW:Hid (wr.rowIs g 168 (c * 5) f):=hrow
    have HGR:Hid (w1.grownBy wr (some g)):=hgr
    have hyI:ys.length=I:=by rw [HYS.out,<- keepT_end]; exact hI.symm
    have HYI:Hid (ys.length=I):=hyI
    have HIJ:Hid (I < xs.length):=hIJ
    clear hrow hgr hI hyI
    go_wp2_with fail
    go_ret
    refine ⟨by rw [HYI.out]; rfl,?_,?_⟩
    ·rw [HYI.out]
     refine ERow.of_row (N:=c * 5) HYI.out hBg (rowIs_setCells (zero5 (xs.length - I)) (I * 5) wr f HROW.out) rfl (by omega) hmx (fun t ht j hj=>?_)
     have hj':j < 5:=hj
     have hsz:eTE.sz=5:=rfl
     rw [hsz,if_neg (by omega),hf.out.1 t ht j hj',HYS.out,<- keepT_end]
    ·have h2:=grown_two HGR.out (grown_setCells g (zero5 (xs.length - I)) (I * 5) wr)
     exact ⟨h2.os.trans HB1.out.os,h2.tape.trans HB1.out.tape,h2.output.trans HB1.out.output,Nat.le_trans HB1.out.size h2.size,fun q hq hne=>(h2.block q (Nat.lt_of_lt_of_le hq HB1.out.size) hne).trans (HB1.out.block q hq)⟩
def keepW (xs:List WcE) (J:Nat):List WcE:=(xs.take J).filter (fun e=>!e.doom)
theorem keepW_succ (xs:List WcE) (J:Nat) (h:J < xs.length):keepW xs (J+1)=if (eAt eWE xs J).doom then keepW xs J else keepW xs J ++ [eAt eWE xs J]:=by
 unfold keepW
 rw [take_snoc eWE xs J h,List.filter_append]
 cases hd:(eAt eWE xs J).doom <;> simp [hd]
theorem keepW_all (xs:List WcE):∀ i,i<=xs.length->(∀ t,t < i->(eAt eWE xs t).doom=false)->keepW xs i=xs.take i
 | 0,_,_=>by simp [keepW]
 | i+1,h,hd=>by rw [keepW_succ xs i h,hd i (by omega),keepW_all xs i (by omega) (fun t ht=>hd t (by omega)),take_snoc eWE xs i h]; rfl
theorem keepW_le (xs:List WcE) (J:Nat):(keepW xs J).length<=J:=by
 unfold keepW
 exact Nat.le_trans (List.length_filter_le _ _) (by rw [List.length_take]; omega)
theorem keepW_end (xs:List WcE):keepW xs xs.length=xs.filter (fun e=>!e.doom):=by unfold keepW; rw [List.take_length]
theorem cloW_any (P S O R:Int) (D:Bool) (w:World) :
  Calls Try.prog 234 #[.agg #[.int .i64 P,.int .i64 S,.bool D,.int .i64 O,.int .i64 R]] w fun e w'=>e=.returned (.bool D)/\Below w.heap.size w w':=by
 go_enter Try.func234,Try.ntmps234
 go_wp2_with fail
 go_ret
 exact ⟨rfl,(Below.refl _ _).alloc (Nat.le_refl _) _⟩
theorem elW {xs:List WcE} {f:Nat->Value} {k:Nat} (hf:∀ j,j < 5->f (k * 5+j)=eCell eWE xs k j):∃ P S O R,f (k * 5)=.int .i64 P/\f (k * 5+1)=.int .i64 S/\f (k * 5+2)=.bool (eAt eWE xs k).doom/\f (k * 5+3)=.int .i64 O/\f (k * 5+4)=.int .i64 R/\eWE.enc (eAt eWE xs k)=[.int .i64 P,.int .i64 S,.bool (eAt eWE xs k).doom,.int .i64 O,.int .i64 R] :=
 ⟨_,_,_,_,hf 0 (by omega),hf 1 (by omega),hf 2 (by omega),hf 3 (by omega),hf 4 (by omega),rfl⟩
set_option maxHeartbeats 1000000 in
theorem idxW_any (a:Option Addr) (c B:Nat) (xs:List WcE) (w:World) (hn:xs.length<=256) (hv:ERow eWE w B (.slice a xs.length c) xs) :
  Calls Try.prog 236 #[.slice a xs.length c,.func (.func 234) #[] #[]] w fun e w'=>(∃ r:Int,e=.returned (.int .i64 r)/\((r=-1/\∀ t,t < xs.length->(eAt eWE xs t).doom=false)\/∃ i:Nat,r=i/\i < xs.length/\(eAt eWE xs i).doom=true/\∀ t,t < i->(eAt eWE xs t).doom=false))/\Below w.heap.size w w':=by
 have HF:Hid (0 < xs.length->∃ g f,a=some ⟨g,0,none⟩/\g < w.heap.size/\(∀ wX:World,Below w.heap.size w wX->wX.rowIs g 170 (c * 5) f)/\xs.length<=c/\∀ i,i < xs.length->∀ j,j < 5->f (i * 5+j)=eCell eWE xs i j):=fun h0=>by
  obtain ⟨g,h1,_⟩:=hv.cellsB
  obtain ⟨rfl,hl,_⟩:=h1 h0
  obtain ⟨_,hc,_,f,hr,hf⟩:=hv.full
  exact ⟨g,f,rfl,hl,fun wX hX=>hr.of_block (hX.block g hl),hc,hf⟩
 clear hv
 go_enter Try.func236,Try.ntmps236
 go_wp2_with fail
 go_loopw [8] (fun i wr=>∃ k:Nat,k<=xs.length/\i=.int .i64 k/\Hid (∀ t,t < k->(eAt eWE xs t).doom=false)/\Below w.heap.size w wr) (fun i _=>xs.length - (intOf i).toNat)
 case atStart=>exact ⟨0,Nat.zero_le _,rfl,fun j hj=>absurd hj (by omega),Below.refl _ _⟩
 case round =>
  obtain ⟨k,hk,rfl,hall,hb⟩:=hrel
  by_cases hlt:k < xs.length
  ·obtain ⟨g,f,rfl,hgl,hr,hc,hf⟩:=HF.out (by omega)
   have hr1:=hr wr hb
   obtain ⟨P,S,O,R,e0,e1,e2,e3,e4,_⟩:=elW (hf k hlt)
   have c0:=hr1.cell (i:=k * 5) (by omega)
   have c1:=hr1.cell (i:=k * 5+1) (by omega)
   have c2:=hr1.cell (i:=k * 5+2) (by omega)
   have c3:=hr1.cell (i:=k * 5+3) (by omega)
   have c4:=hr1.cell (i:=k * 5+4) (by omega)
   rw [e0] at c0
   rw [e1] at c1
   rw [e2] at c2
   rw [e3] at c3
   rw [e4] at c4
   have L1:(0:Int)<=(k:Int):=by omega
   have L2:(k:Int) < (xs.length:Int):=by omega
   have HB:Hid (Below w.heap.size w wr):=hb
   clear hr hr1 hf e0 e1 e2 e3 e4 hb
   cases hD:(eAt eWE xs k).doom <;> rw [hD] at c2
   ·have hcl:=cloW_any P S O R false wr
    have HD:Hid ((eAt eWE xs k).doom=false):=hD
    clear hD
    go_wp2_with (go_at_call 234; refine hcl.mono ?_; rintro e w1 ⟨rfl,hb1⟩)
    go_roundw
    case rel =>
     refine ⟨k+1,by omega,by go_num,fun t ht=>?_,HB.out.trans (hb1.mono HB.out.size)⟩
     by_cases e:t=k
     ·rw [e]; exact HD.out
     ·exact hall.out t (by omega)
    case measure=>simp [intOf]; omega
   ·have hcl:=cloW_any P S O R true wr
    have HD:Hid ((eAt eWE xs k).doom=true):=hD
    clear hD
    go_wp2_with (go_at_call 234; refine hcl.mono ?_; rintro e w1 ⟨rfl,hb1⟩)
    go_ret
    exact ⟨⟨_,rfl,.inr ⟨k,rfl,hlt,HD.out,hall.out⟩⟩,HB.out.trans (hb1.mono HB.out.size)⟩
  ·go_wp2_with fail
   go_ret
   exact ⟨⟨_,rfl,.inl ⟨rfl,fun t ht=>hall.out t (by omega)⟩⟩,hb⟩
set_option maxRecDepth 100000 in
set_option maxHeartbeats 4000000 in
theorem delFW_any (a:Option Addr) (c B:Nat) (xs:List WcE) (w:World) (hn:xs.length<=256) (hv:ERow eWE w B (.slice a xs.length c) xs) :
  Calls Try.prog 233 #[.slice a xs.length c,.func (.func 234) #[] #[]] w fun e w'=>e=.returned (.slice a (xs.filter (fun e=>!e.doom)).length c)/\ERow eWE w' B (.slice a (xs.filter (fun e=>!e.doom)).length c) (xs.filter (fun e=>!e.doom))/\w.grownBy w' (oOf a):=by
 have hid:=idxW_any a c B xs w hn hv
 have HV:Hid (ERow eWE w B (.slice a xs.length c) xs):=hv
 obtain ⟨ys,hys⟩:∃ ys,ys=xs.filter (fun e=>!e.doom):=⟨_,rfl⟩
 rw [<- hys]
 have HYS:Hid (ys=_):=hys
 clear hv hys
 go_enter Try.func233,Try.ntmps233
 go_wp2_with fail
 refine hid.mono ?_
 rintro e w1 ⟨⟨r,rfl,hr⟩,hb1⟩
 rcases hr with ⟨rfl,hno⟩ | ⟨i,rfl,hi,hdi,hbef⟩
 ·have hyx:ys=xs:=by rw [HYS.out,<- keepW_end,keepW_all xs xs.length (Nat.le_refl _) hno,List.take_length]
  subst hyx
  clear hid hno
  go_wp2_with fail
  go_ret
  exact ⟨rfl,HV.out.below hb1,⟨hb1.os,hb1.tape,hb1.output,hb1.size,fun k hk _=>hb1.block k hk⟩⟩
 ·obtain ⟨g,hg1,_⟩:=HV.out.cellsB
  obtain ⟨rfl,hgl,hBg,hlc⟩:=hg1 (by omega)
  obtain ⟨_,_,hmx,f0,hr0,hf0⟩:=HV.out.full
  have hr1:w1.rowIs g 170 (c * 5) f0:=hr0.of_block (hb1.block g hgl)
  have hf1:∀ t,t < xs.length->∀ j,j < 5->f0 (t * 5+j)=eCell eWE xs t j:=hf0
  have hk0:keepW xs (i+1)=xs.take i:=by rw [keepW_succ xs i hi,hdi,keepW_all xs i (by omega) hbef]; rfl
  have HR1:Hid (w1.rowIs g 170 (c * 5) f0):=hr1
  have HF1:Hid _:=hf1
  have HK0:Hid (keepW xs (i+1)=xs.take i):=hk0
  have HB1:Hid (Below w.heap.size w w1):=hb1
  have di:((i:Int) == -1)=false:=by simp
  have L0:(0:Int)<=(i:Int):=by omega
  clear hid hr0 hf0 hr1 hf1 hk0 hb1 hg1
  go_wp2_with fail
  go_loopw [5,6] (fun s5 s6 wr=>∃ (I J:Nat),s5=.int .i64 I/\s6=.int .i64 J/\J<=xs.length/\I < J/\I=(keepW xs J).length/\(∃ f,wr.rowIs g 170 (c * 5) f/\Hid ((∀ t,t < I->∀ j,j < 5->f (t * 5+j)=eCell eWE (keepW xs J) t j)/\(∀ t,J<=t->t < xs.length->∀ j,j < 5->f (t * 5+j)=eCell eWE xs t j)))/\w1.grownBy wr (some g)) (fun s5 s6 _=>xs.length - (intOf s6).toNat)
  case atStart =>
   refine ⟨i,i+1,rfl,by go_num,by omega,by omega,?_,⟨f0,HR1.out,fun t ht j hj=>?_,fun t h1 h2 j hj=>HF1.out t h2 j hj⟩,World.grownBy.refl _ _⟩
   ·rw [HK0.out,List.length_take]; omega
   ·rw [HF1.out t (by omega) j hj,HK0.out]
    unfold eCell eAt
    rw [List.getD_eq_getElem?_getD,List.getD_eq_getElem?_getD,List.getElem?_take,if_pos ht]
  case round =>
   obtain ⟨I,J,rfl,rfl,hJn,hIJ,hI,⟨f,hrow,hf⟩,hgr⟩:=hrel
   have hgw:g < wr.heap.size:=hrow.lt
   by_cases hlt:J < xs.length
   ·obtain ⟨P,S,O,R,e0,e1,e2,e3,e4,hec⟩:=elW (hf.out.2 J (Nat.le_refl _) hlt)
    have c0:=hrow.cell (i:=J * 5) (by omega)
    have c1:=hrow.cell (i:=J * 5+1) (by omega)
    have c2:=hrow.cell (i:=J * 5+2) (by omega)
    have c3:=hrow.cell (i:=J * 5+3) (by omega)
    have c4:=hrow.cell (i:=J * 5+4) (by omega)
    rw [e0] at c0
    rw [e1] at c1
    rw [e2] at c2
    rw [e3] at c3
    rw [e4] at c4
    have hks:=keepW_succ xs J hlt
    have M1:(0:Int)<=(J:Int):=by omega
    have M2:(J:Int) < (xs.length:Int):=by omega
    have M3:(0:Int)<=(I:Int):=by omega
    have M4:(I:Int) < (xs.length:Int):=by omega
    have HROW:Hid (wr.rowIs g 170 (c * 5) f):=hrow
    have HGR:Hid (w1.grownBy wr (some g)):=hgr
    have HI:Hid (I=_):=hI
    clear e0 e1 e2 e3 e4 hrow hgr hI
    cases hD:(eAt eWE xs J).doom <;> rw [hD] at c2 hks hec
    ·obtain ⟨wx,hwx⟩:∃ wx,wx=wr.alloc (.cells #[.int .i64 P,.int .i64 S,.bool false,.int .i64 O,.int .i64 R] 170):=⟨_,rfl⟩
     have hzx:wx.heap.size=wr.heap.size+1:=by rw [hwx]; simp
     have bx:Below wr.heap.size wr wx:=by rw [hwx]; exact (Below.refl _ _).alloc (Nat.le_refl _) _
     have hcl:=cloW_any P S O R false wx
     have HBX:Hid (∀ wX,Below wx.heap.size wx wX->wX.cell? ⟨wr.heap.size,0,none⟩=some (.int .i64 P)/\wX.cell? ⟨wr.heap.size,1,none⟩=some (.int .i64 S)/\wX.cell? ⟨wr.heap.size,2,none⟩=some (.bool false)/\wX.cell? ⟨wr.heap.size,3,none⟩=some (.int .i64 O)/\wX.cell? ⟨wr.heap.size,4,none⟩=some (.int .i64 R)):=fun wX hX=>by
      refine ⟨?_,?_,?_,?_,?_⟩
      iterate 5 (exact (hX.cell (by simp; omega)).trans (by rw [hwx]; simp [go_sem]))
     rw [hwx] at hcl
     have HWX:Hid (wx=_):=hwx
     have HKS:Hid (keepW xs (J+1)=keepW xs J ++ [eAt eWE xs J]):=by rw [hks]; rfl
     have HEC:Hid _:=hec
     have HBXW:Hid (Below wr.heap.size wr wx):=bx
     have HZX:Hid (wx.heap.size=_):=hzx
     clear hwx bx hD hks hec hzx
     go_wp2_with fail
     refine hcl.mono ?_
     rintro e w2 ⟨rfl,hb2'⟩
     have hb2:Below wx.heap.size wx w2:=by rw [HWX.out]; exact hb2'
     have b2:Below wr.heap.size wr w2:=HBXW.out.trans (hb2.mono HBXW.out.size)
     have hrow2:w2.rowIs g 170 (c * 5) f:=HROW.out.of_block (b2.block g hgw)
     obtain ⟨x0,x1,x2,x3,x4⟩:=HBX.out w2 hb2
     have o0:=hrow2.cell (i:=I * 5) (by omega)
     have o1:=hrow2.cell (i:=I * 5+1) (by omega)
     have o2:=hrow2.cell (i:=I * 5+2) (by omega)
     have o3:=hrow2.cell (i:=I * 5+3) (by omega)
     have o4:=hrow2.cell (i:=I * 5+4) (by omega)
     have z0:=hrow2.frozen (I * 5)
     have z1:=hrow2.frozen (I * 5+1)
     have z2:=hrow2.frozen (I * 5+2)
     have z3:=hrow2.frozen (I * 5+3)
     have z4:=hrow2.frozen (I * 5+4)
     have N0:¬ g=wr.heap.size:=by omega
     have N1:wr.heap.size < w2.heap.size:=by have:=hb2.size; have:=HZX.out; omega
     have N2:g < w2.heap.size:=by omega
     generalize f (I * 5)=v0 at o0
     generalize f (I * 5+1)=v1 at o1
     generalize f (I * 5+2)=v2 at o2
     generalize f (I * 5+3)=v3 at o3
     generalize f (I * 5+4)=v4 at o4
     have HR2:Hid (w2.rowIs g 170 (c * 5) f):=hrow2
     have HB2:Hid (Below wr.heap.size wr w2):=b2
     clear hcl hb2 hb2' b2 hrow2 c0 c1 c2 c3 c4
     go_wp2_with fail
     go_roundw
     case rel =>
      refine ⟨I+1,J+1,by go_num,by go_num,by omega,by omega,?_,⟨_,((((HR2.out.set (I * 5) _).set (I * 5+1) _).set (I * 5+2) _).set (I * 5+3) _).set (I * 5+4) _,fun t ht j hj=>?_,fun t h1 h2 j hj=>?_⟩,?_⟩
      ·rw [HKS.out,List.length_append,<- HI.out]; rfl
      ·by_cases e:t=I
       ·have hcell:eCell eWE (keepW xs (J+1)) t j=(([.int .i64 P,.int .i64 S,.bool false,.int .i64 O,.int .i64 R]:List Value)[j]?).getD (.bool false):=by
         unfold eCell
         rw [HKS.out,e,HI.out,eAt_snoc_end,HEC.out]
        rw [hcell,e]
        rcases (show j=0\/j=1\/j=2\/j=3\/j=4 by omega) with rfl | rfl | rfl | rfl | rfl <;> simp
       ·have hcell:eCell eWE (keepW xs (J+1)) t j=eCell eWE (keepW xs J) t j:=by
         unfold eCell
         rw [HKS.out,eAt_snoc_lt eWE _ _ t (by rw [<- HI.out]; omega)]
        rw [hcell,<- hf.out.1 t (by omega) j hj]
        rw [if_neg (by omega),if_neg (by omega),if_neg (by omega),if_neg (by omega),if_neg (by omega)]
      ·rw [<- hf.out.2 t (by omega) h2 j hj]
       rw [if_neg (by omega),if_neg (by omega),if_neg (by omega),if_neg (by omega),if_neg (by omega)]
      ·refine eGrown_set (eGrown_set (eGrown_set (eGrown_set (eGrown_set ?_ _ _) _ _) _ _) _ _) _ _
       exact ⟨HB2.out.os.trans HGR.out.os,HB2.out.tape.trans HGR.out.tape,HB2.out.output.trans HGR.out.output,Nat.le_trans HGR.out.size HB2.out.size,fun q hq hne=>(HB2.out.block q (Nat.lt_of_lt_of_le hq HGR.out.size)).trans (HGR.out.block q hq hne)⟩
     case measure=>simp [intOf]; omega
    ·obtain ⟨wx,hwx⟩:∃ wx,wx=wr.alloc (.cells #[.int .i64 P,.int .i64 S,.bool true,.int .i64 O,.int .i64 R] 170):=⟨_,rfl⟩
     have bx:Below wr.heap.size wr wx:=by rw [hwx]; exact (Below.refl _ _).alloc (Nat.le_refl _) _
     have hcl:=cloW_any P S O R true wx
     rw [hwx] at hcl
     have HWX:Hid (wx=_):=hwx
     have HKS:Hid (keepW xs (J+1)=keepW xs J):=by rw [hks]; rfl
     have HBXW:Hid (Below wr.heap.size wr wx):=bx
     clear hwx bx hD hks hec
     go_wp2_with fail
     refine hcl.mono ?_
     rintro e w2 ⟨rfl,hb2'⟩
     have hb2:Below wx.heap.size wx w2:=by rw [HWX.out]; exact hb2'
     have HB2:Hid (Below wr.heap.size wr w2):=HBXW.out.trans (hb2.mono HBXW.out.size)
     clear hcl hb2 hb2' c0 c1 c2 c3 c4
     go_wp2_with fail
     go_roundw
     case rel =>
      refine ⟨I,J+1,rfl,by go_num,by omega,by omega,by rw [HKS.out]; exact HI.out,⟨f,HROW.out.of_block (HB2.out.block g hgw),fun t ht j hj=>?_,fun t h1 h2 j hj=>hf.out.2 t (by omega) h2 j hj⟩,?_⟩
      ·rw [HKS.out]; exact hf.out.1 t ht j hj
      ·exact ⟨HB2.out.os.trans HGR.out.os,HB2.out.tape.trans HGR.out.tape,HB2.out.output.trans HGR.out.output,Nat.le_trans HGR.out.size HB2.out.size,fun q hq hne=>(HB2.out.block q (Nat.lt_of_lt_of_le hq HGR.out.size)).trans (HGR.out.block q hq hne)⟩
     case measure=>simp [intOf]; omega
   ·obtain rfl:J=xs.length:=by omega
    have hclr:∀ ty,(Builtin.clear_ #[133] ty #[.slice (some ⟨g,I * 5,none⟩) (xs.length - I) (c - I)]).run Try.prog wr=.ok (.tuple #[]) (wr.setCells g (I * 5) (zero5 (xs.length - I))):=fun ty =>
     run_clear_many wr 133 170 ty (.agg #[.int .i64 0,.int .i64 0,.bool false,.int .i64 0,.int .i64 0]) (xs.length - I) (by omega) (zero5 (xs.length - I)) Try.underlying133 zeroW rfl (zero5_one _) g (I * 5) (c - I)
      (fun j hj=>by
       rw [zero5_length] at hj
       rw [hrow.cell (i:=I * 5+j) (by omega)]; rfl) (fun j hj=>hrow.frozen _)
    have L1:(I:Int)<=(xs.length:Int):=by omega
    have L2:(0:Int)<=(I:Int):=by omega
    have L3:¬ c=I:=by omega
    have L4:(xs.length:Int)<=(c:Int):=by omega
    have L5:(I:Int)<=(c:Int):=by omega
    have HROW:Hid (wr.rowIs g 170 (c * 5) f):=hrow
    have HGR:Hid (w1.grownBy wr (some g)):=hgr
    have hyI:ys.length=I:=by rw [HYS.out,<- keepW_end]; exact hI.symm
    have HYI:Hid (ys.length=I):=hyI
    have HIJ:Hid (I < xs.length):=hIJ
    clear hrow hgr hI hyI
    go_wp2_with fail
    go_ret
    refine ⟨by rw [HYI.out]; rfl,?_,?_⟩
    ·rw [HYI.out]
     refine ERow.of_row (N:=c * 5) HYI.out hBg (rowIs_setCells (zero5 (xs.length - I)) (I * 5) wr f HROW.out) rfl (by omega) hmx (fun t ht j hj=>?_)
     have hj':j < 5:=hj
     have hsz:eWE.sz=5:=rfl
     rw [hsz,if_neg (by omega),hf.out.1 t ht j hj',HYS.out,<- keepW_end]
    ·have h2:=grown_two HGR.out (grown_setCells g (zero5 (xs.length - I)) (I * 5) wr)
     exact ⟨h2.os.trans HB1.out.os,h2.tape.trans HB1.out.tape,h2.output.trans HB1.out.output,Nat.le_trans HB1.out.size h2.size,fun q hq hne=>(h2.block q (Nat.lt_of_lt_of_le hq HB1.out.size) hne).trans (HB1.out.block q hq)⟩
end Go.Proofs.Ytnmhkgmmpkjjeaa
