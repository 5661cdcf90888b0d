import Derived.Test.YtnmhkgmmpkjjeabGreatE34
import Derived.Test.YtnmhkgmmpkjjeabGreatE32
namespace Go.Proofs.YtnmhkgmmpkjjeabGreat
open ChangeShapes WideShapes ChangeAt RowKit Proofs.Tryz
set_option linter.all false
set_option maxRecDepth 100000
set_option maxHeartbeats 4000000
attribute [local go_sem ↓] wp_at_zero wp_at_succ
theorem E6{P:Program}(w:World)(t e ty:TypeId)(z:Value)(m:Nat)(hm:0<m)(zs:List Value)(ht:P.underlying t=some (.slice e))(hv:∀w,(zeroValue e).run P w=.ok z w)(hz:(Builtin.zeroCells z.cells m).toList=zs)(h1:∀v∈zs,v.oneCell'=true)(b o c:Nat)(hc:∀j,j<zs.length->(w.cell? ⟨b,o+j,none⟩).isSome=true)(hf:∀j,j<zs.length->w.frozen? ⟨b,o+j,none⟩=false):(Builtin.clear_ #[t] ty #[.slice (some ⟨b,o,none⟩) m c]).run P w=.ok (.tuple #[]) (w.setCells b o zs):=by
 obtain⟨m,rfl⟩:∃k,m=k+1:=⟨m-1,by omega⟩
 have hst:=run_storeCells_cells (P:=P) b o zs 0 w (by simpa using hc) (by simpa using hf) h1;simp only[Nat.add_zero] at hst;simp[Builtin.clear_,run_underlying ht,hv,hz,hst]
def Dw (m:Nat):List Value:=(Builtin.zeroCells #[.int .i64 0,.int .i64 0,.bool false,.int .i64 0,.int .i64 0] m).toList
theorem FH(m:Nat):(Dw m).length=m*5:=by simp[Dw,Builtin.zeroCells]
theorem Hb(m:Nat):∀v∈Dw m,v.oneCell'=true:=by
 intro v hv;unfold Dw Builtin.zeroCells at hv;simp only[Array.toList_map,List.mem_map] at hv;obtain⟨i,_,rfl⟩:=hv;have hs:(#[.int .i64 0,.int .i64 0,.bool false,.int .i64 0,.int .i64 0]:Array Value).size=5:=rfl;rw[hs];rcases(show i%5=0\/i%5=1\/i%5=2\/i%5=3\/i%5=4 by omega) with e|e|e|e|e<;>(rw[e];rfl)
theorem A6.full{α:Type}{E:DL α}{w:World}{b g cap:Nat}{xs:List α}(h:A6 E w b (.slice (some ⟨g,0,none⟩) xs.length cap) xs):b<=g/\xs.length<=cap/\cap<=maxLen/\∃f,w.rowIs g E.T (cap*E.sz) f/\∀i,i<xs.length->∀j,j<E.sz->f (i*E.sz+j)=AL E xs i j:=by
 rcases h.2 with⟨e,_⟩|⟨g',cap',cur,e,hb,hg,h1,h2,h3,h4⟩
 ·cases e
 ·simp only[Value.slice.injEq,Option.some.injEq,Addr.mk.injEq] at e;obtain⟨⟨rfl,_⟩,_,rfl⟩:=e;refine⟨hb,h1,h2,fun i=>cur.getD i (.bool false),⟨cur,hg,h3,fun i hi=>?_⟩,fun i hi j hj=>?_⟩
  ·rw[Array.getElem?_eq_getElem (by rw[h3];exact hi)];simp[Array.getD_eq_getD_getElem?,Array.getElem?_eq_getElem (show i<cur.size by rw[h3];exact hi)]
  ·have hu:=CS E xs i hi j hj;rw[<- h4,List.getElem?_take,if_pos (Hs hi hj)] at hu;simp only[Array.getElem?_toList] at hu;simp[Array.getD_eq_getD_getElem?,hu,AL]
theorem Fd{α:Type}(E:DL α)(l:List α)(x:α)(t:Nat)(h:t<l.length):A8 E (l++[x]) t=A8 E l t:=by
 unfold A8;rw[List.getD_eq_getElem?_getD,List.getD_eq_getElem?_getD,List.getElem?_append_left h]
theorem FG{α:Type}(E:DL α)(l:List α)(x:α):A8 E (l++[x]) l.length=x:=by
 unfold A8;rw[List.getD_eq_getElem?_getD,List.getElem?_append_right (Nat.le_refl _)];simp
theorem DB{α:Type}(E:DL α)(xs:List α)(k:Nat)(hk:k<xs.length):xs.take (k+1)=xs.take k++[A8 E xs k]:=by
 rw[List.take_add_one,List.getElem?_eq_getElem hk];unfold A8;rw[List.getD_eq_getElem?_getD,List.getElem?_eq_getElem hk];rfl
def Aj (xs:List Am) (J:Nat):List Am:=(xs.take J).filter (fun e=>!e.doom)
theorem Dm(xs:List Am)(J:Nat)(h:J<xs.length):Aj xs (J+1)=if (A8 At xs J).doom then Aj xs J else Aj xs J++[A8 At xs J]:=by
 unfold Aj;rw[DB At xs J h,List.filter_append];cases hd:(A8 At xs J).doom<;>simp[hd]
theorem Fb(xs:List Am):∀i,i<=xs.length->(∀t,t<i->(A8 At xs t).doom=false)->Aj xs i=xs.take i
 | 0,_,_=>by simp[Aj]
 | i+1,h,hd=>by rw[Dm xs i h,hd i (by omega),Fb xs i (by omega) (fun t ht=>hd t (by omega)),DB At xs i h];rfl
theorem Lg(xs:List Am)(J:Nat):(Aj xs J).length<=J:=by
 unfold Aj;exact Nat.le_trans (List.length_filter_le _ _) (by rw[List.length_take];omega)
theorem EP(xs:List Am):Aj xs xs.length=xs.filter (fun e=>!e.doom):=by unfold Aj;rw[List.take_length]
theorem Ex(P S O R:Int)(D:Bool)(w:World):Calls prog 187 #[.agg #[.int .i64 P,.int .i64 S,.bool D,.int .i64 O,.int .i64 R]] w fun e w'=>e=.returned (.bool D)/\Below w.heap.size w w':=by
 go_enter func187,ntmps187
 go_wp2_with fail
 go_ret;exact⟨rfl,(Below.refl _ _).alloc (Nat.le_refl _) _⟩
theorem Nn{xs:List Am}{f:Nat->Value}{k:Nat}(hf:∀j,j<5->f (k*5+j)=AL At xs k j):∃P S O R,f (k*5)=.int .i64 P/\f (k*5+1)=.int .i64 S/\f (k*5+2)=.bool (A8 At xs k).doom/\f (k*5+3)=.int .i64 O/\f (k*5+4)=.int .i64 R/\At.enc (A8 At xs k)=[.int .i64 P,.int .i64 S,.bool (A8 At xs k).doom,.int .i64 O,.int .i64 R] :=
 ⟨_,_,_,_,hf 0 (by omega),hf 1 (by omega),hf 2 (by omega),hf 3 (by omega),hf 4 (by omega),rfl⟩
theorem Lu(a:Option Addr)(c B:Nat)(xs:List Am)(w:World)(hn:xs.length<=256)(hv:A6 At w B (.slice a xs.length c) xs):Calls prog 190 #[.slice a xs.length c,.func (.func 187) #[] #[]] w fun e w'=>(∃r:Int,e=.returned (.int .i64 r)/\((r=-1/\∀t,t<xs.length->(A8 At xs t).doom=false)\/∃i:Nat,r=i/\i<xs.length/\(A8 At xs i).doom=true/\∀t,t<i->(A8 At xs t).doom=false))/\Below w.heap.size w w':=by
 have HF:Hid (0<xs.length->∃g f,a=some ⟨g,0,none⟩/\g<w.heap.size/\(∀wX:World,Below w.heap.size w wX->wX.rowIs g 156 (c*5) f)/\xs.length<=c/\∀i,i<xs.length->∀j,j<5->f (i*5+j)=AL At xs i j):=fun h0=>by
  obtain⟨g,h1,_⟩:=hv.cellsB;obtain⟨rfl,hl,_⟩:=h1 h0;obtain⟨_,hc,_,f,hr,hf⟩:=hv.full;exact⟨g,f,rfl,hl,fun wX hX=>hr.of_block (hX.block g hl),hc,hf⟩
 clear hv;go_enter func190,ntmps190
 go_wp2_with fail
 go_loopw [8] (fun i wr=>∃k:Nat,k<=xs.length/\i=.int .i64 k/\Hid (∀t,t<k->(A8 At xs t).doom=false)/\Below w.heap.size w wr) (fun i _=>xs.length-(intOf i).toNat)
 case atStart=>exact⟨0,Nat.zero_le _,rfl,fun j hj=>absurd hj (by omega),Below.refl _ _⟩
 case round =>
  obtain⟨k,hk,rfl,hall,hb⟩:=hrel;by_cases hlt:k<xs.length
  ·obtain⟨g,f,rfl,hgl,hr,hc,hf⟩:=HF.out (by omega);have hr1:=hr wr hb;obtain⟨P,S,O,R,e0,e1,e2,e3,e4,_⟩:=Nn (hf k hlt);have c0:=hr1.cell (i:=k*5) (by omega);have c1:=hr1.cell (i:=k*5+1) (by omega);have c2:=hr1.cell (i:=k*5+2) (by omega);have c3:=hr1.cell (i:=k*5+3) (by omega);have c4:=hr1.cell (i:=k*5+4) (by omega);rw[e0] at c0;rw[e1] at c1;rw[e2] at c2;rw[e3] at c3;rw[e4] at c4;(have L1:(0:Int)<=(k:Int):=by omega);(have L2:(k:Int)<(xs.length:Int):=by omega);have HB:Hid (Below w.heap.size w wr):=hb;clear hr hr1 hf e0 e1 e2 e3 e4 hb;cases hD:(A8 At xs k).doom<;>rw[hD] at c2
   ·have hcl:=Ex P S O R false wr;have HD:Hid ((A8 At xs k).doom=false):=hD;clear hD;(go_wp2_with (go_at_call 187;refine hcl.mono ?_;rintro e w1 ⟨rfl,hb1⟩));go_roundw;case rel =>
     refine⟨k+1,by omega,by go_num,fun t ht=>?_,HB.out.trans (hb1.mono HB.out.size)⟩;by_cases e:t=k
     ·rw[e];exact HD.out
     ·exact hall.out t (by omega)
    case measure=>simp[intOf];omega
   ·have hcl:=Ex P S O R true wr;have HD:Hid ((A8 At xs k).doom=true):=hD;clear hD;(go_wp2_with (go_at_call 187;refine hcl.mono ?_;rintro e w1 ⟨rfl,hb1⟩));go_ret;exact⟨⟨_,rfl,.inr ⟨k,rfl,hlt,HD.out,hall.out⟩⟩,HB.out.trans (hb1.mono HB.out.size)⟩
  ·(go_wp2_with fail);go_ret;exact⟨⟨_,rfl,.inl ⟨rfl,fun t ht=>hall.out t (by omega)⟩⟩,hb⟩
set_option maxRecDepth 100000 in
theorem LY(a:Option Addr)(c B:Nat)(xs:List Am)(w:World)(hn:xs.length<=256)(hv:A6 At w B (.slice a xs.length c) xs):Calls prog 186 #[.slice a xs.length c,.func (.func 187) #[] #[]] w fun e w'=>e=.returned (.slice a (xs.filter (fun e=>!e.doom)).length c)/\A6 At w' B (.slice a (xs.filter (fun e=>!e.doom)).length c) (xs.filter (fun e=>!e.doom))/\w.grownBy w' (Al a):=by
 have hid:=Lu a c B xs w hn hv;have HV:Hid (A6 At w B (.slice a xs.length c) xs):=hv;obtain⟨ys,hys⟩:∃ys,ys=xs.filter (fun e=>!e.doom):=⟨_,rfl⟩
 rw[<- hys];have HYS:Hid (ys=_):=hys;clear hv hys;go_enter func186,ntmps186
 go_wp2_with fail
 refine hid.mono ?_;rintro e w1 ⟨⟨r,rfl,hr⟩,hb1⟩;rcases hr with⟨rfl,hno⟩|⟨i,rfl,hi,hdi,hbef⟩
 ·have hyx:ys=xs:=by rw[HYS.out,<- EP,Fb xs xs.length (Nat.le_refl _) hno,List.take_length]
  subst hyx;clear hid hno;go_wp2_with fail
  go_ret;exact⟨rfl,HV.out.below hb1,⟨hb1.os,hb1.tape,hb1.output,hb1.size,fun k hk _=>hb1.block k hk⟩⟩
 ·obtain⟨g,hg1,_⟩:=HV.out.cellsB;obtain⟨rfl,hgl,hBg,hlc⟩:=hg1 (by omega);obtain⟨_,_,hmx,f0,hr0,hf0⟩:=HV.out.full;have hr1:w1.rowIs g 156 (c*5) f0:=hr0.of_block (hb1.block g hgl);have hf1:∀t,t<xs.length->∀j,j<5->f0 (t*5+j)=AL At xs t j:=hf0
  have hk0:Aj xs (i+1)=xs.take i:=by rw[Dm xs i hi,hdi,Fb xs i (by omega) hbef];rfl
  have HR1:Hid (w1.rowIs g 156 (c*5) f0):=hr1;have HF1:Hid _:=hf1;have HK0:Hid (Aj xs (i+1)=xs.take i):=hk0;have HB1:Hid (Below w.heap.size w w1):=hb1;have di:((i:Int)==-1)=false:=by simp
  have L0:(0:Int)<=(i:Int):=by omega
  clear hid hr0 hf0 hr1 hf1 hk0 hb1 hg1;go_wp2_with fail
  go_loopw [5,6] (fun s5 s6 wr=>∃(I J:Nat),s5=.int .i64 I/\s6=.int .i64 J/\J<=xs.length/\I<J/\I=(Aj xs J).length/\(∃f,wr.rowIs g 156 (c*5) f/\Hid ((∀t,t<I->∀j,j<5->f (t*5+j)=AL At (Aj xs J) t j)/\(∀t,J<=t->t<xs.length->∀j,j<5->f (t*5+j)=AL At xs t j)))/\w1.grownBy wr (some g)) (fun s5 s6 _=>xs.length-(intOf s6).toNat)
  case atStart =>
   refine⟨i,i+1,rfl,by go_num,by omega,by omega,?_,⟨f0,HR1.out,fun t ht j hj=>?_,fun t h1 h2 j hj=>HF1.out t h2 j hj⟩,World.grownBy.refl _ _⟩
   ·rw[HK0.out,List.length_take];omega
   ·rw[HF1.out t (by omega) j hj,HK0.out];unfold AL A8;rw[List.getD_eq_getElem?_getD,List.getD_eq_getElem?_getD,List.getElem?_take,if_pos ht]
  case round =>
   obtain⟨I,J,rfl,rfl,hJn,hIJ,hI,⟨f,hrow,hf⟩,hgr⟩:=hrel;have hgw:g<wr.heap.size:=hrow.lt;by_cases hlt:J<xs.length
   ·obtain⟨P,S,O,R,e0,e1,e2,e3,e4,hec⟩:=Nn (hf.out.2 J (Nat.le_refl _) hlt);have c0:=hrow.cell (i:=J*5) (by omega);have c1:=hrow.cell (i:=J*5+1) (by omega);have c2:=hrow.cell (i:=J*5+2) (by omega);have c3:=hrow.cell (i:=J*5+3) (by omega);have c4:=hrow.cell (i:=J*5+4) (by omega);rw[e0] at c0;rw[e1] at c1;rw[e2] at c2;rw[e3] at c3;rw[e4] at c4;have hks:=Dm xs J hlt;(have M1:(0:Int)<=(J:Int):=by omega);(have M2:(J:Int)<(xs.length:Int):=by omega);(have M3:(0:Int)<=(I:Int):=by omega);(have M4:(I:Int)<(xs.length:Int):=by omega);have HROW:Hid (wr.rowIs g 156 (c*5) f):=hrow;have HGR:Hid (w1.grownBy wr (some g)):=hgr;have HI:Hid (I=_):=hI;clear e0 e1 e2 e3 e4 hrow hgr hI;cases hD:(A8 At xs J).doom<;>rw[hD] at c2 hks hec
    ·(obtain⟨wx,hwx⟩:∃wx,wx=wr.alloc (.cells #[.int .i64 P,.int .i64 S,.bool false,.int .i64 O,.int .i64 R] 156):=⟨_,rfl⟩);(have hzx:wx.heap.size=wr.heap.size+1:=by rw[hwx];simp);(have bx:Below wr.heap.size wr wx:=by rw[hwx];exact(Below.refl _ _).alloc (Nat.le_refl _) _);have hcl:=Ex P S O R false wx;have HBX:Hid (∀wX,Below wx.heap.size wx wX->wX.cell? ⟨wr.heap.size,0,none⟩=some (.int .i64 P)/\wX.cell? ⟨wr.heap.size,1,none⟩=some (.int .i64 S)/\wX.cell? ⟨wr.heap.size,2,none⟩=some (.bool false)/\wX.cell? ⟨wr.heap.size,3,none⟩=some (.int .i64 O)/\wX.cell? ⟨wr.heap.size,4,none⟩=some (.int .i64 R)):=fun wX hX=>by
      refine⟨?_,?_,?_,?_,?_⟩;iterate 5 (exact(hX.cell (by simp;omega)).trans (by rw[hwx];simp[go_sem]))
     rw[hwx] at hcl;have HWX:Hid (wx=_):=hwx;(have HKS:Hid (Aj xs (J+1)=Aj xs J++[A8 At xs J]):=by rw[hks];rfl);have HEC:Hid _:=hec;have HBXW:Hid (Below wr.heap.size wr wx):=bx;have HZX:Hid (wx.heap.size=_):=hzx;clear hwx bx hD hks hec hzx;(go_wp2_with fail);refine hcl.mono ?_;rintro e w2 ⟨rfl,hb2'⟩;(have hb2:Below wx.heap.size wx w2:=by rw[HWX.out];exact hb2');have b2:Below wr.heap.size wr w2:=HBXW.out.trans (hb2.mono HBXW.out.size);have hrow2:w2.rowIs g 156 (c*5) f:=HROW.out.of_block (b2.block g hgw);obtain⟨x0,x1,x2,x3,x4⟩:=HBX.out w2 hb2;have o0:=hrow2.cell (i:=I*5) (by omega);have o1:=hrow2.cell (i:=I*5+1) (by omega);have o2:=hrow2.cell (i:=I*5+2) (by omega);have o3:=hrow2.cell (i:=I*5+3) (by omega);have o4:=hrow2.cell (i:=I*5+4) (by omega);have z0:=hrow2.frozen (I*5);have z1:=hrow2.frozen (I*5+1);have z2:=hrow2.frozen (I*5+2);have z3:=hrow2.frozen (I*5+3);have z4:=hrow2.frozen (I*5+4);(have N0:¬g=wr.heap.size:=by omega);(have N1:wr.heap.size<w2.heap.size:=by have:=hb2.size;have:=HZX.out;omega);(have N2:g<w2.heap.size:=by omega);generalize f (I*5)=v0 at o0;generalize f (I*5+1)=v1 at o1;generalize f (I*5+2)=v2 at o2;generalize f (I*5+3)=v3 at o3;generalize f (I*5+4)=v4 at o4;have HR2:Hid (w2.rowIs g 156 (c*5) f):=hrow2;have HB2:Hid (Below wr.heap.size wr w2):=b2;clear hcl hb2 hb2' b2 hrow2 c0 c1 c2 c3 c4;(go_wp2_with fail);go_roundw;case rel =>
      refine⟨I+1,J+1,by go_num,by go_num,by omega,by omega,?_,⟨_,((((HR2.out.set (I*5) _).set (I*5+1) _).set (I*5+2) _).set (I*5+3) _).set (I*5+4) _,fun t ht j hj=>?_,fun t h1 h2 j hj=>?_⟩,?_⟩
      ·rw[HKS.out,List.length_append,<- HI.out];rfl
      ·by_cases e:t=I
       ·have hcell:AL At (Aj xs (J+1)) t j=(([.int .i64 P,.int .i64 S,.bool false,.int .i64 O,.int .i64 R]:List Value)[j]?).getD (.bool false):=by
         unfold AL;rw[HKS.out,e,HI.out,FG,HEC.out]
        rw[hcell,e];rcases(show j=0\/j=1\/j=2\/j=3\/j=4 by omega) with rfl|rfl|rfl|rfl|rfl<;>simp
       ·have hcell:AL At (Aj xs (J+1)) t j=AL At (Aj xs J) t j:=by
         unfold AL;rw[HKS.out,Fd At _ _ t (by rw[<- HI.out];omega)]
        rw[hcell,<- hf.out.1 t (by omega) j hj];rw[if_neg (by omega),if_neg (by omega),if_neg (by omega),if_neg (by omega),if_neg (by omega)]
      ·rw[<- hf.out.2 t (by omega) h2 j hj];rw[if_neg (by omega),if_neg (by omega),if_neg (by omega),if_neg (by omega),if_neg (by omega)]
      ·refine AN (AN (AN (AN (AN ?_ _ _) _ _) _ _) _ _) _ _;exact⟨HB2.out.os.trans HGR.out.os,HB2.out.tape.trans HGR.out.tape,HB2.out.output.trans HGR.out.output,Nat.le_trans HGR.out.size HB2.out.size,fun q hq hne=>(HB2.out.block q (Nat.lt_of_lt_of_le hq HGR.out.size)).trans (HGR.out.block q hq hne)⟩
     case measure=>simp[intOf];omega
    ·(obtain⟨wx,hwx⟩:∃wx,wx=wr.alloc (.cells #[.int .i64 P,.int .i64 S,.bool true,.int .i64 O,.int .i64 R] 156):=⟨_,rfl⟩);(have bx:Below wr.heap.size wr wx:=by rw[hwx];exact(Below.refl _ _).alloc (Nat.le_refl _) _);have hcl:=Ex P S O R true wx;rw[hwx] at hcl;have HWX:Hid (wx=_):=hwx;(have HKS:Hid (Aj xs (J+1)=Aj xs J):=by rw[hks];rfl);have HBXW:Hid (Below wr.heap.size wr wx):=bx;clear hwx bx hD hks hec;(go_wp2_with fail);refine hcl.mono ?_;rintro e w2 ⟨rfl,hb2'⟩;(have hb2:Below wx.heap.size wx w2:=by rw[HWX.out];exact hb2');have HB2:Hid (Below wr.heap.size wr w2):=HBXW.out.trans (hb2.mono HBXW.out.size);clear hcl hb2 hb2' c0 c1 c2 c3 c4;(go_wp2_with fail);go_roundw;case rel =>
      refine⟨I,J+1,rfl,by go_num,by omega,by omega,by rw[HKS.out];exact HI.out,⟨f,HROW.out.of_block (HB2.out.block g hgw),fun t ht j hj=>?_,fun t h1 h2 j hj=>hf.out.2 t (by omega) h2 j hj⟩,?_⟩
      ·rw[HKS.out];exact hf.out.1 t ht j hj
      ·exact⟨HB2.out.os.trans HGR.out.os,HB2.out.tape.trans HGR.out.tape,HB2.out.output.trans HGR.out.output,Nat.le_trans HGR.out.size HB2.out.size,fun q hq hne=>(HB2.out.block q (Nat.lt_of_lt_of_le hq HGR.out.size)).trans (HGR.out.block q hq hne)⟩
     case measure=>simp[intOf];omega
   ·(obtain rfl:J=xs.length:=by omega);have hclr:∀ty,(Builtin.clear_ #[149] ty #[.slice (some ⟨g,I*5,none⟩) (xs.length-I) (c-I)]).run prog wr=.ok (.tuple #[]) (wr.setCells g (I*5) (Dw (xs.length-I))):=fun ty =>
     E6 wr 149 156 ty (.agg #[.int .i64 0,.int .i64 0,.bool false,.int .i64 0,.int .i64 0]) (xs.length-I) (by omega) (Dw (xs.length-I)) underlying149 ND rfl (Hb _) g (I*5) (c-I)
      (fun j hj=>by
       rw[FH] at hj
       rw[hrow.cell (i:=I*5+j) (by omega)];rfl) (fun j hj=>hrow.frozen _)
    (have L1:(I:Int)<=(xs.length:Int):=by omega);(have L2:(0:Int)<=(I:Int):=by omega);(have L3:¬c=I:=by omega);(have L4:(xs.length:Int)<=(c:Int):=by omega);(have L5:(I:Int)<=(c:Int):=by omega);have HROW:Hid (wr.rowIs g 156 (c*5) f):=hrow;have HGR:Hid (w1.grownBy wr (some g)):=hgr;(have hyI:ys.length=I:=by rw[HYS.out,<- EP];exact hI.symm);have HYI:Hid (ys.length=I):=hyI;have HIJ:Hid (I<xs.length):=hIJ;clear hrow hgr hI hyI;(go_wp2_with fail);go_ret;refine⟨by rw[HYI.out];rfl,?_,?_⟩
    ·rw[HYI.out];refine A6.of_row (N:=c*5) HYI.out hBg (BN (Dw (xs.length-I)) (I*5) wr f HROW.out) rfl (by omega) hmx (fun t ht j hj=>?_);have hj':j<5:=hj;have hsz:At.sz=5:=rfl;rw[hsz,if_neg (by omega),hf.out.1 t ht j hj',HYS.out,<- EP]
    ·have h2:=EK HGR.out (BO g (Dw (xs.length-I)) (I*5) wr);exact⟨h2.os.trans HB1.out.os,h2.tape.trans HB1.out.tape,h2.output.trans HB1.out.output,Nat.le_trans HB1.out.size h2.size,fun q hq hne=>(h2.block q (Nat.lt_of_lt_of_le hq HB1.out.size) hne).trans (HB1.out.block q hq)⟩
def Ai (xs:List CI) (J:Nat):List CI:=(xs.take J).filter (fun e=>!e.doom)
theorem Di(xs:List CI)(J:Nat)(h:J<xs.length):Ai xs (J+1)=if (A8 As xs J).doom then Ai xs J else Ai xs J++[A8 As xs J]:=by
 unfold Ai;rw[DB As xs J h,List.filter_append];cases hd:(A8 As xs J).doom<;>simp[hd]
theorem FX(xs:List CI):∀i,i<=xs.length->(∀t,t<i->(A8 As xs t).doom=false)->Ai xs i=xs.take i
 | 0,_,_=>by simp[Ai]
 | i+1,h,hd=>by rw[Di xs i h,hd i (by omega),FX xs i (by omega) (fun t ht=>hd t (by omega)),DB As xs i h];rfl
theorem Lh(xs:List CI)(J:Nat):(Ai xs J).length<=J:=by
 unfold Ai;exact Nat.le_trans (List.length_filter_le _ _) (by rw[List.length_take];omega)
theorem EV(xs:List CI):Ai xs xs.length=xs.filter (fun e=>!e.doom):=by unfold Ai;rw[List.take_length]
theorem F6(P S O R:Int)(D:Bool)(w:World):Calls prog 189 #[.agg #[.int .i64 P,.int .i64 S,.bool D,.int .i64 O,.int .i64 R]] w fun e w'=>e=.returned (.bool D)/\Below w.heap.size w w':=by
 go_enter func189,ntmps189
 go_wp2_with fail
 go_ret;exact⟨rfl,(Below.refl _ _).alloc (Nat.le_refl _) _⟩
theorem Nm{xs:List CI}{f:Nat->Value}{k:Nat}(hf:∀j,j<5->f (k*5+j)=AL As xs k j):∃P S O R,f (k*5)=.int .i64 P/\f (k*5+1)=.int .i64 S/\f (k*5+2)=.bool (A8 As xs k).doom/\f (k*5+3)=.int .i64 O/\f (k*5+4)=.int .i64 R/\As.enc (A8 As xs k)=[.int .i64 P,.int .i64 S,.bool (A8 As xs k).doom,.int .i64 O,.int .i64 R] :=
 ⟨_,_,_,_,hf 0 (by omega),hf 1 (by omega),hf 2 (by omega),hf 3 (by omega),hf 4 (by omega),rfl⟩
theorem Lx(a:Option Addr)(c B:Nat)(xs:List CI)(w:World)(hn:xs.length<=256)(hv:A6 As w B (.slice a xs.length c) xs):Calls prog 191 #[.slice a xs.length c,.func (.func 189) #[] #[]] w fun e w'=>(∃r:Int,e=.returned (.int .i64 r)/\((r=-1/\∀t,t<xs.length->(A8 As xs t).doom=false)\/∃i:Nat,r=i/\i<xs.length/\(A8 As xs i).doom=true/\∀t,t<i->(A8 As xs t).doom=false))/\Below w.heap.size w w':=by
 have HF:Hid (0<xs.length->∃g f,a=some ⟨g,0,none⟩/\g<w.heap.size/\(∀wX:World,Below w.heap.size w wX->wX.rowIs g 158 (c*5) f)/\xs.length<=c/\∀i,i<xs.length->∀j,j<5->f (i*5+j)=AL As xs i j):=fun h0=>by
  obtain⟨g,h1,_⟩:=hv.cellsB;obtain⟨rfl,hl,_⟩:=h1 h0;obtain⟨_,hc,_,f,hr,hf⟩:=hv.full;exact⟨g,f,rfl,hl,fun wX hX=>hr.of_block (hX.block g hl),hc,hf⟩
 clear hv;go_enter func191,ntmps191
 go_wp2_with fail
 go_loopw [8] (fun i wr=>∃k:Nat,k<=xs.length/\i=.int .i64 k/\Hid (∀t,t<k->(A8 As xs t).doom=false)/\Below w.heap.size w wr) (fun i _=>xs.length-(intOf i).toNat)
 case atStart=>exact⟨0,Nat.zero_le _,rfl,fun j hj=>absurd hj (by omega),Below.refl _ _⟩
 case round =>
  obtain⟨k,hk,rfl,hall,hb⟩:=hrel;by_cases hlt:k<xs.length
  ·obtain⟨g,f,rfl,hgl,hr,hc,hf⟩:=HF.out (by omega);have hr1:=hr wr hb;obtain⟨P,S,O,R,e0,e1,e2,e3,e4,_⟩:=Nm (hf k hlt);have c0:=hr1.cell (i:=k*5) (by omega);have c1:=hr1.cell (i:=k*5+1) (by omega);have c2:=hr1.cell (i:=k*5+2) (by omega);have c3:=hr1.cell (i:=k*5+3) (by omega);have c4:=hr1.cell (i:=k*5+4) (by omega);rw[e0] at c0;rw[e1] at c1;rw[e2] at c2;rw[e3] at c3;rw[e4] at c4;(have L1:(0:Int)<=(k:Int):=by omega);(have L2:(k:Int)<(xs.length:Int):=by omega);have HB:Hid (Below w.heap.size w wr):=hb;clear hr hr1 hf e0 e1 e2 e3 e4 hb;cases hD:(A8 As xs k).doom<;>rw[hD] at c2
   ·have hcl:=F6 P S O R false wr;have HD:Hid ((A8 As xs k).doom=false):=hD;clear hD;(go_wp2_with (go_at_call 189;refine hcl.mono ?_;rintro e w1 ⟨rfl,hb1⟩));go_roundw;case rel =>
     refine⟨k+1,by omega,by go_num,fun t ht=>?_,HB.out.trans (hb1.mono HB.out.size)⟩;by_cases e:t=k
     ·rw[e];exact HD.out
     ·exact hall.out t (by omega)
    case measure=>simp[intOf];omega
   ·have hcl:=F6 P S O R true wr;have HD:Hid ((A8 As xs k).doom=true):=hD;clear hD;(go_wp2_with (go_at_call 189;refine hcl.mono ?_;rintro e w1 ⟨rfl,hb1⟩));go_ret;exact⟨⟨_,rfl,.inr ⟨k,rfl,hlt,HD.out,hall.out⟩⟩,HB.out.trans (hb1.mono HB.out.size)⟩
  ·(go_wp2_with fail);go_ret;exact⟨⟨_,rfl,.inl ⟨rfl,fun t ht=>hall.out t (by omega)⟩⟩,hb⟩
set_option maxRecDepth 100000 in
theorem KX(a:Option Addr)(c B:Nat)(xs:List CI)(w:World)(hn:xs.length<=256)(hv:A6 As w B (.slice a xs.length c) xs):Calls prog 188 #[.slice a xs.length c,.func (.func 189) #[] #[]] w fun e w'=>e=.returned (.slice a (xs.filter (fun e=>!e.doom)).length c)/\A6 As w' B (.slice a (xs.filter (fun e=>!e.doom)).length c) (xs.filter (fun e=>!e.doom))/\w.grownBy w' (Al a):=by
 have hid:=Lx a c B xs w hn hv;have HV:Hid (A6 As w B (.slice a xs.length c) xs):=hv;obtain⟨ys,hys⟩:∃ys,ys=xs.filter (fun e=>!e.doom):=⟨_,rfl⟩
 rw[<- hys];have HYS:Hid (ys=_):=hys;clear hv hys;go_enter func188,ntmps188
 go_wp2_with fail
 refine hid.mono ?_;rintro e w1 ⟨⟨r,rfl,hr⟩,hb1⟩;rcases hr with⟨rfl,hno⟩|⟨i,rfl,hi,hdi,hbef⟩
 ·have hyx:ys=xs:=by rw[HYS.out,<- EV,FX xs xs.length (Nat.le_refl _) hno,List.take_length]
  subst hyx;clear hid hno;go_wp2_with fail
  go_ret;exact⟨rfl,HV.out.below hb1,⟨hb1.os,hb1.tape,hb1.output,hb1.size,fun k hk _=>hb1.block k hk⟩⟩
 ·obtain⟨g,hg1,_⟩:=HV.out.cellsB;obtain⟨rfl,hgl,hBg,hlc⟩:=hg1 (by omega);obtain⟨_,_,hmx,f0,hr0,hf0⟩:=HV.out.full;have hr1:w1.rowIs g 158 (c*5) f0:=hr0.of_block (hb1.block g hgl);have hf1:∀t,t<xs.length->∀j,j<5->f0 (t*5+j)=AL As xs t j:=hf0
  have hk0:Ai xs (i+1)=xs.take i:=by rw[Di xs i hi,hdi,FX xs i (by omega) hbef];rfl
  have HR1:Hid (w1.rowIs g 158 (c*5) f0):=hr1;have HF1:Hid _:=hf1;have HK0:Hid (Ai xs (i+1)=xs.take i):=hk0;have HB1:Hid (Below w.heap.size w w1):=hb1;have di:((i:Int)==-1)=false:=by simp
  have L0:(0:Int)<=(i:Int):=by omega
  clear hid hr0 hf0 hr1 hf1 hk0 hb1 hg1;go_wp2_with fail
  go_loopw [5,6] (fun s5 s6 wr=>∃(I J:Nat),s5=.int .i64 I/\s6=.int .i64 J/\J<=xs.length/\I<J/\I=(Ai xs J).length/\(∃f,wr.rowIs g 158 (c*5) f/\Hid ((∀t,t<I->∀j,j<5->f (t*5+j)=AL As (Ai xs J) t j)/\(∀t,J<=t->t<xs.length->∀j,j<5->f (t*5+j)=AL As xs t j)))/\w1.grownBy wr (some g)) (fun s5 s6 _=>xs.length-(intOf s6).toNat)
  case atStart =>
   refine⟨i,i+1,rfl,by go_num,by omega,by omega,?_,⟨f0,HR1.out,fun t ht j hj=>?_,fun t h1 h2 j hj=>HF1.out t h2 j hj⟩,World.grownBy.refl _ _⟩
   ·rw[HK0.out,List.length_take];omega
   ·rw[HF1.out t (by omega) j hj,HK0.out];unfold AL A8;rw[List.getD_eq_getElem?_getD,List.getD_eq_getElem?_getD,List.getElem?_take,if_pos ht]
  case round =>
   obtain⟨I,J,rfl,rfl,hJn,hIJ,hI,⟨f,hrow,hf⟩,hgr⟩:=hrel;have hgw:g<wr.heap.size:=hrow.lt;by_cases hlt:J<xs.length
   ·obtain⟨P,S,O,R,e0,e1,e2,e3,e4,hec⟩:=Nm (hf.out.2 J (Nat.le_refl _) hlt);have c0:=hrow.cell (i:=J*5) (by omega);have c1:=hrow.cell (i:=J*5+1) (by omega);have c2:=hrow.cell (i:=J*5+2) (by omega);have c3:=hrow.cell (i:=J*5+3) (by omega);have c4:=hrow.cell (i:=J*5+4) (by omega);rw[e0] at c0;rw[e1] at c1;rw[e2] at c2;rw[e3] at c3;rw[e4] at c4;have hks:=Di xs J hlt;(have M1:(0:Int)<=(J:Int):=by omega);(have M2:(J:Int)<(xs.length:Int):=by omega);(have M3:(0:Int)<=(I:Int):=by omega);(have M4:(I:Int)<(xs.length:Int):=by omega);have HROW:Hid (wr.rowIs g 158 (c*5) f):=hrow;have HGR:Hid (w1.grownBy wr (some g)):=hgr;have HI:Hid (I=_):=hI;clear e0 e1 e2 e3 e4 hrow hgr hI;cases hD:(A8 As xs J).doom<;>rw[hD] at c2 hks hec
    ·(obtain⟨wx,hwx⟩:∃wx,wx=wr.alloc (.cells #[.int .i64 P,.int .i64 S,.bool false,.int .i64 O,.int .i64 R] 158):=⟨_,rfl⟩);(have hzx:wx.heap.size=wr.heap.size+1:=by rw[hwx];simp);(have bx:Below wr.heap.size wr wx:=by rw[hwx];exact(Below.refl _ _).alloc (Nat.le_refl _) _);have hcl:=F6 P S O R false wx;have HBX:Hid (∀wX,Below wx.heap.size wx wX->wX.cell? ⟨wr.heap.size,0,none⟩=some (.int .i64 P)/\wX.cell? ⟨wr.heap.size,1,none⟩=some (.int .i64 S)/\wX.cell? ⟨wr.heap.size,2,none⟩=some (.bool false)/\wX.cell? ⟨wr.heap.size,3,none⟩=some (.int .i64 O)/\wX.cell? ⟨wr.heap.size,4,none⟩=some (.int .i64 R)):=fun wX hX=>by
      refine⟨?_,?_,?_,?_,?_⟩;iterate 5 (exact(hX.cell (by simp;omega)).trans (by rw[hwx];simp[go_sem]))
     rw[hwx] at hcl;have HWX:Hid (wx=_):=hwx;(have HKS:Hid (Ai xs (J+1)=Ai xs J++[A8 As xs J]):=by rw[hks];rfl);have HEC:Hid _:=hec;have HBXW:Hid (Below wr.heap.size wr wx):=bx;have HZX:Hid (wx.heap.size=_):=hzx;clear hwx bx hD hks hec hzx;(go_wp2_with fail);refine hcl.mono ?_;rintro e w2 ⟨rfl,hb2'⟩;(have hb2:Below wx.heap.size wx w2:=by rw[HWX.out];exact hb2');have b2:Below wr.heap.size wr w2:=HBXW.out.trans (hb2.mono HBXW.out.size);have hrow2:w2.rowIs g 158 (c*5) f:=HROW.out.of_block (b2.block g hgw);obtain⟨x0,x1,x2,x3,x4⟩:=HBX.out w2 hb2;have o0:=hrow2.cell (i:=I*5) (by omega);have o1:=hrow2.cell (i:=I*5+1) (by omega);have o2:=hrow2.cell (i:=I*5+2) (by omega);have o3:=hrow2.cell (i:=I*5+3) (by omega);have o4:=hrow2.cell (i:=I*5+4) (by omega);have z0:=hrow2.frozen (I*5);have z1:=hrow2.frozen (I*5+1);have z2:=hrow2.frozen (I*5+2);have z3:=hrow2.frozen (I*5+3);have z4:=hrow2.frozen (I*5+4);(have N0:¬g=wr.heap.size:=by omega);(have N1:wr.heap.size<w2.heap.size:=by have:=hb2.size;have:=HZX.out;omega);(have N2:g<w2.heap.size:=by omega);generalize f (I*5)=v0 at o0;generalize f (I*5+1)=v1 at o1;generalize f (I*5+2)=v2 at o2;generalize f (I*5+3)=v3 at o3;generalize f (I*5+4)=v4 at o4;have HR2:Hid (w2.rowIs g 158 (c*5) f):=hrow2;have HB2:Hid (Below wr.heap.size wr w2):=b2;clear hcl hb2 hb2' b2 hrow2 c0 c1 c2 c3 c4;(go_wp2_with fail);go_roundw;case rel =>
      refine⟨I+1,J+1,by go_num,by go_num,by omega,by omega,?_,⟨_,((((HR2.out.set (I*5) _).set (I*5+1) _).set (I*5+2) _).set (I*5+3) _).set (I*5+4) _,fun t ht j hj=>?_,fun t h1 h2 j hj=>?_⟩,?_⟩
      ·rw[HKS.out,List.length_append,<- HI.out];rfl
      ·by_cases e:t=I
       ·have hcell:AL As (Ai xs (J+1)) t j=(([.int .i64 P,.int .i64 S,.bool false,.int .i64 O,.int .i64 R]:List Value)[j]?).getD (.bool false):=by
         unfold AL;rw[HKS.out,e,HI.out,FG,HEC.out]
        rw[hcell,e];rcases(show j=0\/j=1\/j=2\/j=3\/j=4 by omega) with rfl|rfl|rfl|rfl|rfl<;>simp
       ·have hcell:AL As (Ai xs (J+1)) t j=AL As (Ai xs J) t j:=by
         unfold AL;rw[HKS.out,Fd As _ _ t (by rw[<- HI.out];omega)]
        rw[hcell,<- hf.out.1 t (by omega) j hj];rw[if_neg (by omega),if_neg (by omega),if_neg (by omega),if_neg (by omega),if_neg (by omega)]
      ·rw[<- hf.out.2 t (by omega) h2 j hj];rw[if_neg (by omega),if_neg (by omega),if_neg (by omega),if_neg (by omega),if_neg (by omega)]
      ·refine AN (AN (AN (AN (AN ?_ _ _) _ _) _ _) _ _) _ _;exact⟨HB2.out.os.trans HGR.out.os,HB2.out.tape.trans HGR.out.tape,HB2.out.output.trans HGR.out.output,Nat.le_trans HGR.out.size HB2.out.size,fun q hq hne=>(HB2.out.block q (Nat.lt_of_lt_of_le hq HGR.out.size)).trans (HGR.out.block q hq hne)⟩
     case measure=>simp[intOf];omega
    ·(obtain⟨wx,hwx⟩:∃wx,wx=wr.alloc (.cells #[.int .i64 P,.int .i64 S,.bool true,.int .i64 O,.int .i64 R] 158):=⟨_,rfl⟩);(have bx:Below wr.heap.size wr wx:=by rw[hwx];exact(Below.refl _ _).alloc (Nat.le_refl _) _);have hcl:=F6 P S O R true wx;rw[hwx] at hcl;have HWX:Hid (wx=_):=hwx;(have HKS:Hid (Ai xs (J+1)=Ai xs J):=by rw[hks];rfl);have HBXW:Hid (Below wr.heap.size wr wx):=bx;clear hwx bx hD hks hec;(go_wp2_with fail);refine hcl.mono ?_;rintro e w2 ⟨rfl,hb2'⟩;(have hb2:Below wx.heap.size wx w2:=by rw[HWX.out];exact hb2');have HB2:Hid (Below wr.heap.size wr w2):=HBXW.out.trans (hb2.mono HBXW.out.size);clear hcl hb2 hb2' c0 c1 c2 c3 c4;(go_wp2_with fail);go_roundw;case rel =>
      refine⟨I,J+1,rfl,by go_num,by omega,by omega,by rw[HKS.out];exact HI.out,⟨f,HROW.out.of_block (HB2.out.block g hgw),fun t ht j hj=>?_,fun t h1 h2 j hj=>hf.out.2 t (by omega) h2 j hj⟩,?_⟩
      ·rw[HKS.out];exact hf.out.1 t ht j hj
      ·exact⟨HB2.out.os.trans HGR.out.os,HB2.out.tape.trans HGR.out.tape,HB2.out.output.trans HGR.out.output,Nat.le_trans HGR.out.size HB2.out.size,fun q hq hne=>(HB2.out.block q (Nat.lt_of_lt_of_le hq HGR.out.size)).trans (HGR.out.block q hq hne)⟩
     case measure=>simp[intOf];omega
   ·(obtain rfl:J=xs.length:=by omega);have hclr:∀ty,(Builtin.clear_ #[150] ty #[.slice (some ⟨g,I*5,none⟩) (xs.length-I) (c-I)]).run prog wr=.ok (.tuple #[]) (wr.setCells g (I*5) (Dw (xs.length-I))):=fun ty =>
     E6 wr 150 158 ty (.agg #[.int .i64 0,.int .i64 0,.bool false,.int .i64 0,.int .i64 0]) (xs.length-I) (by omega) (Dw (xs.length-I)) underlying150 NG rfl (Hb _) g (I*5) (c-I)
      (fun j hj=>by
       rw[FH] at hj
       rw[hrow.cell (i:=I*5+j) (by omega)];rfl) (fun j hj=>hrow.frozen _)
    (have L1:(I:Int)<=(xs.length:Int):=by omega);(have L2:(0:Int)<=(I:Int):=by omega);(have L3:¬c=I:=by omega);(have L4:(xs.length:Int)<=(c:Int):=by omega);(have L5:(I:Int)<=(c:Int):=by omega);have HROW:Hid (wr.rowIs g 158 (c*5) f):=hrow;have HGR:Hid (w1.grownBy wr (some g)):=hgr;(have hyI:ys.length=I:=by rw[HYS.out,<- EV];exact hI.symm);have HYI:Hid (ys.length=I):=hyI;have HIJ:Hid (I<xs.length):=hIJ;clear hrow hgr hI hyI;(go_wp2_with fail);go_ret;refine⟨by rw[HYI.out];rfl,?_,?_⟩
    ·rw[HYI.out];refine A6.of_row (N:=c*5) HYI.out hBg (BN (Dw (xs.length-I)) (I*5) wr f HROW.out) rfl (by omega) hmx (fun t ht j hj=>?_);have hj':j<5:=hj;have hsz:As.sz=5:=rfl;rw[hsz,if_neg (by omega),hf.out.1 t ht j hj',HYS.out,<- EV]
    ·have h2:=EK HGR.out (BO g (Dw (xs.length-I)) (I*5) wr);exact⟨h2.os.trans HB1.out.os,h2.tape.trans HB1.out.tape,h2.output.trans HB1.out.output,Nat.le_trans HB1.out.size h2.size,fun q hq hne=>(h2.block q (Nat.lt_of_lt_of_le hq HB1.out.size) hne).trans (HB1.out.block q hq)⟩
end Go.Proofs.YtnmhkgmmpkjjeabGreat
