import Derived.Test.YtnmhkgmmpkjjeaaGreatM08
namespace Go.Proofs.YtnmhkgmmpkjjeaaGreat
open ChangeShapes WideShapes ChangeAt RowKit Proofs.Tryz
set_option linter.all false
set_option maxRecDepth 100000
set_option maxHeartbeats 4000000
attribute [local go_sem ↓] wp_at_zero wp_at_succ
def Dx:Dw Ht:=⟨56,4,fun x=>[.int .i64 x.k,.int .i64 x.o,.int .i64 x.p,.int .i64 x.s],Ru,by omega,fun _=>rfl⟩
theorem Wn:(prog.info? 56).map (fun i=>(i.zero,i.size,i.bytes))=some (some (.agg #[.int .i64 0,.int .i64 0,.int .i64 0,.int .i64 0]),4,32):=by kernel_rfl
theorem A8.push{α:Type}{E:Dw α}{w:World}{B n:Nat}{v:Value}{xs:List α}{x:α}(hn:xs.length=n)(h:w.ownsRow B E.T E.sz v (n+1) (AK E xs++E.enc x)):A8 E w B v (xs++[x]):=by
 unfold A8;rw[CC,List.length_append,List.length_singleton,hn];have e:AK E [x]=E.enc x:=by simp[AK]
 rw[e];exact h
theorem FF{w:World}{b g c:Nat}{Hs:List Ht}(h:A8 Dx w b (.slice (some ⟨g,0,none⟩) Hs.length c) Hs)(i:Nat)(hi:i<Hs.length):g<w.heap.size/\w.cell? ⟨g,i*4,none⟩=some (.int .i64 (AQ Dx Hs i).k)/\w.cell? ⟨g,i*4+1,none⟩=some (.int .i64 (AQ Dx Hs i).o)/\w.cell? ⟨g,i*4+2,none⟩=some (.int .i64 (AQ Dx Hs i).p)/\w.cell? ⟨g,i*4+3,none⟩=some (.int .i64 (AQ Dx Hs i).s):=by
 obtain⟨a,c',e,h1⟩:=h.form;obtain⟨g',N,f,e2,_,hr,hN,hf⟩:=h1 (by omega);have hN':Hs.length*4<=N:=hN;simp only[Value.slice.injEq] at e;obtain⟨e,_,_⟩:=e;rw[e2] at e;simp only[Option.some.injEq,Addr.mk.injEq,and_true] at e;subst e;refine⟨hr.lt,?_,?_,?_,?_⟩
 ·rw[hr.cell (i:=i*4) (by omega)];exact congrArg some (hf i hi 0 (by decide))
 ·rw[hr.cell (i:=i*4+1) (by omega)];exact congrArg some (hf i hi 1 (by decide))
 ·rw[hr.cell (i:=i*4+2) (by omega)];exact congrArg some (hf i hi 2 (by decide))
 ·rw[hr.cell (i:=i*4+3) (by omega)];exact congrArg some (hf i hi 3 (by decide))
def BV (xs:List AE) (k:Nat):List Ht:=(List.range k).map (fun p=>Dz xs (p:Nat))
theorem C1(xs:List AE)(k:Nat):(BV xs k).length=k:=by unfold BV;simp
theorem Po(xs:List AE)(k:Nat):BV xs (k+1)=BV xs k++[Dz xs (k:Nat)]:=by unfold BV;rw[List.range_succ,List.map_append];rfl
def hF (Hs:List Ht) (p:Nat):Ht:=AQ Dx Hs p
def lay (xs:List AE) (p:Nat):Ht:=hF (BV xs 4096) p
theorem JY(xs:List AE)(p:Nat)(hp:p<4096):lay xs p=Dz xs (p:Nat):=by
 unfold lay hF AQ BV;rw[List.getD_eq_getElem?_getD,List.getElem?_map,List.getElem?_range hp];rfl
theorem IQ(a:Option Addr)(cap b:Nat)(xs:List AE)(w:World)(hn:xs.length<=1048576)(hvs:VS xs)(h:A8 AA w b (.slice a xs.length cap) xs):Calls prog 71 #[.slice a xs.length cap] w fun e w'=>∃g c,e=.returned (.slice (some ⟨g,0,none⟩) 4096 c)/\A8 Dx w' w.heap.size (.slice (some ⟨g,0,none⟩) 4096 c) (BV xs 4096)/\Bl w w':=by
 obtain⟨i0,hi,hz0,hz1,hz2⟩:=info_parts Wn;have HAT:Hid (∀(p:Nat) wX,p<4096->Bl w wX->Calls prog 60 #[.slice a xs.length cap,.int .i64 p] wX (AM wX (.agg #[.int .i64 (Dz xs p).k,.int .i64 (Dz xs p).o,.int .i64 (Dz xs p).p,.int .i64 (Dz xs p).s]))):=fun p wX hp hX=>PC a cap b xs p wX hn hvs (by omega) (by omega) (h.below hX)
 have he:=A8.empty Dx w w.heap.size (Nat.le_refl _);have HE:=A5 he;clear h hvs he;go_enter func71,ntmps71
 go_wp2_with fail
 go_loopw [3,4] (fun vv iv wr=>∃t gv cv:Nat,t<=4096/\iv=.int .i64 t/\vv=.slice (some ⟨gv,0,none⟩) t cv/\A8 Dx wr w.heap.size (.slice (some ⟨gv,0,none⟩) t cv) (BV xs t)/\Bl w wr) (fun _ iv _=>4096-(intOf iv).toNat)
 case atStart =>
  refine⟨0,w.heap.size,0,Nat.zero_le _,rfl,rfl,HE.out,?_⟩;exact AO
 case round =>
  obtain⟨t,gv,cv,ht,rfl,rfl,hrow,hb⟩:=hrel;have hsz:=hb.size;by_cases hlt:t<4096
  ·(obtain⟨E,hE⟩:∃E,Dz xs (t:Nat)=E:=⟨_,rfl⟩);have hc:=HAT.out t wr hlt hb;(have HS:Hid (BV xs (t+1)=BV xs t++[E]):=A9 <| by rw[Po,hE]);rw[hE] at hc;obtain⟨A,B,C,D⟩:=E;dsimp only at hc;have HROW:=A5 hrow;have HB:=A5 hb;clear hrow hb hE;(go_wp2_with fail);refine hc.mono ?_;rintro e w1 ⟨rfl,hb1⟩;have hsz1:=hb1.size;have HB1:=A5 hb1;have HOWN:Hid (w1.ownsRow w.heap.size 56 4 (.slice (some ⟨gv,0,none⟩) t cv) t (AK Dx (BV xs t))):=by
    have h:=HROW.out.below hb1;unfold A8 at h;rw[C1] at h;exact h
   clear hc hb1;(go_wp2_with (at_builtin;refine wpList_append_lies _ rfl (.tmp 10) (.tmp 14) 137 rfl w.heap.size 56 i0 _ 4 32 underlying137 hi hz0 hz1 hz2 rfl (by omega) _ _ _ rfl (World.ownsRow.alloc HOWN.out _) ⟨w1.heap.size,0,none⟩ 1 1 [.int .i64 A,.int .i64 B,.int .i64 C,.int .i64 D] rfl rfl ?c1 ?c2 (by omega) ?c3 ?c4 ?c5 (w1.heap.size+1) ?c6 ?_));(case c1=>exact World.news_of_block (heap_alloc_new w1 (.cells #[.int .i64 A,.int .i64 B,.int .i64 C,.int .i64 D] 56)));(case c2=>intro u hu;simp at hu;rcases hu with rfl|rfl|rfl|rfl<;>rfl);(case c3=>unfold maxLen;omega);(case c4=>omega);(case c5=>simp;omega);(case c6=>simp);intro g1 cap1 wn hown hgrow hat hlt3;have hnew:A8 Dx wn w.heap.size (.slice (some ⟨g1,0,none⟩) (t+1) cap1) (BV xs (t+1)):=by
    rw[HS.out];exact A8.push (C1 xs t) hown
   have hbn:Bl w wn:=(((Ab HB.out HB1.out).alloc (by omega) _).grown hgrow (by simp;omega) (fun q hq=>(HROW.out.own q hq).1));clear hown hgrow hat;(go_wp2_with fail);go_roundw;(case rel=>exact⟨t+1,g1,cap1,by omega,by go_num,rfl,hnew,hbn⟩);case measure=>simp[intOf];omega
  ·(have e:t=4096:=by omega);subst e;(go_wp2_with fail);go_ret;exact⟨gv,cv,rfl,hrow,hb⟩
theorem PQ(v:Value)(p:Int)(w:World):Calls prog 73 #[v,.int .i64 1,.int .i64 p] w (AM w (.bool true)):=by
 go_enter func73,ntmps73
 go_wp2_with fail
 go_ret;exact⟨rfl,AH⟩
theorem Md(g c b:Nat)(Hs:List Ht)(p:Nat)(w:World)(hl:Hs.length=4096)(hp:p+256<=4096)(h:A8 Dx w b (.slice (some ⟨g,0,none⟩) Hs.length c) Hs):Calls prog 73 #[.slice (some ⟨g,0,none⟩) 4096 c,.int .i64 2,.int .i64 p] w (AM w (.bool (nd (hF Hs) 2 p))):=by
 have HC:Hid (∀i,i<4096->∀wX,Bl w wX->g<wX.heap.size/\wX.cell? ⟨g,i*4,none⟩=some (.int .i64 (hF Hs i).k)/\wX.cell? ⟨g,i*4+1,none⟩=some (.int .i64 (hF Hs i).o)/\wX.cell? ⟨g,i*4+2,none⟩=some (.int .i64 (hF Hs i).p)/\wX.cell? ⟨g,i*4+3,none⟩=some (.int .i64 (hF Hs i).s)):=fun i hi wX hX=>FF (h.below hX) i (by omega)
 have hcv:=ED 1;rw[show BX 1=256 from rfl] at hcv;clear h;go_enter func73,ntmps73
 go_wp2_with fail
 go_loopw [7] (fun iv wr=>∃k:Nat,k<=256/\iv=.int .i64 k/\Hid (∀j,j<k->hB (hF Hs) 2 (p+j)=false)/\Bl w wr) (fun iv _=>256-(intOf iv).toNat)
 case atStart=>exact⟨0,Nat.zero_le _,rfl,fun j hj=>absurd hj (by omega),AH⟩
 case round =>
  obtain⟨k,hk,rfl,hall,hb⟩:=hrel;have hsz:=hb.size;by_cases hlt:k<256
  ·obtain⟨hgl,c0,c1,c2,c3⟩:=HC.out (p+k) (by omega) wr hb;(obtain⟨E,hE⟩:∃E,hF Hs (p+k)=E:=⟨_,rfl⟩);(have HBq:Hid (hB (hF Hs) 2 (p+k)=decide (E.k=1/\((2:Nat)≠3\/E.s=1))):=A9 <| by unfold hB;rw[hE]);rw[hE] at c0 c1 c2 c3;obtain⟨A,B,C,D⟩:=E;dsimp only at c0 c1 c2 c3;have HB:=A5 hb;(have L1:(0:Int)<=(p:Int)+(k:Int):=by omega);(have L2:(p:Int)+(k:Int)<4096:=by omega);clear hb hE;by_cases hA:A=1
   ·subst hA;(have HV:Hid (hB (hF Hs) 2 (p+k)=true):=A9 <| by rw[HBq.out];simp);(go_wp2_with (go_at_call 79;refine(hcv _).mono ?_;rintro e wE ⟨rfl,hwE⟩;obtain rfl:=hwE.symm));go_ret;refine⟨by rw[Fi (show k<Ga 2 from hlt) HV.out];rfl,?_⟩;exact HB.out.alloc (by omega) _
   ·(have dA:(A==1)=false:=by simpa using hA);(have HV:Hid (hB (hF Hs) 2 (p+k)=false):=A9 <| by rw[HBq.out];simp;exact fun h=>absurd h hA);(go_wp2_with (go_at_call 79;refine(hcv _).mono ?_;rintro e wE ⟨rfl,hwE⟩;obtain rfl:=hwE.symm));go_roundw;case rel =>
     refine⟨k+1,by omega,by go_num,fun j hj=>?_,?_⟩
     ·by_cases e:j=k
      ·rw[e];exact HV.out
      ·exact hall.out j (by omega)
     ·exact HB.out.alloc (by omega) _
    case measure=>simp[intOf];omega
  ·(have e:k=256:=by omega);subst e;have HV:Hid (nd (hF Hs) 2 p=false):=JE (by decide) hall.out;(go_wp2_with (go_at_call 79;refine(hcv _).mono ?_;rintro e wE ⟨rfl,hwE⟩;obtain rfl:=hwE.symm));go_ret;exact⟨by rw[HV.out];rfl,hb⟩
theorem Mb(g c b:Nat)(Hs:List Ht)(p:Nat)(w:World)(hl:Hs.length=4096)(hp:p+16<=4096)(h:A8 Dx w b (.slice (some ⟨g,0,none⟩) Hs.length c) Hs):Calls prog 73 #[.slice (some ⟨g,0,none⟩) 4096 c,.int .i64 3,.int .i64 p] w (AM w (.bool (nd (hF Hs) 3 p))):=by
 have HC:Hid (∀i,i<4096->∀wX,Bl w wX->g<wX.heap.size/\wX.cell? ⟨g,i*4,none⟩=some (.int .i64 (hF Hs i).k)/\wX.cell? ⟨g,i*4+1,none⟩=some (.int .i64 (hF Hs i).o)/\wX.cell? ⟨g,i*4+2,none⟩=some (.int .i64 (hF Hs i).p)/\wX.cell? ⟨g,i*4+3,none⟩=some (.int .i64 (hF Hs i).s)):=fun i hi wX hX=>FF (h.below hX) i (by omega)
 have hcv:=ED 2;rw[show BX 2=16 from rfl] at hcv;clear h;go_enter func73,ntmps73
 go_wp2_with fail
 go_loopw [7] (fun iv wr=>∃k:Nat,k<=16/\iv=.int .i64 k/\Hid (∀j,j<k->hB (hF Hs) 3 (p+j)=false)/\Bl w wr) (fun iv _=>16-(intOf iv).toNat)
 case atStart=>exact⟨0,Nat.zero_le _,rfl,fun j hj=>absurd hj (by omega),AH⟩
 case round =>
  obtain⟨k,hk,rfl,hall,hb⟩:=hrel;have hsz:=hb.size;by_cases hlt:k<16
  ·obtain⟨hgl,c0,c1,c2,c3⟩:=HC.out (p+k) (by omega) wr hb;(obtain⟨E,hE⟩:∃E,hF Hs (p+k)=E:=⟨_,rfl⟩);(have HBq:Hid (hB (hF Hs) 3 (p+k)=decide (E.k=1/\((3:Nat)≠3\/E.s=1))):=A9 <| by unfold hB;rw[hE]);rw[hE] at c0 c1 c2 c3;obtain⟨A,B,C,D⟩:=E;dsimp only at c0 c1 c2 c3;have HB:=A5 hb;(have L1:(0:Int)<=(p:Int)+(k:Int):=by omega);(have L2:(p:Int)+(k:Int)<4096:=by omega);clear hb hE;by_cases hA:A=1
   ·subst hA;by_cases hD:D=1
    ·subst hD;(have HV:Hid (hB (hF Hs) 3 (p+k)=true):=A9 <| by rw[HBq.out];simp);(go_wp2_with (go_at_call 79;refine(hcv _).mono ?_;rintro e wE ⟨rfl,hwE⟩;obtain rfl:=hwE.symm));go_ret;refine⟨by rw[Fi (show k<Ga 3 from hlt) HV.out];rfl,?_⟩;exact HB.out.alloc (by omega) _
    ·(have dD:(D==1)=false:=by simpa using hD);(have HV:Hid (hB (hF Hs) 3 (p+k)=false):=A9 <| by rw[HBq.out];simp;exact hD);(go_wp2_with (go_at_call 79;refine(hcv _).mono ?_;rintro e wE ⟨rfl,hwE⟩;obtain rfl:=hwE.symm));go_roundw;case rel =>
      refine⟨k+1,by omega,by go_num,fun j hj=>?_,?_⟩
      ·by_cases e:j=k
       ·rw[e];exact HV.out
       ·exact hall.out j (by omega)
      ·exact HB.out.alloc (by omega) _
     case measure=>simp[intOf];omega
   ·(have dA:(A==1)=false:=by simpa using hA);(have HV:Hid (hB (hF Hs) 3 (p+k)=false):=A9 <| by rw[HBq.out];simp;exact fun h=>absurd h hA);(go_wp2_with (go_at_call 79;refine(hcv _).mono ?_;rintro e wE ⟨rfl,hwE⟩;obtain rfl:=hwE.symm));go_roundw;case rel =>
     refine⟨k+1,by omega,by go_num,fun j hj=>?_,?_⟩
     ·by_cases e:j=k
      ·rw[e];exact HV.out
      ·exact hall.out j (by omega)
     ·exact HB.out.alloc (by omega) _
    case measure=>simp[intOf];omega
  ·(have e:k=16:=by omega);subst e;have HV:Hid (nd (hF Hs) 3 p=false):=JE (by decide) hall.out;(go_wp2_with (go_at_call 79;refine(hcv _).mono ?_;rintro e wE ⟨rfl,hwE⟩;obtain rfl:=hwE.symm));go_ret;exact⟨by rw[HV.out];rfl,hb⟩
def Pz (s:List (Nat×Nat)):List P3:=s.map fun x=>⟨-1,x.1,x.2⟩
theorem If(s:List (Nat×Nat)):(Pz s).length=s.length:=by unfold Pz;simp
theorem R9(a b:List (Nat×Nat)):Pz (a++b)=Pz a++Pz b:=by unfold Pz;simp
structure Qm (w wr:World) (vv:Value) (l:List (Nat×Nat)):Prop where
 row:∃g c:Nat,vv=.slice (some ⟨g,0,none⟩) l.length c/\wr.ownsRow w.heap.size 67 3 (.slice (some ⟨g,0,none⟩) l.length c) l.length (DJ (Pz l))
 bel:Bl w wr
theorem Qm.below{w wr w1:World}{vv:Value}{l:List (Nat×Nat)}(h:Qm w wr vv l)(hb:Bl wr w1):Qm w w1 vv l:=by
 obtain⟨⟨g,c,e,hr⟩,hbel⟩:=h;refine⟨⟨g,c,e,?_⟩,Ab hbel hb⟩;exact World.ownsRow.kept (row:=none) hr (KC hb) (by rcases Classical.em (Value.ownBlock (.slice (some ⟨g,0,none⟩) l.length c)=none) with h|h;exact .inl h;exact .inr h)
theorem Qm.push{w w1 wn:World}{g c g1 c1 n:Nat}{l:List (Nat×Nat)}{L P:Nat}{o:Obj}(hl:l.length=n)(hbel:Bl w w1)(hr:w1.ownsRow w.heap.size 67 3 (.slice (some ⟨g,0,none⟩) n c) n (DJ (Pz l)))(hown:wn.ownsRow w.heap.size 67 3 (.slice (some ⟨g1,0,none⟩) (n+1) c1) (n+1) (DJ (Pz l)++[.int .i64 (-1),.int .i64 L,.int .i64 P]))(hgrow:(w1.alloc o).grownBy wn (Value.ownBlock (.slice (some ⟨g,0,none⟩) n c))):Qm w wn (.slice (some ⟨g1,0,none⟩) (n+1) c1) (l++[(L,P)]):=by
 subst hl;refine⟨⟨g1,c1,by simp,?_⟩,?_⟩
 ·rw[R9,EY,List.length_append,List.length_singleton];exact hown
 ·exact(hbel.alloc hbel.size _).grown hgrow (by have:=hbel.size;simp;omega) (fun q hq=>(World.ownsRow.lt hr q hq).1)
theorem GF(g c b:Nat)(Hs:List Ht)(w:World)(hl:Hs.length=4096)(h:A8 Dx w b (.slice (some ⟨g,0,none⟩) Hs.length c) Hs):Calls prog 72 #[.slice (some ⟨g,0,none⟩) 4096 c] w fun e w'=>∃g c,e=.returned (.slice (some ⟨g,0,none⟩) (AJ (hF Hs) 256).length c)/\BE w' w.heap.size (.slice (some ⟨g,0,none⟩) (AJ (hF Hs) 256).length c) (Pz (AJ (hF Hs) 256))/\Bl w w':=by
 obtain⟨i0,hi,hz0,hz1,hz2⟩:=info_parts ET;have H2:Hid (∀(p:Nat) wX,p+256<=4096->Bl w wX->Calls prog 73 #[.slice (some ⟨g,0,none⟩) 4096 c,.int .i64 2,.int .i64 p] wX (AM wX (.bool (nd (hF Hs) 2 p)))):=fun p wX hp hX=>Md g c b Hs p wX hl hp (h.below hX)
 have H3:Hid (∀(p:Nat) wX,p+16<=4096->Bl w wX->Calls prog 73 #[.slice (some ⟨g,0,none⟩) 4096 c,.int .i64 3,.int .i64 p] wX (AM wX (.bool (nd (hF Hs) 3 p)))):=fun p wX hp hX=>Mb g c b Hs p wX hl hp (h.below hX)
 have hnw:BE (w.alloc (.cells #[.int .i64 (-1),.int .i64 1,.int .i64 0] 67)) w.heap.size (.slice (some ⟨w.heap.size,0,none⟩) 1 1) [⟨-1,1,0⟩]:=LC w w.heap.size (Nat.le_refl _) ⟨-1,1,0⟩;have HNW:Hid (Qm w (w.alloc (.cells #[.int .i64 (-1),.int .i64 1,.int .i64 0] 67)) (.slice (some ⟨w.heap.size,0,none⟩) 1 1) (AJ (hF Hs) 0)):=⟨⟨w.heap.size,1,rfl,hnw⟩,AO⟩;clear h hnw;go_enter func72,ntmps72
 go_wp2_with fail
 go_loopw [3,4] (fun vv iv wr=>∃t:Nat,t<=256/\iv=.int .i64 (t*16:Nat)/\Qm w wr vv (AJ (hF Hs) t)) (fun _ iv _=>4096-(intOf iv).toNat)
 case atStart=>exact⟨0,Nat.zero_le _,rfl,HNW.out⟩
 case round =>
  obtain⟨t,ht,rfl,hst⟩:=hrel;obtain⟨P,hP⟩:∃P,P=t*16:=⟨_,rfl⟩
  rw[<- hP];have hpl:=JL (hF Hs) t;have HP:=A5 hP;by_cases hlt:t<256
  ·(have LP:(P:Int)+16<=4096:=by omega);(have L0:(P:Int)<4096:=by omega);have HSU:Hid (AJ (hF Hs) (t+1)=AJ (hF Hs) t++Es (hF Hs) t):=Hc (hF Hs) t;have HM:Hid (t%16=0↔(P:Int)%256=0):=by
    (have:t%16=0↔(P:Int)%256=0:=by omega);exact this
   generalize AJ (hF Hs) t=l at hst hpl HSU;clear hP;by_cases hm:(P:Int)%256=0
   ·(have dm:((P:Int)%256==0)=true:=by simpa using hm);(have LP2:P+256<=4096:=by omega);have hc2:=H2.out P wr LP2 hst.bel;have HT:Hid (t%16=0):=HM.out.2 hm;cases hd2:nd (hF Hs) 2 P
    ·rw[hd2] at hc2;have HW1:Hid (Es (hF Hs) t=if nd (hF Hs) 3 P then [(3,P)] else []):=A9 <| by
      unfold Es;rw[if_neg (fun hh=>by rw[<- HP.out,hd2] at hh;cases hh.2),List.nil_append,<- HP.out,NQ]
     clear hd2 hm;(go_wp2_with fail);refine hc2.mono ?_;rintro e w1 ⟨rfl,hb1⟩;have hst1:=hst.below hb1;clear hc2;(go_wp2_with fail);clear hst hb1;have hc3:=H3.out P w1 (by omega) hst1.bel;cases hd3:nd (hF Hs) 3 P
     ·rw[hd3] at hc3;(have HEQ:Hid (AJ (hF Hs) (t+1)=l):=A9 <| by rw[HSU.out,HW1.out,hd3];simp);clear hd3;(go_wp2_with fail);refine hc3.mono ?_;rintro e w2 ⟨rfl,hb2⟩;have hst2:=hst1.below hb2;clear hc3;(go_wp2_with fail);go_roundw;(case rel=>exact⟨t+1,by omega,by rw[HP.out];go_num,by rw[HEQ.out];exact hst2⟩);case measure=>simp[intOf];omega
     ·rw[hd3] at hc3;(have HEQ:Hid (AJ (hF Hs) (t+1)=l++[(3,P)]):=A9 <| by rw[HSU.out,HW1.out,hd3];simp);clear hd3;(go_wp2_with fail);refine hc3.mono ?_;rintro e w2 ⟨rfl,hb2⟩;have hst2:=hst1.below hb2;obtain⟨⟨gw,cw,evv,hrow2⟩,hbel2⟩:=hst2;(first|subst evv|(simp only[Value.slice.injEq,Option.some.injEq,Addr.mk.injEq,and_true,true_and] at evv;obtain⟨rfl,rfl⟩:=evv));have hsz2:=hbel2.size;have HR2:=A5 hrow2;have HB2:=A5 hbel2;clear hst1 hb2 hc3 hrow2 hbel2;(go_wp2_with (at_builtin;refine wpList_append_lies _ rfl (.tmp 27) (.tmp 30) 61 rfl w.heap.size 67 i0 _ 3 24 underlying61 hi hz0 hz1 hz2 rfl (by omega) _ _ _ rfl (World.ownsRow.alloc HR2.out _) ⟨w2.heap.size,0,none⟩ 1 1 [.int .i64 (-1),.int .i64 3,.int .i64 P] rfl rfl ?c1 ?c2 (by omega) ?c3 ?c4 ?c5 (w2.heap.size+1) ?c6 ?_));(case c1=>exact World.news_of_block (heap_alloc_new w2 (.cells #[.int .i64 (-1),.int .i64 3,.int .i64 P] 67)));(case c2=>intro u hu;simp at hu;rcases hu with rfl|rfl|rfl<;>rfl);(case c3=>unfold maxLen;omega);(case c4=>omega);(case c5=>simp;omega);(case c6=>simp);intro g3 cap3 wn hown hgrow hat hlt3;have hstn:Qm w wn (.slice (some ⟨g3,0,none⟩) (l.length+1) cap3) (l++[(3,P)]):=Qm.push rfl HB2.out HR2.out hown hgrow;clear hown hgrow hat hlt3;(go_wp2_with fail);go_roundw;(case rel=>exact⟨t+1,by omega,by rw[HP.out];go_num,by rw[HEQ.out];exact hstn⟩);case measure=>simp[intOf];omega
    ·rw[hd2] at hc2;have HW1:Hid (Es (hF Hs) t=(2,P) :: (if nd (hF Hs) 3 P then [(3,P)] else [])):=A9 <| by
      unfold Es;rw[if_pos ⟨HT.out,by rw[<- HP.out];exact hd2⟩,<- HP.out,NQ];rfl
     clear hd2 hm;(go_wp2_with fail);refine hc2.mono ?_;rintro e w0 ⟨rfl,hb0⟩;have hst0:=hst.below hb0;obtain⟨⟨gv,cv,rfl,hrow0⟩,hbel0⟩:=hst0;have hsz0:=hbel0.size;have HR0:=A5 hrow0;have HB0:=A5 hbel0;clear hst hb0 hc2 hrow0 hbel0;(go_wp2_with (at_builtin;refine wpList_append_lies _ rfl (.tmp 19) (.tmp 22) 61 rfl w.heap.size 67 i0 _ 3 24 underlying61 hi hz0 hz1 hz2 rfl (by omega) _ _ _ rfl (World.ownsRow.alloc HR0.out _) ⟨w0.heap.size,0,none⟩ 1 1 [.int .i64 (-1),.int .i64 2,.int .i64 P] rfl rfl ?c1 ?c2 (by omega) ?c3 ?c4 ?c5 (w0.heap.size+1) ?c6 ?_));(case c1=>exact World.news_of_block (heap_alloc_new w0 (.cells #[.int .i64 (-1),.int .i64 2,.int .i64 P] 67)));(case c2=>intro u hu;simp at hu;rcases hu with rfl|rfl|rfl<;>rfl);(case c3=>unfold maxLen;omega);(case c4=>omega);(case c5=>simp;omega);(case c6=>simp);intro g1 cap1 w1 hown hgrow hat hlt3;have hst1:Qm w w1 (.slice (some ⟨g1,0,none⟩) (l.length+1) cap1) (l++[(2,P)]):=Qm.push rfl HB0.out HR0.out hown hgrow;(have HW2:Hid (AJ (hF Hs) (t+1)=(l++[(2,P)])++(if nd (hF Hs) 3 P then [(3,P)] else [])):=A9 <| by rw[HSU.out,HW1.out,List.append_assoc];rfl);(have hpl2:(l++[(2,P)]).length<=514:=by rw[List.length_append,List.length_singleton];omega);(have ell:l.length+1=(l++[(2,P)]).length:=by simp);rw[ell] at hst1 ⊢;clear hown hgrow hat hlt3;generalize l++[(2,P)]=l2 at hst1 HW2 hpl2 ⊢;clear ell;have hc3:=H3.out P w1 (by omega) hst1.bel;cases hd3:nd (hF Hs) 3 P
     ·rw[hd3] at hc3;(have HEQ:Hid (AJ (hF Hs) (t+1)=l2):=A9 <| by rw[HW2.out,hd3];simp);clear hd3;(go_wp2_with fail);refine hc3.mono ?_;rintro e w2 ⟨rfl,hb2⟩;have hst2:=hst1.below hb2;clear hc3;(go_wp2_with fail);go_roundw;(case rel=>exact⟨t+1,by omega,by rw[HP.out];go_num,by rw[HEQ.out];exact hst2⟩);case measure=>simp[intOf];omega
     ·rw[hd3] at hc3;(have HEQ:Hid (AJ (hF Hs) (t+1)=l2++[(3,P)]):=A9 <| by rw[HW2.out,hd3];simp);clear hd3;(go_wp2_with fail);refine hc3.mono ?_;rintro e w2 ⟨rfl,hb2⟩;have hst2:=hst1.below hb2;obtain⟨⟨gw,cw,evv,hrow2⟩,hbel2⟩:=hst2;(first|subst evv|(simp only[Value.slice.injEq,Option.some.injEq,Addr.mk.injEq,and_true,true_and] at evv;obtain⟨rfl,rfl⟩:=evv));have hsz2:=hbel2.size;have HR2:=A5 hrow2;have HB2:=A5 hbel2;clear hst1 hb2 hc3 hrow2 hbel2;(go_wp2_with (at_builtin;refine wpList_append_lies _ rfl (.tmp 27) (.tmp 30) 61 rfl w.heap.size 67 i0 _ 3 24 underlying61 hi hz0 hz1 hz2 rfl (by omega) _ _ _ rfl (World.ownsRow.alloc HR2.out _) ⟨w2.heap.size,0,none⟩ 1 1 [.int .i64 (-1),.int .i64 3,.int .i64 P] rfl rfl ?c1 ?c2 (by omega) ?c3 ?c4 ?c5 (w2.heap.size+1) ?c6 ?_));(case c1=>exact World.news_of_block (heap_alloc_new w2 (.cells #[.int .i64 (-1),.int .i64 3,.int .i64 P] 67)));(case c2=>intro u hu;simp at hu;rcases hu with rfl|rfl|rfl<;>rfl);(case c3=>unfold maxLen;omega);(case c4=>omega);(case c5=>simp;omega);(case c6=>simp);intro g3 cap3 wn hown hgrow hat hlt3;have hstn:Qm w wn (.slice (some ⟨g3,0,none⟩) (l2.length+1) cap3) (l2++[(3,P)]):=Qm.push rfl HB2.out HR2.out hown hgrow;clear hown hgrow hat hlt3;(go_wp2_with fail);go_roundw;(case rel=>exact⟨t+1,by omega,by rw[HP.out];go_num,by rw[HEQ.out];exact hstn⟩);case measure=>simp[intOf];omega
   ·(have dm:((P:Int)%256==0)=false:=by simpa using hm);have HW1:Hid (Es (hF Hs) t=if nd (hF Hs) 3 P then [(3,P)] else []):=A9 <| by
     unfold Es;rw[if_neg (fun hh=>hm (HM.out.1 hh.1)),List.nil_append,<- HP.out,NQ]
    have hst1:=hst;(obtain⟨w1,rfl⟩:∃w1:World,w1=wr:=⟨_,rfl⟩);clear hst;have hc3:=H3.out P w1 (by omega) hst1.bel;cases hd3:nd (hF Hs) 3 P
    ·rw[hd3] at hc3;(have HEQ:Hid (AJ (hF Hs) (t+1)=l):=A9 <| by rw[HSU.out,HW1.out,hd3];simp);clear hd3;(go_wp2_with fail);refine hc3.mono ?_;rintro e w2 ⟨rfl,hb2⟩;have hst2:=hst1.below hb2;clear hc3;(go_wp2_with fail);go_roundw;(case rel=>exact⟨t+1,by omega,by rw[HP.out];go_num,by rw[HEQ.out];exact hst2⟩);case measure=>simp[intOf];omega
    ·rw[hd3] at hc3;(have HEQ:Hid (AJ (hF Hs) (t+1)=l++[(3,P)]):=A9 <| by rw[HSU.out,HW1.out,hd3];simp);clear hd3;(go_wp2_with fail);refine hc3.mono ?_;rintro e w2 ⟨rfl,hb2⟩;have hst2:=hst1.below hb2;obtain⟨⟨gw,cw,evv,hrow2⟩,hbel2⟩:=hst2;(first|subst evv|(simp only[Value.slice.injEq,Option.some.injEq,Addr.mk.injEq,and_true,true_and] at evv;obtain⟨rfl,rfl⟩:=evv));have hsz2:=hbel2.size;have HR2:=A5 hrow2;have HB2:=A5 hbel2;clear hst1 hb2 hc3 hrow2 hbel2;(go_wp2_with (at_builtin;refine wpList_append_lies _ rfl (.tmp 27) (.tmp 30) 61 rfl w.heap.size 67 i0 _ 3 24 underlying61 hi hz0 hz1 hz2 rfl (by omega) _ _ _ rfl (World.ownsRow.alloc HR2.out _) ⟨w2.heap.size,0,none⟩ 1 1 [.int .i64 (-1),.int .i64 3,.int .i64 P] rfl rfl ?c1 ?c2 (by omega) ?c3 ?c4 ?c5 (w2.heap.size+1) ?c6 ?_));(case c1=>exact World.news_of_block (heap_alloc_new w2 (.cells #[.int .i64 (-1),.int .i64 3,.int .i64 P] 67)));(case c2=>intro u hu;simp at hu;rcases hu with rfl|rfl|rfl<;>rfl);(case c3=>unfold maxLen;omega);(case c4=>omega);(case c5=>simp;omega);(case c6=>simp);intro g3 cap3 wn hown hgrow hat hlt3;have hstn:Qm w wn (.slice (some ⟨g3,0,none⟩) (l.length+1) cap3) (l++[(3,P)]):=Qm.push rfl HB2.out HR2.out hown hgrow;clear hown hgrow hat hlt3;(go_wp2_with fail);go_roundw;(case rel=>exact⟨t+1,by omega,by rw[HP.out];go_num,by rw[HEQ.out];exact hstn⟩);case measure=>simp[intOf];omega
  ·(have e:t=256:=by omega);subst e;subst hP;obtain⟨⟨gv,cv,rfl,hrow⟩,hbel⟩:=hst;(go_wp2_with fail);go_ret;refine⟨gv,cv,rfl,?_,hbel⟩;unfold BE;rw[If];exact hrow
def NJ (xs:List AE):Int:=if FP xs=true then ((AJ (lay xs) 256).length:Nat) else 0
theorem Yv{xs:List AE}(h:FP xs=false):NJ xs=0:=by unfold NJ;rw[h];rfl
theorem Rm{xs:List AE}(h:FP xs=true):NJ xs=((AJ (lay xs) 256).length:Nat):=by unfold NJ;rw[if_pos h]
end Go.Proofs.YtnmhkgmmpkjjeaaGreat
