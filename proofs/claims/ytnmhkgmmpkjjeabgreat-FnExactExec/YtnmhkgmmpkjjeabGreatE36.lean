import Derived.Test.YtnmhkgmmpkjjeabGreatE33
import Derived.Test.YtnmhkgmmpkjjeabGreatE35
namespace Go.Proofs.YtnmhkgmmpkjjeabGreat
open ChangeShapes WideShapes ChangeAt RowKit Proofs.Tryz
set_option linter.all false
set_option maxRecDepth 100000
set_option maxHeartbeats 4000000
attribute [local go_sem ↓] wp_at_zero wp_at_succ
theorem J0(zs:List Int)(hz:EG zs)(i:Nat)(hi:i<(AK zs).length):(((BQ (AK zs) i).lv=1\/(BQ (AK zs) i).lv=2\/(BQ (AK zs) i).lv=3)/\0<=(BQ (AK zs) i).pg/\(BQ (AK zs) i).pg<=20000):=by
 have hmem:BQ (AK zs) i∈AK zs:=by
  unfold BQ;rw[List.getD_eq_getElem?_getD,List.getElem?_eq_getElem hi];exact List.getElem_mem hi
 have e:AK zs=Bv zs (BS zs.length) 2 ⟨0,1,0⟩:=by unfold AK;rw[if_neg hz.n0]
 generalize BQ (AK zs) i=q at hmem ⊢;rw[e] at hmem;obtain⟨d',h⟩:=FW 2 ⟨0,1,0⟩ (Jr zs hz) _ hmem;obtain⟨h1,h2,_,_,h5,h6⟩:=h;omega
theorem UM.lat{W:World}{gu b0 B:Nat}{u:UV}{M:A9}(h:UM W gu b0 B true u M)(h0:0<M.mem.length):∃g,u.a2=some ⟨g,0,none⟩/\u.n2=(AE M).length/\Bj W g (AE M)/\(AE M).length<=u.c2/\b0<=g:=by
 obtain⟨h1,h2⟩:=h.l rfl;have e:u.n2=(AE M).length:=by rw[h1,Ac]
 rw[e] at h2;obtain⟨g,e1,hc,hl,hb⟩:=EN h2 (by rw[Ac];exact h0);exact⟨g,e1,e,hc,hl,hb⟩
theorem J7(gu b0 B:Nat)(u:UV)(M:A9)(f:Int)(w:World)(hok:Cv M)(hpd:∀i,i<M.pend.length->0<=(A8 AA M.pend i).addr)(h:UM w gu b0 B true u M):Calls prog 144 #[.pointer (some ⟨gu,0,none⟩),.int .i64 f] w fun e w'=>e=.returned (.int .i64 (if Br M f then 4 else 0))/\Below w.heap.size w w':=by
 have hm0:0<M.mem.length:=by have:=BP M.mem.length hok.n0;omega
 obtain⟨g1,ha1,hc1,hl1,_⟩:=EN h.w hm0;obtain⟨g2,ha2,hn2,hc2,hl2,_⟩:=h.lat hm0;obtain⟨gw,hw1,hw2⟩:=GP h.c;have hcl:=hok.c;have HP1:Hid (∀wX,Below w.heap.size w wX->Calls prog 156 #[.agg #[.slice (some ⟨g1,0,none⟩) M.mem.length u.c1],.int .i64 f] wX fun e w'=>e=.returned (.bool (C1 (AK M.mem) f))/\Below wX.heap.size wX w'):=fun wX hX=>FC g1 M.mem u.c1 f hok.okMem hl1 wX (hc1.below hX hc1.lt)
 have HP2:Hid (∀wX,Below w.heap.size w wX->Calls prog 156 #[.agg #[.slice (some ⟨g2,0,none⟩) (AE M).length u.c2],.int .i64 f] wX fun e w'=>e=.returned (.bool (C1 (AK (AE M)) f))/\Below wX.heap.size wX w'):=fun wX hX=>FC g2 (AE M) u.c2 f (Fy hok hpd) hl2 wX (hc2.below hX hc2.lt)
 have HQ:Hid (∀wX,Below w.heap.size w wX->wX.cell? ⟨gu,0,none⟩=some (.slice (some ⟨g1,0,none⟩) M.mem.length u.c1)/\wX.cell? ⟨gu,1,none⟩=some (.slice (some ⟨g2,0,none⟩) (AE M).length u.c2)/\wX.cell? ⟨gu,4,none⟩=some (.slice u.a5 M.wc.length u.c5)):=fun wX hX=>by
  have hu:=h.below hX;exact⟨by rw[<- ha1];exact hu.q0,by rw[<- ha2,<- hn2];exact hu.q1,hu.q4⟩
 have HW2:Hid (∀k L P T D,k<M.wc.length->A8 AJ M.wc k=⟨L,P,T,D⟩->u.a5=some ⟨gw,0,none⟩/\gw<w.heap.size/\∀wX,Below w.heap.size w wX->wX.cell? ⟨gw,k*5,none⟩=some (.int .i64 P)/\wX.cell? ⟨gw,k*5+1,none⟩=some (.int .i64 (16*Ab L))/\wX.cell? ⟨gw,k*5+2,none⟩=some (.bool D)/\wX.cell? ⟨gw,k*5+3,none⟩=some (.int .i64 L)/\wX.cell? ⟨gw,k*5+4,none⟩=some (.int .i64 T)):=fun k L P T D hk he=>by
  obtain⟨e1,e2⟩:=hw1 (by omega);exact⟨e1,e2,fun wX hX=>hw2 k L P T D hk he wX (hX.block gw e2)⟩
 obtain⟨q0,q1,q4⟩:=HQ.out w (Below.refl _ _);have hlt:=h.lt;obtain⟨n2,hn2'⟩:∃n2,n2=(AE M).length:=⟨_,rfl⟩
 rw[<- hn2'] at HP2 HQ q1;clear h hok hpd hc1 hc2 hw1 hw2 ha1 ha2 hl1 hl2 hn2 hn2';obtain⟨cd,hcd⟩:∃cd:Int,cd=if Br M f then 4 else 0:=⟨_,rfl⟩
 rw[<- hcd];have HCD:Hid (∀x,Br M f=x->cd=if x then 4 else 0):=fun x hx=>by rw[hcd,hx]
 clear hcd;cases hb1:C1 (AK M.mem) f
 ·cases hb2:C1 (AK (AE M)) f
  ·(have HU:Hid (∀x,KO M f=x->Br M f=x):=fun x hx=>by unfold Br;rw[hb1,hb2,hx];rfl);rw[hb1] at HP1;rw[hb2] at HP2;clear hb1 hb2;(go_enter func144,ntmps144);(go_wp2_with fail);refine(HP1.out w (Below.refl _ _)).mono ?_;rintro e w1 ⟨rfl,hbw1⟩;obtain⟨r0,r1,r4⟩:=HQ.out w1 hbw1;clear q0 q1 q4;(go_wp2_with fail);refine(HP2.out w1 hbw1).mono ?_;rintro e w2 ⟨rfl,hbw2⟩;have b2:Below w.heap.size w w2:=hbw1.trans (hbw2.mono hbw1.size);obtain⟨_,_,s4⟩:=HQ.out w2 b2;have HB2:Hid (Below w.heap.size w w2):=b2;clear r0 r1 r4 hbw1 hbw2 b2;(go_wp2_with fail);clear s4;(go_loopw [26] (fun i wr=>∃k:Nat,k<=M.wc.length/\i=.int .i64 k/\Hid (∀j,j<k->decide ((A8 AJ M.wc j).table=f)=false)/\Below w.heap.size w wr) (fun i _=>M.wc.length-(intOf i).toNat));(case atStart=>exact⟨0,Nat.zero_le _,rfl,fun j hj=>absurd hj (by omega),HB2.out⟩);case round =>
    obtain⟨k,hk,rfl,hall,hb⟩:=hrel;by_cases hlt2:k<M.wc.length
    ·(obtain⟨E,hE⟩:∃E,A8 AJ M.wc k=E:=⟨_,rfl⟩);obtain⟨L,P,T,D⟩:=E;obtain⟨hae,hgt,hcs⟩:=HW2.out k L P T D hlt2 hE;rw[hae];obtain⟨c0,c1,c2,c3,c4⟩:=hcs wr hb;have HE:Hid (A8 AJ M.wc k=_):=hE;(have L1:(0:Int)<=(k:Int):=by omega);(have L2:(k:Int)<(M.wc.length:Int):=by omega);have HB:Hid (Below w.heap.size w wr):=hb;clear hE hcs hae hb;generalize 16*Ab L=S at c1;by_cases hT:T=f
     ·(have d:(T==f)=true:=by simpa using hT);have HR:Hid (Br M f=true):=HU.out true (BF _ k _ hlt2 (by rw[HE.out];exact decide_eq_true hT));clear hT;(go_wp2_with fail);go_ret;exact⟨by rw[HCD.out _ HR.out];rfl,HB.out.alloc HB.out.size _⟩
     ·(have d:(T==f)=false:=by simpa using hT);(have HN:Hid (decide ((A8 AJ M.wc k).table=f)=false):=by rw[HE.out];exact decide_eq_false hT);clear hT;(go_wp2_with fail);go_roundw;case rel =>
       refine⟨k+1,by omega,by go_num,fun j hj=>?_,HB.out.alloc HB.out.size _⟩;by_cases e:j=k
       ·rw[e];exact HN.out
       ·exact hall.out j (by omega)
      case measure=>simp[intOf];omega
    ·have HR:Hid (Br M f=false):=HU.out false (BZ _ _ (fun j hj=>hall.out j (by omega)));(go_wp2_with fail);go_ret;exact⟨by rw[HCD.out _ HR.out];rfl,hb⟩
  ·(have HR:Hid (Br M f=true):=by unfold Br;rw[hb1,hb2];rfl);rw[hb1] at HP1;rw[hb2] at HP2;clear hb1 hb2;(go_enter func144,ntmps144);(go_wp2_with fail);refine(HP1.out w (Below.refl _ _)).mono ?_;rintro e w1 ⟨rfl,hbw1⟩;obtain⟨r0,r1,r4⟩:=HQ.out w1 hbw1;clear q0 q1 q4;(go_wp2_with fail);refine(HP2.out w1 hbw1).mono ?_;rintro e w2 ⟨rfl,hbw2⟩;(go_wp2_with fail);go_ret;exact⟨by rw[HCD.out _ HR.out];rfl,hbw1.trans (hbw2.mono hbw1.size)⟩
 ·have HR:Hid (Br M f=true):=by unfold Br;rw[hb1];rfl
  rw[hb1] at HP1;clear hb1;go_enter func144,ntmps144
  go_wp2_with fail
  refine(HP1.out w (Below.refl _ _)).mono ?_;rintro e w1 ⟨rfl,hbw1⟩;go_wp2_with fail
  go_ret;exact⟨by rw[HCD.out _ HR.out];rfl,hbw1⟩
def D6 (M:A9) (a:Int) (i:Nat):Bool:=if Ds M a%2=1 then decide ((BQ (AK (AE M)) i).fr=a/16) else EY M (AK (AE M)) (a/16) (a%16) i
theorem My{M:A9}{o:Bi}(h:∀j,j<(AK (AE M)).length->D6 M o.a j=false):Ag M o=0:=by
 unfold Ag;split
 ·rfl
 ·split
  ·rename_i h1 h2;have:C1 (AK (AE M)) (o.a/16)=false:=BZ _ _ (fun j hj=>by have:=h j hj;unfold D6 at this;rwa [if_pos h2] at this);rw[this];simp
  ·rename_i h1 h2;have:BW (EY M (AK (AE M)) (o.a/16) (o.a%16)) (AK (AE M)).length=false:=BZ _ _ (fun j hj=>by have:=h j hj;unfold D6 at this;rwa [if_neg h2] at this);rw[this];simp
theorem MT{M:A9}{o:Bi}(k:Nat)(hk:k<(AK (AE M)).length)(h1:¬o.word%2=0)(h2:Ds M o.a%2=1)(h3:Ds M o.a≠o.word)(h:(BQ (AK (AE M)) k).fr=o.a/16):Ag M o=2:=by
 unfold Ag;rw[if_neg h1,if_pos h2,if_pos ⟨h3,BF _ k _ hk (decide_eq_true h)⟩]
theorem Mb{M:A9}{o:Bi}(k:Nat)(hk:k<(AK (AE M)).length)(h1:¬o.word%2=0)(h2:¬Ds M o.a%2=1)(h:EY M (AK (AE M)) (o.a/16) (o.a%16) k=true):Ag M o=3:=by
 unfold Ag;rw[if_neg h1,if_neg h2,if_pos (BF _ k _ hk h)]
theorem IP(gu b0 B:Nat)(u:UV)(M:A9)(A:Nat)(o:Bi)(w:World)(hoa:o.a=A)(hA:A<M.mem.length)(hw0:0<=o.word)(hw1:o.word<18446744073709551616)(hok:Cv M)(hv:AG M=true)(h:UM w gu b0 B true u M):Calls prog 143 #[.pointer (some ⟨gu,0,none⟩),.int .i64 A,.int .u64 o.word] w fun e w'=>e=.returned (.int .i64 (Ag M o))/\Below w.heap.size w w':=by
 have hm0:0<M.mem.length:=by omega
 have hpd:∀i,i<M.pend.length->0<=(A8 AA M.pend i).addr:=fun i hi=>(BI hv i hi).1
 obtain⟨g2,ha2,hn2,hc2,hl2,_⟩:=h.lat hm0;have hmm:=BP M.mem.length hok.n0;have hml:=Cd M.mem.length;have hll:(AE M).length=M.mem.length:=Ac M;obtain⟨X,hX⟩:∃X,X=Ds M o.a:=⟨_,rfl⟩
 have hxc:=hc2.cell (i:=A) (by omega);have hxe:(AE M).getD A 0=X:=by rw[hX,Ds,hoa];rfl
 have hxr:=Fa hok hpd A;rw[hxe] at hxc hxr;have hx1:X<18446744073709551616:=by have:=hxr.2;omega
 have hlz:=Fy hok hpd;have hpl:=FD g2 (AE M) u.c2 hlz hl2 w hc2;have hle:=CG (AE M);have HPK:Hid (∀i,i<(AK (AE M)).length->_):=J0 (AE M) hlz;have HCA:Hid (∀F L Q wX,Below w.heap.size w wX->(L=1\/L=2\/L=3)->0<=Q->Q<=20000->Calls prog 155 #[.pointer (some ⟨gu,0,none⟩),.agg #[.int .i64 F,.int .i64 L,.int .i64 Q],.int .i64 ((A:Int)%16)] wX fun e w'=>e=.returned (.bool (BD M L (Q+(A:Int)%16*Ab L) (Ab L)))/\Below wX.heap.size wX w'):=fun F L Q wX hX h1 h2 h3=>Jq gu b0 B u M F L Q ((A:Int)%16) wX hv h1 h2 h3 (by omega) (by omega) hok.t hok.c (h.below hX)
 have HPC:Hid (∀k F L Q,BQ (AK (AE M)) k=⟨F,L,Q⟩->D6 M o.a k=(if X%2=1 then decide (F=(A:Int)/16) else (decide (F=(A:Int)/16)&&BD M L (Q+(A:Int)%16*Ab L) (Ab L)))/\EY M (AK (AE M)) (o.a/16) (o.a%16) k=(decide (F=(A:Int)/16)&&BD M L (Q+(A:Int)%16*Ab L) (Ab L))):=fun k F L Q he=>by
  have h2:EY M (AK (AE M)) (o.a/16) (o.a%16) k=(decide (F=(A:Int)/16)&&BD M L (Q+(A:Int)%16*Ab L) (Ab L)):=by unfold EY;rw[he,hoa]
  refine⟨?_,h2⟩;unfold D6;rw[<- hX,h2,he,hoa]
 have HW0:Hid (∀c,Ag M o=c->Ag M o=c):=fun _ h=>h
 have HNO:Hid ((∀j,j<(AK (AE M)).length->D6 M o.a j=false)->Ag M o=0):=My;have HTWO:Hid (∀k F L Q,k<(AK (AE M)).length->BQ (AK (AE M)) k=⟨F,L,Q⟩->¬o.word%2=0->X%2=1->X≠o.word->F=(A:Int)/16->Ag M o=2):=fun k F L Q hk he h1 h2 h3 h4=>MT k hk h1 (by rw[<- hX];exact h2) (by rw[<- hX];exact h3) (by rw[he,hoa];exact h4)
 have HTHR:Hid (∀k,k<(AK (AE M)).length->¬o.word%2=0->¬X%2=1->EY M (AK (AE M)) (o.a/16) (o.a%16) k=true->Ag M o=3):=fun k hk h1 h2 h3=>Mb k hk h1 (by rw[<- hX];exact h2) h3
 have HZ0:Hid (o.word%2=0->Ag M o=0):=fun h=>by unfold Ag;rw[if_pos h]
 have HZ1:Hid (¬o.word%2=0->o.word=X->Ag M o=0):=fun h1 h2=>by
  unfold Ag;rw[if_neg h1,<- hX,if_pos (by rw[<- h2];omega),if_neg (fun hh=>hh.1 h2.symm)]
 obtain⟨ps,hps⟩:∃ps,ps=AK (AE M):=⟨_,rfl⟩
 rw[<- hps] at hpl hle HPK HNO HTWO HTHR HPC;obtain⟨n2,hn2'⟩:∃n2,n2=(AE M).length:=⟨_,rfl⟩
 have q1:w.cell? ⟨gu,1,none⟩=some (.slice (some ⟨g2,0,none⟩) n2 u.c2):=by rw[hn2',<- ha2,<- hn2];exact h.q1
 rw[<- hn2'] at hpl;have hAn:A<n2:=by rw[hn2',hll];exact hA
 have and1:=F8 o.word hw0 hw1;have and2:=F8 X hxr.1 hx1;obtain⟨Wd,hWd⟩:∃Wd,Wd=o.word:=⟨_,rfl⟩
 obtain⟨cde,hcde⟩:∃c,c=Ag M o:=⟨_,rfl⟩
 rw[<- hWd] at hw0 hw1 HTWO HTHR HZ0 HZ1 and1 ⊢;rw[<- hcde] at HNO HTWO HTHR HZ0 HZ1 ⊢;have hgl:=h.lt;have g2l:=hc2.lt;have L0:(0:Int)<=(A:Int):=by omega
 have L1:(A:Int)<(n2:Int):=by omega
 have hq:wrap64 ((A:Int)/16)=(A:Int)/16:=by unfold wrap64;omega
 clear HW0 h hok hpd hc2 hX hxe hxr hlz hps hn2 hn2' ha2 hll hWd hcde hoa hv hl2 hmm hml;by_cases hwz:Wd%2=0
 ·have d0:(Wd%2==0)=true:=by simpa using hwz
  have HR:=HZ0.out hwz;subst HR;clear hwz hpl;go_enter func143,ntmps143
  go_wp2_with fail
  go_ret;exact⟨rfl,Below.refl _ _⟩
 ·have d0:(Wd%2==0)=false:=by simpa using hwz
  by_cases hwx:Wd=X
  ·(have d1:(Wd==X)=true:=by simpa using hwx);have HR:=HZ1.out hwz hwx;subst HR;clear hwz hwx hpl;(go_enter func143,ntmps143);(go_wp2_with fail);go_ret;exact⟨rfl,Below.refl _ _⟩
  ·(have d1:(Wd==X)=false:=by simpa using hwx);have HWZ:Hid (¬Wd%2=0):=hwz;(have HWX:Hid (X≠Wd):=fun e=>hwx e.symm);clear hwz hwx;(go_enter func143,ntmps143);(go_wp2_with fail);refine hpl.mono ?_;rintro e w1 ⟨g1,c1,rfl,hr,hb1⟩;obtain⟨gp,hp1,hp2⟩:=ES hr;have HP1:Hid _:=hp1;have HP2:Hid _:=hp2;have HB1:Hid (Below w.heap.size w w1):=hb1;clear hb1 hpl hr hp1 hp2 hxc q1 and1 d0 d1;(go_wp2_with fail);(go_loopw [32] (fun i wr=>∃k:Nat,k<=ps.length/\i=.int .i64 k/\Hid (∀j,j<k->D6 M o.a j=false)/\Below w1.heap.size w1 wr) (fun i _=>ps.length-(intOf i).toNat));(case atStart=>exact⟨0,Nat.zero_le _,rfl,fun j hj=>absurd hj (by omega),Below.refl _ _⟩);case round =>
    obtain⟨k,hk,rfl,hall,hb⟩:=hrel;by_cases hlt:k<ps.length
    ·(obtain⟨E,hE⟩:∃E,BQ ps k=E:=⟨_,rfl⟩);obtain⟨F,L,Q⟩:=E;obtain⟨hge,hgl2⟩:=HP1.out (by omega);simp only[Option.some.injEq,Addr.mk.injEq,and_true] at hge;obtain rfl:=hge.symm;obtain⟨c0,c1,c2⟩:=HP2.out k F L Q hlt hE wr hb;have hpk:=HPK.out k hlt;rw[hE] at hpk;obtain⟨hobj,hplc⟩:=HPC.out k F L Q hE;have HOBJ:Hid _:=hobj;have HPLC:Hid _:=hplc;have HE:Hid (BQ ps k=_):=hE;(have M1:(0:Int)<=(k:Int):=by omega);(have M2:(k:Int)<(ps.length:Int):=by omega);have HB:Hid (Below w1.heap.size w1 wr):=hb;have hsz:=hb.size;(obtain⟨wx,hwx⟩:∃wx,wx=wr.alloc (.cells #[.int .i64 F,.int .i64 L,.int .i64 Q] 172):=⟨_,rfl⟩);(have bx:Below w.heap.size w wx:=by rw[hwx];exact(HB1.out.trans (hb.mono HB1.out.size)).alloc (Nat.le_trans HB1.out.size hsz) _);have hca:=HCA.out F L Q wx bx hpk.1 hpk.2.1 hpk.2.2;rw[hwx] at hca;have HWXX:Hid (wx=_):=hwx;have HBX:Hid (Below w.heap.size w wx):=bx;(have HBX1:Hid (Below w1.heap.size w1 wx):=by rw[hwx];exact hb.alloc hsz _);clear hE hb hge hobj hplc hpk hwx bx;by_cases hF:F=(A:Int)/16
     ·(have dF:(F != (A:Int)/16)=false:=by simpa using hF);by_cases hX1:X%2=1
      ·(have dX:(X%2 != 0)=true:=by simp;omega);have HR:=HTWO.out k F L Q hlt HE.out HWZ.out hX1 HWX.out hF;subst HR;clear hX1 hca hF;(go_wp2_with fail);rw[<- HWXX.out];go_ret;exact⟨rfl,HBX.out⟩
      ·(have dX:(X%2 != 0)=false:=by simp;omega);cases hcb:BD M L (Q+(A:Int)%16*Ab L) (Ab L)<;>rw[hcb] at hca
       ·(have HN:Hid (D6 M o.a k=false):=by rw[HOBJ.out,if_neg hX1,hcb,Bool.and_false];rfl);clear hX1 hF hcb;(go_wp2_with fail);refine hca.mono ?_;rintro e w2 ⟨rfl,hb2⟩;(go_wp2_with fail);rw[<- HWXX.out] at hb2;go_roundw;case rel =>
         refine⟨k+1,by omega,by go_num,fun j hj=>?_,HBX1.out.trans (hb2.mono HBX1.out.size)⟩;by_cases e:j=k
         ·rw[e];exact HN.out
         ·exact hall.out j (by omega)
        case measure=>simp[intOf];omega
       ·have HR:=HTHR.out k hlt HWZ.out hX1 (by rw[HPLC.out,hcb,decide_eq_true hF];rfl);subst HR;clear hX1 hF hcb;(go_wp2_with fail);refine hca.mono ?_;rintro e w2 ⟨rfl,hb2⟩;(go_wp2_with fail);rw[<- HWXX.out] at hb2;go_ret;exact⟨rfl,HBX.out.trans (hb2.mono HBX.out.size)⟩
     ·(have dF:(F != (A:Int)/16)=true:=by simpa using hF);have HN:Hid (D6 M o.a k=false):=by
       rw[HOBJ.out,decide_eq_false hF];split<;>rfl
      clear hF hca;(go_wp2_with fail);rw[<- HWXX.out];go_roundw;case rel =>
       refine⟨k+1,by omega,by go_num,fun j hj=>?_,HBX1.out⟩;by_cases e:j=k
       ·rw[e];exact HN.out
       ·exact hall.out j (by omega)
      case measure=>simp[intOf];omega
    ·have HR:=HNO.out (fun j hj=>hall.out j (by omega));subst HR;(go_wp2_with fail);go_ret;exact⟨rfl,HB1.out.trans (hb.mono HB1.out.size)⟩
theorem LS(zs:List Int)(a:List Am)(b:List CI):AE ⟨zs,[],a,b⟩=zs:=rfl
theorem UM.barrier{W W':World}{gu b0 B:Nat}{u:UV}{M:A9}(h:UM W gu b0 B true u M)(th:CB u)(hT:A5 (fun k=>k=gu\/u.o1=some k) W W')(c0:W'.cell? ⟨gu,0,none⟩=W.cell? ⟨gu,0,none⟩)(c1:W'.cell? ⟨gu,1,none⟩=W.cell? ⟨gu,1,none⟩)(c2:W'.cell? ⟨gu,2,none⟩=some (.slice none 0 0))(c3:W'.cell? ⟨gu,3,none⟩=W.cell? ⟨gu,3,none⟩)(c4:W'.cell? ⟨gu,4,none⟩=W.cell? ⟨gu,4,none⟩)(fz:∀i,W'.frozen? ⟨gu,i,none⟩=W.frozen? ⟨gu,i,none⟩)(hw:A6 AO W' b0 (.slice u.a1 M.mem.length u.c1) (AE M)):Bk W W' gu b0 B u ⟨u.a1,u.c1,u.a2,u.n2,u.c2,none,0,u.a4,u.c4,u.a5,u.c5⟩ ⟨AE M,[],M.tlb,M.wc⟩:=by
 have hll:=Ac M;have hl:=h.l rfl;refine⟨⟨Nat.lt_of_lt_of_le h.lt hT.size,?_,c1.trans h.q1,c2,c3.trans h.q3,c4.trans h.q4,(fz 2).trans h.f2,(fz 3).trans h.f3,(fz 4).trans h.f4,?_,fun _=>⟨hl.1.trans hll.symm,?_⟩,⟨by simp[AF],.inl ⟨rfl,rfl⟩⟩,?_,?_,?_,fun k hk=>Nat.lt_of_lt_of_le (h.o2 k hk) hT.size⟩,?_,fun k hk=>?_,?_⟩
 ·show W'.cell? ⟨gu,0,none⟩=some (.slice u.a1 (AE M).length u.c1);rw[hll];exact c0.trans h.q0
 ·show A6 AO W' b0 (.slice u.a1 (AE M).length u.c1) (AE M);rw[hll];exact hw
 ·rw[LS];exact hl.2.touchA hT (fun k hk hx=>hx.elim (fun e=>h.ap.g2 (e ▸ hk)) (fun e=>th.a12 k e hk))
 ·exact h.t.touchA hT (fun k hk hx=>hx.elim (fun e=>h.ap.g4 (e ▸ hk)) (fun e=>h.ap.t1 k hk e))
 ·exact h.c.touchA hT (fun k hk hx=>hx.elim (fun e=>h.ap.g5 (e ▸ hk)) (fun e=>h.ap.w1 k hk e))
 ·exact⟨h.ap.g1,h.ap.g2,fun e=>(by cases e),h.ap.g4,h.ap.g5,h.ap.t1,h.ap.t2,fun k _ e=>(by cases e),h.ap.t5,h.ap.w1,h.ap.w2,fun k _ e=>(by cases e)⟩
 ·exact⟨hT.os,hT.tape,hT.output,hT.size,fun k hk hn=>hT.block k hk (fun hx=>hn (hx.elim .inl (fun e=>.inr (.inl e))))⟩
 ·rcases hk with e|e|e|e|e|e
  ·exact .inl (.inl e)
  ·exact .inl (.inr (.inl e))
  ·exact .inl (.inr (.inr (.inl e)))
  ·cases e
  ·exact .inl (.inr (.inr (.inr (.inr (.inl e)))))
  ·exact .inl (.inr (.inr (.inr (.inr (.inr e)))))
 ·exact⟨fun k _ e=>(by cases e),th.a12,fun k _ e=>(by cases e)⟩
def cw (zs:List Int):List Value:=zs.map (fun x=>.int .u64 x)
theorem NT(zs:List Int):∀v∈cw zs,v.oneCell'=true:=by
 intro v hv;unfold cw at hv;rw[List.mem_map] at hv;obtain⟨x,_,rfl⟩:=hv;rfl
theorem NE(zs:List Int)(j:Nat)(hj:j<zs.length):(cw zs)[j]?=some (.int .u64 (zs.getD j 0)):=by
 unfold cw;rw[List.getElem?_map,List.getElem?_eq_getElem hj,List.getD_eq_getElem?_getD,List.getElem?_eq_getElem hj];rfl
set_option maxRecDepth 100000 in
theorem Hq(gu b0 B:Nat)(u:UV)(M:A9)(K0 A0 B0 W0:Int)(w:World)(hok:Cv M)(th:CB u)(h:UM w gu b0 B true u M):Calls prog 184 #[.agg #[.int .i64 K0,.int .i64 A0,.int .i64 B0,.int .u64 W0],.pointer (some ⟨gu,0,none⟩)] w fun e w'=>e=.returned (.tuple #[])/\∃u',Bk w w' gu b0 B u u' ⟨AE M,[],M.tlb.filter (fun e=>!e.doom),M.wc.filter (fun e=>!e.doom)⟩:=by
 have hmm:=BP M.mem.length hok.n0;have hml:=Cd M.mem.length;have hm0:0<M.mem.length:=by omega
 have hll:=Ac M;obtain⟨wb,hwb⟩:∃wb,wb=w.alloc (.cells #[.int .i64 K0,.int .i64 A0,.int .i64 B0,.int .u64 W0] 201):=⟨_,rfl⟩
 have hbb:Below w.heap.size w wb:=by rw[hwb];exact(Below.refl _ _).alloc (Nat.le_refl _) _
 have hub:=h.below hbb;obtain⟨g1,ha1,hc1,hl1,hbg1⟩:=EN hub.w hm0;obtain⟨g2,ha2,hn2,hc2,hl2,hbg2⟩:=hub.lat hm0;have o1g:u.o1=some g1:=by unfold UV.o1;rw[ha1];rfl
 have o2g:u.o2=some g2:=by unfold UV.o2;rw[ha2];rfl
 have hg1u:¬gu=g1:=fun e=>hub.ap.g1 (by rw[e];exact o1g)
 have h12:¬g1=g2:=fun e=>th.a12 g1 o1g (by rw[e];exact o2g)
 have hrow1:A6 AO wb b0 (.slice (some ⟨g1,0,none⟩) M.mem.length u.c1) M.mem:=by rw[<- ha1];exact hub.w
 obtain⟨hB1,hlc1,hmx1,f1,hr1,hf1⟩:=hrow1.full;have hr1d:wb.drew.rowIs g1 AO.T (u.c1*1) f1:=hr1.drew;have hcw:(cw (AE M)).length=M.mem.length:=by unfold cw;rw[List.length_map,hll]
 obtain⟨w1,hw1⟩:∃w1,w1=wb.drew.setCells g1 0 (cw (AE M)):=⟨_,rfl⟩
 have hcopy:∀ty,(Builtin.copy_ #[22,22] ty #[.slice (some ⟨g1,0,none⟩) M.mem.length u.c1,.slice (some ⟨g2,0,none⟩) M.mem.length u.c2]).run prog wb.drew=.ok (goInt M.mem.length) w1:=fun ty=>by
  have hk:=run_copy_cells (P:=prog) wb.drew 22 22 ty 46 g1 0 M.mem.length u.c1 ⟨g2,0,none⟩ M.mem.length u.c2 (cw (AE M)) underlying22 (by kernel_rfl) (by rw[hcw];simp)
   (fun j v hv=>by
    have hj:j<(AE M).length:=by
     have:=(List.getElem?_eq_some_iff.1 hv).1
     rw[hcw] at this;omega
    rw[NE _ j hj] at hv
    rw[F9]
    rw[<- hv]
    exact hc2.cells j hj)
   (fun j hj=>by
    rw[hcw] at hj
    rw[hr1d.cell (i:=0+j) (by omega)];rfl) (fun j hj=>hr1d.frozen _) (NT _)
  rw[hcw] at hk;rw[hw1];exact hk
 have hg1r:wb.grownBy w1 (some g1):=by
  rw[hw1];have h:=BO g1 (cw (AE M)) 0 wb.drew;exact⟨h.os,h.tape,h.output,h.size,h.block⟩
 have hrow2:A6 AO w1 b0 (.slice u.a1 M.mem.length u.c1) (AE M):=by
  rw[ha1];have hrs:=BN (cw (AE M)) 0 wb.drew f1 hr1d;rw[<- hw1] at hrs;refine A6.of_row (N:=u.c1*1) hll hB1 hrs rfl hlc1 hmx1 (fun i hi j hj=>?_);have hj0:j=0:=by have:j<1:=hj;omega
  subst hj0;have e1:i*AO.sz+0=i:=by show i*1+0=i;omega
  rw[e1,if_pos (by rw[hcw];omega),List.getD_eq_getElem?_getD,show i-0=i by omega,NE _ i (by omega)];rfl
 have hbk:w1.heap[gu]?=wb.heap[gu]?:=hg1r.block gu hub.lt (fun e=>hg1u (by simpa using e));obtain⟨w2,hw2⟩:∃w2,w2=w1.setCell ⟨gu,2,none⟩ (.slice none 0 0):=⟨_,rfl⟩
 have cell1:∀i,w1.cell? ⟨gu,i,none⟩=wb.cell? ⟨gu,i,none⟩:=fun i=>World.cell?_of_block hbk
 have cell2:∀i,i≠2->w2.cell? ⟨gu,i,none⟩=wb.cell? ⟨gu,i,none⟩:=fun i hi=>by
  rw[hw2,World.cell?_setCell_other _ _ _ _ (by intro e;injection e with _ e;exact hi e.symm)];exact cell1 i
 have hWB:Bk wb w2 gu b0 B u ⟨u.a1,u.c1,u.a2,u.n2,u.c2,none,0,u.a4,u.c4,u.a5,u.c5⟩ ⟨AE M,[],M.tlb,M.wc⟩:=by
  refine hub.barrier th ?_ (cell2 0 (by omega)) (cell2 1 (by omega)) ?_ (cell2 3 (by omega)) (cell2 4 (by omega)) ?_ ?_
  ·rw[hw2];exact⟨hg1r.os,hg1r.tape,hg1r.output,by simpa using hg1r.size,fun k hk hn=>(Below.heap_setCell _ _ _ _ (fun e=>hn (.inl e))).trans (hg1r.block k hk (fun e=>hn (.inr (by rw[o1g];exact e.symm))))⟩
  ·rw[hw2];exact World.cell?_setCell_same _ _ _ ((cell1 2).trans hub.q2)
  ·intro i;rw[hw2,World.frozen?_setCell];exact World.frozen?_of_block (a:=⟨gu,i,none⟩) hbk
  ·rw[hw2];exact hrow2.touchA (S:=fun k=>k=gu) ⟨rfl,rfl,rfl,by simp,fun k hk hn=>Below.heap_setCell _ _ _ _ hn⟩ (fun k hk e=>hub.ap.g1 (by rw[<- e];exact hk))
 have hdT:=LY u.a4 u.c4 B M.tlb w2 hok.t hWB.um.t;have q3:w1.cell? ⟨gu,3,none⟩=some (.slice u.a4 M.tlb.length u.c4):=(cell1 3).trans hub.q3;have q2:w1.cell? ⟨gu,2,none⟩=some (.slice u.a3 M.pend.length u.c3):=(cell1 2).trans hub.q2;have f2:w1.frozen? ⟨gu,2,none⟩=false:=(World.frozen?_of_block (a:=⟨gu,2,none⟩) hbk).trans hub.f2;have HSB:Hid (wb.drew.cell? ⟨gu,0,none⟩=some (.slice (some ⟨g1,0,none⟩) M.mem.length u.c1)/\wb.drew.cell? ⟨gu,1,none⟩=some (.slice (some ⟨g2,0,none⟩) M.mem.length u.c2)):=⟨by rw[<- ha1];exact hub.q0,by rw[<- ha2,<- show u.n2=M.mem.length from (hub.l rfl).1];exact hub.q1⟩;have HS1:Hid (w1.cell? ⟨gu,0,none⟩=some (.slice (some ⟨g1,0,none⟩) M.mem.length u.c1)/\w1.cell? ⟨gu,1,none⟩=some (.slice (some ⟨g2,0,none⟩) M.mem.length u.c2)):=⟨(cell1 0).trans HSB.out.1,(cell1 1).trans HSB.out.2⟩;have HWB:Hid (wb=_):=hwb;have HW1:Hid (w1=_):=hw1;have HW2:Hid (w2=_):=hw2;have HUW:Hid _:=hWB;have HW0:Hid (Bk w wb gu b0 B u u M):=Bk.refl h th hbb;have hwcl:=hok.c;rw[hw2] at hdT;have hgul:gu<w1.heap.size:=Nat.lt_of_lt_of_le hub.lt hg1r.size;clear h hub hbb hwb hw1 hw2 hc1 hc2 hr1 hf1 hr1d hrow1 hrow2 hg1r hbk cell1 cell2 hWB ha1 ha2 hn2 th o1g o2g hcw hll;go_enter func184,ntmps184
 go_wp2_with fail
 rw[<- HWB.out];refine wp_region_held_drew (S:=(fun wX=>wX.cell? ⟨gu,0,none⟩=some (.slice (some ⟨g1,0,none⟩) M.mem.length u.c1)/\wX.cell? ⟨gu,1,none⟩=some (.slice (some ⟨g2,0,none⟩) M.mem.length u.c2))) (by kernel_rfl) HSB.out (fun hHeld=>?_);refine tk 0 ?_;refine tk 1 ?_;refine tk 2 ?_;refine tk 3 ?_;refine tk 4 ?_;refine tk 5 ?_;refine tk 6 ?_;refine tk 7 ?_;refine tk 8 ?_;refine tk 9 ?_;refine wpAnyH_ready (rs:=[10]) (by kernel_rfl) (by simp) ?_;refine AllReadyH.cons rfl (fun K hK=>?_) AllReadyH.nil;go_simp;refine hK.out _ _ HS1.out (fun hHeld5=>?_);clear hK K;refine wpAnyH_done (by kernel_rfl) ?_ _;clear hHeld hHeld5 hcopy;go_wp2_with fail
 refine hdT.mono ?_;rintro e w3 ⟨rfl,hr3,hg3⟩;rw[<- HW2.out] at hg3;have hu2:=HUW.out.um;have hk3:=hg3.block gu hu2.lt (fun e=>hu2.ap.g4 e.symm);have s3:w3.cell? ⟨gu,3,none⟩=some (.slice u.a4 M.tlb.length u.c4):=(World.cell?_of_block (a:=⟨gu,3,none⟩) hk3).trans hu2.q3;have z3:w3.frozen? ⟨gu,3,none⟩=false:=(World.frozen?_of_block (a:=⟨gu,3,none⟩) hk3).trans hu2.f3;have s4:w3.cell? ⟨gu,4,none⟩=some (.slice u.a5 M.wc.length u.c5):=(World.cell?_of_block (a:=⟨gu,4,none⟩) hk3).trans hu2.q4;have st3:=hu2.newTlb hg3 u.a4 u.c4 _ hr3 (fun k hk=>.inl hk);obtain⟨w4,hw4⟩:∃w4,w4=w3.setCell ⟨gu,3,none⟩ (.slice u.a4 (M.tlb.filter (fun e=>!e.doom)).length u.c4):=⟨_,rfl⟩
 rw[<- hw4] at st3;have hdW:=KX u.a5 u.c5 B M.wc w4 hwcl st3.um.c;rw[hw4] at hdW;have HST3:Hid _:=st3;have HW4:Hid (w4=_):=hw4;clear hdT hr3 hg3 hu2 hk3 st3 hw4;go_wp2_with fail
 refine hdW.mono ?_;rintro e w5 ⟨rfl,hr5,hg5⟩;rw[<- HW4.out] at hg5;have hu4:=HST3.out.um;have hk5:=hg5.block gu hu4.lt (fun e=>hu4.ap.g5 e.symm);have s5:w5.cell? ⟨gu,4,none⟩=some (.slice u.a5 M.wc.length u.c5):=(World.cell?_of_block (a:=⟨gu,4,none⟩) hk5).trans hu4.q4;have z5:w5.frozen? ⟨gu,4,none⟩=false:=(World.frozen?_of_block (a:=⟨gu,4,none⟩) hk5).trans hu4.f4;have st5:=hu4.newWc hg5 u.a5 u.c5 _ hr5 (fun k hk=>.inl hk);have HALL:Hid _:=((HW0.out.trans HUW.out).trans (HST3.out.wide HUW.out.th));have hfin:=HALL.out.trans (st5.wide HALL.out.th);have HFIN:Hid _:=hfin;clear hdW hr5 hg5 hu4 hk5 st5 hfin;go_wp2_with fail
 exact bodyPost_end (v:=.tuple #[]) (by simp[results,results184,go_sem]) rfl ⟨rfl,_,HFIN.out⟩
end Go.Proofs.YtnmhkgmmpkjjeabGreat
