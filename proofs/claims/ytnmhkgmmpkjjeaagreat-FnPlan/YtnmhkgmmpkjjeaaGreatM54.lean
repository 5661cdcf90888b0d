import Derived.Test.YtnmhkgmmpkjjeaaGreatM52
import Derived.Test.YtnmhkgmmpkjjeaaGreatM51
import Derived.Test.YtnmhkgmmpkjjeaaGreatM49
import Derived.Test.YtnmhkgmmpkjjeaaGreatM53
namespace Go.Proofs.YtnmhkgmmpkjjeaaGreat
open ChangeShapes WideShapes ChangeAt RowKit Proofs.Tryz
set_option linter.all false
set_option maxRecDepth 100000
set_option maxHeartbeats 4000000
section
attribute [local go_sem ↓] wp_at_zero wp_at_succ
theorem IR(a:Option Addr)(cap b:Nat)(xs:List AE)(w:World)(hn:xs.length<=1048576)(hwf:∀i,i<xs.length->Qe (AQ AA xs i))(h:A8 AA w b (.slice a xs.length cap) xs):Calls prog 69 #[.slice a xs.length cap] w (AM w (.int .i64 (NJ xs))):=by
 have hv:=F7 a cap b xs w hn hwf h;have HH:Hid (∀wX,VS xs->Bl w wX->Calls prog 71 #[.slice a xs.length cap] wX fun e w'=>∃g c,e=.returned (.slice (some ⟨g,0,none⟩) 4096 c)/\A8 Dx w' wX.heap.size (.slice (some ⟨g,0,none⟩) 4096 c) (BV xs 4096)/\Bl wX w'):=fun wX h1 hX=>IQ a cap b xs wX hn h1 (h.below hX)
 clear h hwf;cases hvb:FP xs<;>rw[hvb] at hv
 ·rw[Yv hvb];clear hvb HH;go_enter func69,ntmps69
  go_wp2_with fail
  refine hv.mono ?_;rintro e w1 ⟨rfl,hb1⟩;go_wp2_with fail
  go_ret;exact⟨rfl,hb1⟩
 ·rw[Rm hvb];have hvs:=VS.of_true hvb;clear hvb;go_enter func69,ntmps69
  go_wp2_with fail
  refine hv.mono ?_;rintro e w1 ⟨rfl,hb1⟩;have hh:=HH.out w1 hvs hb1;have HB1:=A5 hb1;clear hv hvs hb1 HH;go_wp2_with fail
  refine hh.mono ?_;rintro e w2 ⟨g,c,rfl,hr2,hb2⟩;have hw:=GF g c w1.heap.size (BV xs 4096) w2 (C1 xs 4096) (by rw[C1];exact hr2);have HB2:Hid (Bl w w2):=Ab HB1.out hb2;clear hh hr2 hb2;go_wp2_with fail
  refine hw.mono ?_;rintro e w3 ⟨g3,c3,rfl,hr3,hb3⟩;have b3:Bl w w3:=Ab HB2.out hb3;clear hw hr3 hb3;go_wp2_with fail
  go_ret;exact⟨rfl,b3⟩
def FQ (cs:List Int) (p:Nat):Nat:=p+1+5*FT cs
def Gv (cs:List Int) (q:Nat) (l:List AE):List AE:=Fm (Bh cs q 10) (Bh cs (q+1) l.length) (q+2) l l.length
abbrev Sl (cs:List Int) (p:Nat):Prop:=6<=Bh cs p 8/\0<(Ba 0 cs (p+1)).length
def I5 (cs:List Int) (p:Nat):List AE:=if Sl cs p then Gv cs (FQ cs p) (Ba 0 cs (p+1)) else Ba 0 cs (p+1)
def W6 (cs:List Int) (p:Nat):Nat:=if Sl cs p then FQ cs p+2 else FQ cs p
theorem SG(cs:List Int)(p:Nat):(I5 cs p).length<=8192/\∀i,i<(I5 cs p).length->Yk (AQ AA (I5 cs p) i):=by
 obtain⟨h1,h2⟩:=Gi 0 cs (p+1);unfold I5;split
 ·have h3:=LE (Bh cs (FQ cs p) 10) (Bh cs (FQ cs p+1) (Ba 0 cs (p+1)).length) (FQ cs p+2) (Ba 0 cs (p+1)) (Ba 0 cs (p+1)).length;have h4:=Up (Bh cs (FQ cs p) 10) (Bh cs (FQ cs p+1) (Ba 0 cs (p+1)).length) (FQ cs p+2) h2 (Ba 0 cs (p+1)).length (Nat.le_refl _);refine⟨by unfold Gv;omega,fun i hi=>h4 _ ?_⟩;unfold Gv at hi ⊢;unfold AQ;rw[List.getD_eq_getElem?_getD,List.getElem?_eq_getElem hi];exact List.getElem_mem _
 ·exact⟨by omega,fun i hi=>(h2 i hi).q⟩
theorem NR(a:Option Addr)(cap:Nat)(cs:List Int)(p:Nat)(w:World)(hc:Ia cs)(hp:p<=80000)(hs:On w a cs):Calls prog 67 #[.slice a cs.length cap,.int .i64 (p:Int)] w fun e w'=>IT w (I5 cs p) (W6 cs p) e w':=by
 have t1:=Ed a cap cs p 8 w hc (by omega) (by omega) hs;have HT2:Hid (∀wX,Below w.heap.size w wX->Calls prog 66 #[.slice a cs.length cap,.int .i64 ((p:Int)+1),.int .i64 0] wX fun e w'=>IT wX (Ba 0 cs (p+1)) (FQ cs p) e w'):=A6 fun wX hX=>DR 0 (.inl rfl) a cap cs (p+1) wX hc (by omega) (hs.below hX)
 obtain⟨hk1,hk2⟩:=Gi 0 cs (p+1);obtain⟨b0,b1⟩:=Ja cs;have hQ:FQ cs p<=90000:=by unfold FQ;omega
 have HT3:Hid (∀g c wX,0<(Ba 0 cs (p+1)).length->Below w.heap.size w wX->A8 AA wX w.heap.size (.slice (some ⟨g,0,none⟩) (Ba 0 cs (p+1)).length c) (Ba 0 cs (p+1))->Calls prog 137 #[.slice a cs.length cap,.int .i64 (FQ cs p:Int),.slice (some ⟨g,0,none⟩) (Ba 0 cs (p+1)).length c] wX fun e w'=>∃g c:Nat,e=.returned (.slice (some ⟨g,0,none⟩) (Gv cs (FQ cs p) (Ba 0 cs (p+1))).length c)/\A8 AA w' wX.heap.size (.slice (some ⟨g,0,none⟩) (Gv cs (FQ cs p) (Ba 0 cs (p+1))).length c) (Gv cs (FQ cs p) (Ba 0 cs (p+1)))/\Below wX.heap.size wX w'):=A6 fun g c wX h0 hX hr=>Sv a cap cs (FQ cs p) wX hc (by omega) (hs.below hX) g c w.heap.size _ h0 hk1 hk2 hr
 have HA:Hid (I5 cs p=if 6<=Bh cs p 8/\0<(Ba 0 cs (p+1)).length then Gv cs (FQ cs p) (Ba 0 cs (p+1)) else Ba 0 cs (p+1)):=A6 rfl;have HP:Hid (W6 cs p=if 6<=Bh cs p 8/\0<(Ba 0 cs (p+1)).length then FQ cs p+2 else FQ cs p):=A6 rfl;clear hc hs hk2;generalize I5 cs p=AS at *;generalize W6 cs p=AP at *;generalize Gv cs (FQ cs p) (Ba 0 cs (p+1))=SL at *;generalize Ba 0 cs (p+1)=L at *;generalize FQ cs p=q at *;generalize Bh cs p 8=HW at *;have W1:=aT (x:=(q:Int)+2) (by omega);go_enter func67,ntmps67
 go_wp2_with fail
 refine t1.mono ?_;rintro e w1 ⟨rfl,hb1⟩;have t2:=HT2.out w1 hb1;have HB1:Hid (Below w.heap.size w w1):=hb1;clear t1 hb1 HT2;go_wp2_with fail
 refine t2.mono ?_;rintro e w2 ⟨g,c,rfl,hr,hb2⟩;have HR:Hid (A8 AA w2 w.heap.size (.slice (some ⟨g,0,none⟩) L.length c) L):=A6 (hr.rebase HB1.out.size);have HB2:Hid (Below w.heap.size w w2):=A6 (HB1.out.trans (hb2.mono HB1.out.size));clear t2 hb2 hr;by_cases h6:6<=HW
 ·have h6b:decide (6<=HW)=true:=by simpa using h6
  by_cases h0:0<L.length
  ·(have h0b:(0:Int)<(L.length:Int):=by omega);have t3:=HT3.out g c w2 h0 HB2.out HR.out;have HA1:Hid (AS=SL):=A6 (by rw[HA.out,if_pos ⟨h6,h0⟩]);have HP1:Hid (AP=q+2):=A6 (by rw[HP.out,if_pos ⟨h6,h0⟩]);clear HT3 HA HP;(go_wp2_with fail);refine t3.mono ?_;rintro e w3 ⟨g2,c2,rfl,hr3,hb3⟩;have HR3:Hid (A8 AA w3 w.heap.size (.slice (some ⟨g2,0,none⟩) SL.length c2) SL):=A6 (hr3.rebase HB2.out.size);have HB3:Hid (Below w.heap.size w w3):=A6 (HB2.out.trans (hb3.mono HB2.out.size));clear t3 hr3 hb3;(go_wp2_with fail);exact bodyPost_ret (v:=.tuple #[.slice (some ⟨g2,0,none⟩) SL.length c2,.int .i64 ((q:Int)+2)]) (by simp[results,results67,go_sem]) rfl ⟨g2,c2,by rw[HA1.out,HP1.out];rfl,by rw[HA1.out];exact HR3.out,HB3.out⟩
  ·(have h0b:¬(0:Int)<(L.length:Int):=by omega);have HA1:Hid (AS=L):=A6 (by rw[HA.out,if_neg (fun h=>h0 h.2)]);have HP1:Hid (AP=q):=A6 (by rw[HP.out,if_neg (fun h=>h0 h.2)]);clear HT3 HA HP;(go_wp2_with fail);exact bodyPost_ret (v:=.tuple #[.slice (some ⟨g,0,none⟩) L.length c,.int .i64 (q:Int)]) (by simp[results,results67,go_sem]) rfl ⟨g,c,by rw[HA1.out,HP1.out],by rw[HA1.out];exact HR.out,HB2.out⟩
 ·have h6b:decide (6<=HW)=false:=by simpa using h6
  have HA1:Hid (AS=L):=A6 (by rw[HA.out,if_neg (fun h=>h6 h.1)]);have HP1:Hid (AP=q):=A6 (by rw[HP.out,if_neg (fun h=>h6 h.1)]);clear HT3 HA HP;go_wp2_with fail
  exact bodyPost_ret (v:=.tuple #[.slice (some ⟨g,0,none⟩) L.length c,.int .i64 (q:Int)]) (by simp[results,results67,go_sem]) rfl ⟨g,c,by rw[HA1.out,HP1.out],by rw[HA1.out];exact HR.out,HB2.out⟩
end
def Sm (cs:List Int) (p:Nat):Int:=(if NJ (Ba 0 cs p)<NJ (Ba 1 cs p) then NJ (Ba 1 cs p) else NJ (Ba 0 cs p))+((p+5*FT cs:Nat):Int)%3
def NS (cs:List Int) (p:Nat):List Int:=(EW (Ba 0 cs p) (Sm cs p)).1
theorem Q3(cs:List Int)(p:Nat):NJ (Ba 0 cs p)<=Sm cs p/\Sm cs p<=512:=by
 have h1:=JS (Ba 0 cs p);have h2:=JS (Ba 1 cs p);unfold Sm;split<;>omega
theorem Va(cs:List Int)(p:Nat):(EW (Ba 0 cs p) (Sm cs p)).2=0:=TO (WY _) (Q3 cs p).1 (Q3 cs p).2
theorem UU(cs:List Int)(p:Nat):0<(NS cs p).length/\(NS cs p).length<=8192/\Pt (NS cs p):=⟨(RY _ _ (Va cs p)).1,Qv _ _,(RY _ _ (Va cs p)).2⟩
theorem It(v:Int)(cs:List Int)(p:Nat):∀i,i<(Ba v cs p).length->Qe (AQ AA (Ba v cs p) i):=fun i hi=>((Gi v cs p).2 i hi).q.wf
theorem KQ(a:Option Addr)(cap:Nat)(cs:List Int)(p:Nat)(w:World)(hc:Ia cs)(hp:p<=80000)(hs:On w a cs):Calls prog 65 #[.slice a cs.length cap,.int .i64 (p:Int)] w fun e w'=>Im w (NS cs p) e w':=by
 have hr:=(Ja cs).2;have k0:=(Gi 0 cs p).1;have k1:=(Gi 1 cs p).1;have hz:=UU cs p;have t1:=JS (Ba 0 cs p);have t2:=JS (Ba 1 cs p);refine Jm (.slice a cs.length cap) p (p+5*FT cs) (p+5*FT cs) (Ba 0 cs p) (Ba 1 cs p) (NJ (Ba 0 cs p)) (NJ (Ba 1 cs p)) (NS cs p) (Bk (NS cs p) (Ba 1 cs p)).1 (Bk (NS cs p) (Ba 1 cs p)).2 w (by omega) (by omega) (by omega) hz.1 ?_ ?_ ?_ ?_ ?_ ?_ ?_
 ·exact fun wX hX=>DR 0 (.inl rfl) a cap cs p wX hc (by omega) (hs.below hX)
 ·exact fun wX hX=>DR 1 (.inr rfl) a cap cs p wX hc (by omega) (hs.below hX)
 ·exact fun g c b wX h=>IR _ c b _ wX (by omega) (It 0 cs p) h
 ·exact fun g c b wX h=>IR _ c b _ wX (by omega) (It 1 cs p) h
 ·intro g c b wX h;have hn:=Q3 cs p;have t:=MM _ c b _ (Sm cs p) wX (by omega) (by omega) (by omega) (It 0 cs p) h;unfold Hj at t;rw[Va] at t;exact t
 ·exact fun g cz g2 c b wX h1 h2 h3=>GR g _ cz _ c b _ wX (by omega) hz.2.2 h1 (by omega) (It 1 cs p) h3
 ·exact fun g1 c1 b1 g2 c2 b2 wX hX h1 h2=>UH a cap cs _ wX hc (by omega) (hs.below hX) g1 c1 b1 _ k0 (Gi 0 cs p).2 h1 g2 c2 b2 _ k1 (Gi 1 cs p).2 h2
section
attribute [local go_sem ↓] wp_at_zero wp_at_succ
theorem RH(a:Option Addr)(cap:Nat)(cs:List Int)(p g cz:Nat)(zs:List Int)(w:World)(hc:Ia cs)(hp:p<=200000)(hs:On w a cs)(hg:BQ w g zs)(hz0:16<=zs.length)(hz1:zs.length<=1000)(hzw:Pt zs):Calls prog 70 #[.slice a cs.length cap,.int .i64 (p:Int),.agg #[.slice (some ⟨g,0,none⟩) zs.length cz]] w fun e w'=>∃g1 c1,e=.returned (.agg #[.slice (some ⟨g1,0,none⟩) (Gy cs p zs).length c1])/\A8 AY w' w.heap.size (.slice (some ⟨g1,0,none⟩) (Gy cs p zs).length c1) (Gy cs p zs)/\Bl w w':=by
 obtain⟨i0,hi,hi0,hi1,hi2⟩:=info_parts Fp;obtain⟨wb,hwb⟩:∃wb,wb=(w.alloc (.cells #[.slice (some ⟨g,0,none⟩) zs.length cz] 35)).alloc (.cells #[.slice none 0 0] 35):=⟨_,rfl⟩
 have hbb:Bl w wb:=by rw[hwb];exact(AO).alloc (by simp) _
 have hzb:wb.heap.size=w.heap.size+2:=by rw[hwb];simp
 have q0:wb.cell? ⟨w.heap.size,0,none⟩=some (.slice (some ⟨g,0,none⟩) zs.length cz):=by rw[hwb];simp[go_sem]
 have q1:wb.cell? ⟨w.heap.size+1,0,none⟩=some (.slice none 0 0):=by rw[hwb];simp[go_sem]
 have f1:wb.frozen? ⟨w.heap.size+1,0,none⟩=false:=by rw[hwb];simp[go_sem]
 have HQ:Hid (∀wX,Bl wb wX->wX.cell? ⟨w.heap.size,0,none⟩=some (.slice (some ⟨g,0,none⟩) zs.length cz)/\wX.cell? ⟨w.heap.size+1,0,none⟩=some (.slice none 0 0)/\wX.frozen? ⟨w.heap.size+1,0,none⟩=false/\BQ wX g zs):=fun wX hX=>⟨(hX.cell (by simp;omega)).trans q0,(hX.cell (by simp;omega)).trans q1,(hX.frozen (by simp;omega)).trans f1,(hg.below hbb hg.lt).below hX (by have:=hg.lt;omega)⟩
 have HTK:Hid (∀(q:Nat) (n:Int) (wX:World),q<=1000000->n<=1000000->Bl wb wX->Calls prog 64 #[.slice a cs.length cap,.int .i64 (q:Int),.int .i64 n] wX (AM wX (.tuple #[.int .i64 (Bh cs q n),.int .i64 ((q:Int)+1)]))) :=
  fun q n wX h1 h2 hX=>Ed a cap cs q n wX hc h1 h2 (hs.below (hbb.trans (hX.mono (by omega))))
 have HPL:Hid (∀wX,Bl wb wX->Calls prog 21 #[.agg #[.slice (some ⟨g,0,none⟩) zs.length cz]] wX fun e w'=>CI zs wX e w'):=fun wX hX=>Dt g zs cz (by omega) hzw wX (HQ.out wX hX).2.2.2
 have hA:=Cf cs p 8 (by omega) hc (by omega);have hT:=Cf cs (p+1) zs.length (by omega) hc (by omega);have hX:=Cf cs (p+2) 64 (by omega) hc (by omega);have eT:Bh cs (p+1) zs.length=((Bh cs (p+1) zs.length).toNat:Int):=by omega
 have t1:=HTK.out p 8 wb (by omega) (by omega) AH;have t2:=HTK.out (p+1) zs.length;have t3:=HTK.out (p+2) 64;rw[show ((p+1:Nat):Int)=(p:Int)+1 from rfl] at t2;rw[show ((p+2:Nat):Int)=(p:Int)+1+1 from by omega] at t3;rw[eT] at t2;have HSP:Hid (Gy cs p zs=G9 zs (Bh cs p 8) (Bh cs (p+1) zs.length).toNat (Bh cs (p+2) 64)):=A6 rfl;have hT2:(Bh cs (p+1) zs.length).toNat<zs.length:=by omega
 generalize (Bh cs (p+1) zs.length).toNat=T at *;generalize Bh cs p 8=A at *;generalize Bh cs (p+2) 64=X at *;generalize Gy cs p zs=R at *;have HWZ:=A5 hzw;have HBB:=A5 hbb;have HWB:=A5 hwb;have hzb2:w.heap.size+1<wb.heap.size:=by omega
 have t20:=A5 t2;have t30:=A5 t3;rw[hwb] at t1;clear hc hs hg hwb hbb hT eT t2 t3 hzw hzb q0 q1 f1;go_enter func70,ntmps70
 go_wp2_with fail
 refine t1.mono ?_;rintro e w1 ⟨rfl,hb1'⟩;have hb1:Bl wb w1:=by rw[HWB.out];exact hb1'
 have s1:=hb1.size;obtain⟨y0,_,_,_⟩:=HQ.out w1 hb1;have HB1:=A5 hb1;have t2:=t20.out w1 (by omega) (by omega) hb1;clear t1 hb1' hb1 t20;go_wp2_with fail
 refine t2.mono ?_;rintro e w2 ⟨rfl,hb2'⟩;have hb2:Bl wb w2:=HB1.out.trans (hb2'.mono s1);have s2:=hb2.size;have HB2:=A5 hb2;have t3:=t30.out w2 (by omega) (by omega) hb2;clear t2 hb2' hb2 t30 y0;go_wp2_with fail
 refine t3.mono ?_;rintro e w3 ⟨rfl,hb3'⟩;have hb3:Bl wb w3:=HB2.out.trans (hb3'.mono s2);have s3:=hb3.size;have HC0:Hid (CW wb (w3.alloc (.cells #[] 75)) w3.heap.size 0 0 zs):=⟨hb3.alloc s3 _,by have:=A8.empty AY w3 wb.heap.size s3;exact this,Nat.zero_le _⟩;clear t3 hb3' hb3;go_wp2_with fail
 go_loopw [10,11] (fun vv iv wr=>∃k g1 c1:Nat,iv=.int .i64 (k:Int)/\vv=.slice (some ⟨g1,0,none⟩) k c1/\CW wb wr g1 c1 k zs) (fun _ iv _=>zs.length-(intOf iv).toNat)
 case atStart=>exact⟨0,w3.heap.size,0,rfl,rfl,HC0.out⟩
 case round =>
  obtain⟨k,g1,c1,rfl,rfl,hcw⟩:=hrel;have hb:=hcw.bel;have sr:=hb.size;have hkl:=hcw.le;obtain⟨y0,y1,y2,y3⟩:=HQ.out wr hb;by_cases hlt:k<zs.length
  ·have cz1:=y3.cell hlt;(have K1:(0:Int)<=(k:Int):=by omega);(have K2:(k:Int)<(zs.length:Int):=by omega);have HCW:=A5 hcw;(obtain⟨Zk,hZk⟩:∃Zk,zs.getD k 0=Zk:=⟨_,rfl⟩);have HZK:=A5 hZk;rw[hZk] at cz1;clear hcw hb y1 y2 y3 hZk;(go_wp2_with (at_builtin;refine wpList_append_lies _ rfl (.tmp 44) (.tmp 50) 33 rfl wb.heap.size 75 i0 _ 1 8 underlying33 hi hi0 hi1 hi2 rfl (by omega) _ _ _ rfl (World.ownsRow.alloc HCW.out.row _) ⟨_,0,none⟩ 1 1 [.int .u64 Zk] rfl rfl ?c1 ?c2 (by omega) ?c3 ?c4 ?c5 _ rfl ?_));(case c1=>exact World.news_of_block (heap_alloc_new _ (.cells #[.int .u64 Zk] 75)));(case c2=>intro u hu;simp at hu;rcases hu with rfl;rfl);(case c3=>unfold maxLen;omega);(case c4=>omega);(case c5=>simp;omega);intro g7 c7 w7 hown hgrow hat hlt3;rw[<- HZK.out] at hown;have hcw7:=HCW.out.push hlt hown hgrow;have HCW7:=A5 hcw7;clear hown hgrow hat hlt3 hcw7 HCW;(go_wp2_with fail);go_roundw;(case rel=>exact⟨k+1,g7,c7,by go_num,rfl,HCW7.out⟩);case measure=>first|(simp[intOf];done)|(simp[intOf];omega)
  ·(have ek:k=zs.length:=by omega);have hrow:=hcw.all ek;subst ek;(have K2:¬(zs.length:Int)<(zs.length:Int):=by omega);have HROW:=A5 hrow;have HB:=A5 hb;have hgb:=(hrow.own g1 rfl).1;(obtain⟨n16,hn16⟩:∃n16,zs.length/16=n16:=⟨_,rfl⟩);(have E16:(zs.length:Int).tdiv 16=(n16:Int):=by rw[Int.tdiv_eq_ediv_of_nonneg (by omega)];omega);(have E16b:(zs.length:Int)/16=(n16:Int):=by omega);(have hn17:1<=n16/\n16<=100:=by omega);have HN:=A5 hn16;clear hcw hrow hb y3 hlt hn16;by_cases a0:A=0
   ·(have ab:(A==0)=true:=by simpa using a0);have HR:Hid (R=zs++[0]):=A6 (by rw[HSP.out];unfold G9;rw[if_pos a0]);clear a0 HSP;(go_wp2_with (at_builtin;refine wpList_append_lies _ rfl (.tmp 57) (.tmp 58) 33 rfl wb.heap.size 75 i0 _ 1 8 underlying33 hi hi0 hi1 hi2 rfl (by omega) _ _ _ rfl (World.ownsRow.alloc HROW.out _) ⟨_,0,none⟩ 1 1 [.int .u64 0] rfl rfl ?c1 ?c2 (by omega) ?c3 ?c4 ?c5 _ rfl ?_));(case c2=>first|rfl|(intro u hu;simp at hu;rcases hu with rfl;rfl));(case c3=>unfold maxLen;omega);(case c4=>omega);(case c5=>first|omega|(simp;omega));intro g7 c7 w7 hown hgrow hat hlt3;have hb7:Bl wb w7:=(HB.out.alloc sr _).grown hgrow (by simp;omega) (fun q hq=>(HROW.out.own q hq).1);have hr7:A8 AY w7 wb.heap.size (.slice (some ⟨g7,0,none⟩) (zs.length+1) c7) (zs++[0]):=by
     have h:=F6 (E:=AY) (x:=0) rfl hown;exact h
    obtain⟨_,z1,z2,_⟩:=HQ.out w7 hb7;have HB7:=A5 hb7;have HR7:=A5 hr7;clear hown hgrow hat hlt3 hb7 hr7 y0 y1 y2;(go_wp2_with fail);rw[HR.out,List.length_append,List.length_singleton];refine bodyPost_ret (v:=.agg #[.slice (some ⟨g7,0,none⟩) (zs.length+1) c7]) (by simp[results,results70,go_sem,z1]) rfl ⟨g7,c7,rfl,?_,?_⟩
    ·have hgo:=(HR7.out.own g7 rfl).1;exact(HR7.out.kept (B7 (World.grownBy.refl _ _) 0 _) (by intro q hq;have:g7=q:=(by simpa [Value.ownBlock] using hq);simp;omega)).rebase (by omega)
    ·exact HBB.out.trans ((HB7.out.mono (by omega)).setCell (by simp<;>omega) _)
   ·(have ab:(A==0)=false:=by simpa using a0);by_cases a1:A=1
    ·(have ab1:(A==1)=true:=by simpa using a1);have HR:Hid (R=[]):=A6 (by rw[HSP.out];unfold G9;rw[if_neg a0,if_pos a1]);clear a0 a1 HSP;(have N1:w.heap.size+1<wr.heap.size:=by omega);have yA:((wr.setCell ⟨w.heap.size+1,0,none⟩ (.slice (some ⟨wr.heap.size,0,none⟩) 0 0)).alloc (.cells #[] 75)).cell? ⟨w.heap.size+1,0,none⟩=some (.slice (some ⟨wr.heap.size,0,none⟩) 0 0):=(AO.cell (p:=⟨w.heap.size+1,0,none⟩) (by simp;omega)).trans (by simp[go_sem,y1]);(go_wp2_with fail);rw[HR.out];refine bodyPost_ret (v:=.agg #[.slice (some ⟨wr.heap.size,0,none⟩) 0 0]) (by simp[results,results70,go_sem,yA]) rfl ⟨wr.heap.size,0,rfl,?_,?_⟩
     ·have h:=A8.empty AY wr wb.heap.size sr;first
       | exact(h.kept (B7 (World.grownBy.refl _ _) 0 _) (by intro q hq;have:wr.heap.size=q:=(by simpa [Value.ownBlock] using hq);simp;omega)).rebase (by omega)
       | exact(by have h:=A8.empty AY (wr.setCell ⟨w.heap.size+1,0,none⟩ (.slice (some ⟨wr.heap.size,0,none⟩) 0 0)) w.heap.size (by simp;omega);rw[World.size_setCell] at h;exact h)
     ·first
       | exact HBB.out.trans (((HB.out.mono (by omega)).alloc (by omega) _).setCell (by simp<;>omega) _)
       | exact HBB.out.trans (((HB.out.mono (by omega)).setCell (by simp<;>omega) _).alloc (by first|omega|(simp;omega)) _)
    ·(have ab1:(A==1)=false:=by simpa using a1);by_cases a5:A<5
     ·have HR:Hid (R=zs.set (Sw zs T X) (Aw 1 1 ((X+A)%((n16:Int)+1)) 0)):=A6 (by rw[HSP.out];unfold G9;rw[if_neg a0,if_neg a1,if_pos a5,HN.out]);have hpl:=HPL.out wr HB.out;unfold CI at hpl;have hps:=DD zs;have HPK:Hid ((A7 zs).length≠0->Xd zs (A7 zs)):=A6 (fun h=>G6 zs ⟨fun h0=>h (by unfold A7;rw[if_pos h0];rfl),HWZ.out⟩);have HSA:Hid (Sw zs T X=if (A7 zs).length=0 then T else ((Aq (A7 zs) (X.toNat%(A7 zs).length)).fr*16+((T%16:Nat):Int)).toNat):=A6 rfl;have M1:(X+A).tmod ((n16:Int)+1)=(X+A)%((n16:Int)+1):=Int.tmod_eq_emod_of_nonneg (by omega);(have M16:(T:Int).tmod 16=((T%16:Nat):Int):=by rw[Int.tmod_eq_emod_of_nonneg (by omega)];omega);(have M16b:(T:Int)%16=((T%16:Nat):Int):=by omega);(have ew:∀wX,Calls prog 139 #[.int .i64 1,.agg #[.int .i64 1,.int .i64 ((X+A)%((n16:Int)+1)),.int .i64 0]] wX (AM wX (.int .u64 (Aw 1 1 ((X+A)%((n16:Int)+1)) 0))):=fun wX=>Bn _ _ _ _ wX);generalize A7 zs=ps at *;generalize Be zs=tr at *;generalize T%16=T16 at *;clear a0 a1 HSP;(go_wp2_with fail);refine hpl.mono ?_;rintro e w4 ⟨a4,c4,rfl,hp4,hb4⟩;have hrow4:=HROW.out.below hb4;have hB4:=HB.out.trans (hb4.mono sr);have s4:=hB4.size;have HB4:=A5 hB4;have HROW4:=A5 hrow4;obtain⟨gp,hgp,hpc⟩:=Dg hp4;clear hpl hB4 hrow4 y0 y1 y2 hp4;by_cases h0:ps.length=0
      ·have HT:Hid (Sw zs T X=T):=A6 (by rw[HSA.out,if_pos h0]);rw[h0];rw[HT.out] at HR;generalize (X+A)%((n16:Int)+1)=O at *;generalize Aw 1 1 O 0=E at *;clear h0 HSA HPK hpc hgp hps;obtain⟨y0,y1,y2,_⟩:=HQ.out w4 HB4.out;(have T1:(0:Int)<=(T:Int):=by omega);(have T2:(T:Int)<(zs.length:Int):=by omega);(go_wp2_with fail);refine(ew _).mono ?_;rintro e w5 ⟨rfl,hb5⟩;have hrow5:=HROW4.out.below hb5;have hB5:=HB4.out.trans (hb5.mono s4);obtain⟨cW,fW,gW,_⟩:=FL hrow5 hT2;obtain⟨_,z1,z2,_⟩:=HQ.out w5 hB5;have HRW:Hid (A8 _ _ _ _ _):=A6 (hrow5.setW (v:=E) hT2);have HB5:=A5 hB5;generalize zs.getD T 0=Zo at cW;clear hb5 hrow5 hB5 ew y0 y1 y2;(go_wp2_with fail);rw[HR.out,List.length_set];refine bodyPost_ret (v:=.agg #[.slice (some ⟨g1,0,none⟩) zs.length c1]) (by simp[results,results70,go_sem,z1]) rfl ⟨g1,c1,rfl,?_,?_⟩
       ·exact(HRW.out.kept (B7 (World.grownBy.refl _ _) 0 _) (by intro q hq;have:g1=q:=(by simpa [Value.ownBlock] using hq);simp;omega)).rebase (by omega)
       ·exact HBB.out.trans (((HB5.out.mono (by omega)).setCell (by simp<;>omega) _).setCell (by simp<;>omega) _)
      ·obtain⟨ha4,hg4⟩:=hgp (by omega);subst ha4;have hJ:X.toNat%ps.length<ps.length:=Nat.mod_lt _ (by omega);have HSA2:Hid (Sw zs T X=((Aq ps (X.toNat%ps.length)).fr*16+(T16:Int)).toNat):=A6 (by rw[HSA.out,if_neg h0]);obtain⟨F,hF,hF2⟩:=(HPK.out h0).ok _ hJ;have MJ:X.tmod (ps.length:Int)=((X.toNat%ps.length:Nat):Int):=by
        rw[Int.tmod_eq_emod_of_nonneg (by omega),Int.natCast_emod];congr 1;omega
       (have MP0:0<ps.length:=by omega);generalize X.toNat%ps.length=J at *;have cP:=(hpc J (Aq ps J).fr (Aq ps J).lv (Aq ps J).pg hJ rfl w4 AH).1;rw[hF] at cP HSA2;(have J1:(0:Int)<=(J:Int):=by omega);(have J2:(J:Int)<(ps.length:Int):=by omega);(have eU:(F:Int)*16+(T16:Int)=((F*16+T16:Nat):Int):=by omega);(have hU:F*16+T16<zs.length:=by omega);have HT:Hid (Sw zs T X=F*16+T16):=A6 (by rw[HSA2.out];omega);rw[HT.out] at HR;generalize F*16+T16=U at *;generalize (X+A)%((n16:Int)+1)=O at *;generalize Aw 1 1 O 0=E at *;(have hF3:F<=1000:=by omega);clear h0 HSA HSA2 HPK hpc hgp hT2 hF;obtain⟨y0,y1,y2,_⟩:=HQ.out w4 HB4.out;(have T1:(0:Int)<=(U:Int):=by omega);(have T2:(U:Int)<(zs.length:Int):=by omega);(go_wp2_with fail);refine(ew _).mono ?_;rintro e w5 ⟨rfl,hb5⟩;have hrow5:=HROW4.out.below hb5;have hB5:=HB4.out.trans (hb5.mono s4);obtain⟨cW,fW,gW,_⟩:=FL hrow5 hU;obtain⟨_,z1,z2,_⟩:=HQ.out w5 hB5;have HRW:Hid (A8 _ _ _ _ _):=A6 (hrow5.setW (v:=E) hU);have HB5:=A5 hB5;generalize zs.getD U 0=Zo at cW;clear hb5 hrow5 hB5 ew y0 y1 y2;(go_wp2_with fail);rw[HR.out,List.length_set];refine bodyPost_ret (v:=.agg #[.slice (some ⟨g1,0,none⟩) zs.length c1]) (by simp[results,results70,go_sem,z1]) rfl ⟨g1,c1,rfl,?_,?_⟩
       ·exact(HRW.out.kept (B7 (World.grownBy.refl _ _) 0 _) (by intro q hq;have:g1=q:=(by simpa [Value.ownBlock] using hq);simp;omega)).rebase (by omega)
       ·exact HBB.out.trans (((HB5.out.mono (by omega)).setCell (by simp<;>omega) _).setCell (by simp<;>omega) _)
     ·(have ab5:decide (A<5)=false:=by simpa using a5);have HR:Hid (R=zs.set T (YO zs T X)):=A6 (by rw[HSP.out];unfold G9;rw[if_neg a0,if_neg a1,if_neg a5]);obtain⟨cW,fW,_,_⟩:=FL HROW.out hT2;have HSW:Hid (YO zs T X=bits .xor .u64 (zs.getD T 0) (1+2*(X%2)+64*(X%3))):=A6 rfl;have M2:X.tmod 2=X%2:=Int.tmod_eq_emod_of_nonneg (by omega);have M3:X.tmod 3=X%3:=Int.tmod_eq_emod_of_nonneg (by omega);(have W1:IntKind.u64.wrap (1+2*(X%2)+64*(X%3))=1+2*(X%2)+64*(X%3):=by rw[IntKind.wrap_u64];omega);(have T1:(0:Int)<=(T:Int):=by omega);(have T2:(T:Int)<(zs.length:Int):=by omega);have HRW:Hid (A8 _ _ _ _ _):=A6 (HROW.out.setW (v:=YO zs T X) hT2);rw[HSW.out] at HRW HR;generalize zs.getD T 0=ZT at *;clear a0 a1 a5 HSP HSW;(go_wp2_with fail);generalize bits .xor .u64 ZT (1+2*(X%2)+64*(X%3))=E at *;rw[HR.out,List.length_set];refine bodyPost_ret (v:=.agg #[.slice (some ⟨g1,0,none⟩) zs.length c1]) (by simp[results,results70,go_sem,y1]) rfl ⟨g1,c1,rfl,?_,?_⟩
      ·exact(HRW.out.kept (B7 (World.grownBy.refl _ _) 0 _) (by intro q hq;have:g1=q:=(by simpa [Value.ownBlock] using hq);simp;omega)).rebase (by omega)
      ·exact HBB.out.trans (((HB.out.mono (by omega)).setCell (by simp<;>omega) _).setCell (by simp<;>omega) _)
end
def RK (cs:List Int):List AE:=if Bh cs 0 16<8 then (if Bh cs 0 16=7 then I5 cs 1 else Ba 1 cs 1) else Ba (Bh cs 0 16%2) cs (CF cs 1).2
def Xp (cs:List Int):List Int:=if Bh cs 0 16<8 then NS cs 1 else if Bh cs 0 16<13 then Iv (CF cs 1).1 (16*(NJ (RK cs)+Bh cs 0 16%3)) else if Bh cs 0 16=15 then Gy cs ((CF cs 1).2+5*FT cs) (CF cs 1).1 else (CF cs 1).1
theorem Xk(cs:List Int):(RK cs).length<=8192/\∀i,i<(RK cs).length->Qe (AQ AA (RK cs) i):=by
 have h0:∀v p,(Ba v cs p).length<=8192/\∀i,i<(Ba v cs p).length->Qe (AQ AA (Ba v cs p) i):=fun v p=>⟨by have:=(Gi v cs p).1;omega,It v cs p⟩
 unfold RK;split
 ·split
  ·exact⟨(SG cs 1).1,fun i hi=>((SG cs 1).2 i hi).wf⟩
  ·exact h0 _ _
 ·exact h0 _ _
theorem UQ(cs:List Int)(hc:Ia cs):16<=(CF cs 1).1.length/\(CF cs 1).1.length<=1000/\Pt (CF cs 1).1/\(CF cs 1).2<=401:=by
 have h:=Pk cs 1 hc (by omega);have h1:=Rf cs;have h2:=(Xs cs 1 hc (by omega)).2;have h3:=h.len;have h4:=h.pl;exact⟨by omega,by omega,h.wrd,by omega⟩
theorem Zu(cs:List Int)(hc:Ia cs):(Xp cs).length<=100000/\Pt (Xp cs):=by
 obtain⟨h1,h2,h3,h4⟩:=UQ cs hc;have hb:=Cf cs 0 16 (by omega) hc (by omega);unfold Xp;split
 ·have:=UU cs 1;exact⟨by omega,this.2.2⟩
 ·split
  ·have ht:=JS (RK cs);refine⟨?_,fun i=>?_⟩
   ·unfold Iv;rw[List.length_append,List.length_replicate];omega
   ·unfold Iv;rw[List.getD_eq_getElem?_getD,List.getElem?_append];split
    ·have:=h3 i;rw[List.getD_eq_getElem?_getD] at this;exact this
    ·rw[List.getElem?_replicate];split<;>exact⟨by decide,by decide⟩
  ·split
   ·have:=SH (CF cs 1).1 (Bh cs ((CF cs 1).2+5*FT cs) 8) (Bh cs ((CF cs 1).2+5*FT cs+1) (CF cs 1).1.length).toNat (Bh cs ((CF cs 1).2+5*FT cs+2) 64) h3;unfold Gy;exact⟨by omega,this.1⟩
   ·exact⟨by omega,h3⟩
theorem Ng(a:Option Addr)(cap:Nat)(cs:List Int)(w:World)(hc:Ia cs)(hs:On w a cs):Calls prog 23 #[.slice a cs.length cap] w fun e w'=>IP w (Xp cs) (RK cs) e w':=by
 have hb:=Cf cs 0 16 (by omega) hc (by omega);have hr:=(Ja cs).2;have hT:∀wX,Bl w wX->Calls prog 64 #[.slice a cs.length cap,.int .i64 0,.int .i64 16] wX (AM wX (.tuple #[.int .i64 (Bh cs 0 16),.int .i64 1])):=fun wX hX=>Ed a cap cs 0 16 wX hc (by omega) (by omega) (hs.below hX)
 by_cases h8:Bh cs 0 16<8
 ·unfold Xp RK;rw[if_pos h8,if_pos h8];exact Yo _ _ (NS cs 1) (Ba 1 cs 1) (I5 cs 1) _ _ w hb.1 h8 hT (fun wX hX=>KQ a cap cs 1 wX hc (by omega) (hs.below hX)) (fun wX hX=>DR 1 (.inr rfl) a cap cs 1 wX hc (by omega) (hs.below hX)) (fun wX hX=>NR a cap cs 1 wX hc (by omega) (hs.below hX))
 ·obtain⟨h1,h2,h3,h4⟩:=UQ cs hc;have hS:∀wX,Bl w wX->Calls prog 66 #[.slice a cs.length cap,.int .i64 ((CF cs 1).2:Int),.int .i64 (Bh cs 0 16%2)] wX fun e w'=>IT wX (RK cs) ((CF cs 1).2+5*FT cs) e w':=fun wX hX=>by
   unfold RK;rw[if_neg h8];exact DR _ (by omega) a cap cs _ wX hc (by omega) (hs.below hX)
  have hq:=Xk cs;have ht:=JS (RK cs);have e:Xp cs=if Bh cs 0 16<13 then Iv (CF cs 1).1 (16*(NJ (RK cs)+Bh cs 0 16%3)) else if Bh cs 0 16=15 then Gy cs ((CF cs 1).2+5*FT cs) (CF cs 1).1 else (CF cs 1).1:=by unfold Xp;rw[if_neg h8]
  rw[e];exact XE _ _ (CF cs 1).1 _ (RK cs) (CF cs 1).2 ((CF cs 1).2+5*FT cs) (NJ (RK cs)) w (by omega) hb.2 h2 (by omega) hT (fun wX hX=>Na a cap cs 1 wX hc (by omega) (hs.below hX)) hS (fun g c b wX h=>IR _ c b _ wX (by omega) hq.2 h) (fun g wX hX h=>RH a cap cs _ g _ _ wX hc (by omega) (hs.below hX) h h1 h2 h3)
end Go.Proofs.YtnmhkgmmpkjjeaaGreat
