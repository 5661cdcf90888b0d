import Derived.Test.YtnmhkgmmpkjjeaaGreatK49
import Derived.Test.YtnmhkgmmpkjjeaaGreatK51
import Derived.Test.YtnmhkgmmpkjjeaaGreatK52
import Derived.Test.YtnmhkgmmpkjjeaaGreatK53
import Derived.Test.YtnmhkgmmpkjjeaaGreatK54
namespace Go.Proofs.YtnmhkgmmpkjjeaaGreat
open Go.ChangeShapes Go.WideShapes Go.ChangeAt Go.RowKit
set_option linter.unusedVariables false
set_option linter.unusedSimpArgs false
set_option maxRecDepth 100000
attribute [local go_sem ↓] Go.wp_at_zero Go.wp_at_succ
attribute [local go_sem] Cj Dv Dz FW Dw D0
def Cn (cs:List Int) (p:Nat):List A9:=(GO (EK cs p)).1
theorem KD (cs:List Int) (p:Nat):(Cn cs p).length<=4096/\∀i,i<(Cn cs p).length->Sa (AI A7 (Cn cs p) i):=by
 obtain⟨h1,h2⟩:=V5 (EK cs p);refine⟨h1,fun i hi=>h2 _ ?_⟩;unfold AI;unfold Cn at hi ⊢;rw[List.getD_eq_getElem?_getD,List.getElem?_eq_getElem hi];exact List.getElem_mem _
set_option maxHeartbeats 2000000 in
theorem Es (a:Option Addr) (cap:Nat) (cs:List Int) (p:Nat) (w:World) (hc:GQ cs) (hp:p<=90000) (hs:Ly w a cs) : Calls Tryz.prog 66 #[.slice a cs.length cap,.int .i64 (p:Int),.int .i64 1] w fun e w'=>GX w (Cn cs p) (p+5*Cb cs) e w':=by
 have t1:=Ld a cap cs p w hc hp hs;have hlen:=(KR cs p hc hp).2;have HT:Hid (∀wX,Calls Tryz.prog 11 #[.string (bs (EK cs p))] wX fun e w'=>H7 wX (GO (EK cs p)) e w'):=A0 fun wX=>IZ _ wX (by omega)
 have HS:Hid (Cn cs p=(GO (EK cs p)).1):=A0 rfl;generalize Cn cs p=L at *;generalize GO (EK cs p)=R at *;generalize EK cs p=T at *;generalize p+5*Cb cs=q at *;obtain⟨R1,R2,R3⟩:=R;obtain rfl:L=R1:=HS.out;clear hc hs HS;go_enter Tryz.func66,Tryz.ntmps66
 go_wp2_with fail
 refine t1.mono ?_;rintro e w1 ⟨rfl,hb1⟩;have t2:=HT.out w1;have HB1:Hid (Below w.heap.size w w1):=hb1;clear t1 hb1 HT;go_wp2_with fail
 refine t2.mono ?_;rintro e w2 ⟨g,c1,rfl,hr,hb2⟩;have HR:Hid (A6 A7 w2 w.heap.size (.slice (some ⟨g,0,none⟩) L.length c1) L):=A0 (hr.rebase HB1.out.size);have HB2:Hid (Below w.heap.size w w2):=A0 (HB1.out.trans (hb2.mono HB1.out.size));clear t2 hb2 hr;go_wp2_with fail
 refine bodyPost_ret (v:=.tuple #[.slice (some ⟨g,0,none⟩) L.length c1,.int .i64 (q:Int)]) (by simp[results,Tryz.results66,go_sem]) rfl ⟨g,c1,rfl,HR.out.below ?_,HB2.out.trans (Below.mono ?_ HB2.out.size)⟩
 ·exact Ax
 ·exact Ax
end Go.Proofs.YtnmhkgmmpkjjeaaGreat
namespace Go.Proofs.YtnmhkgmmpkjjeaaGreat
open Go.ChangeShapes Go.WideShapes Go.ChangeAt Go.RowKit
set_option linter.unusedVariables false
set_option maxRecDepth 100000
attribute [local go_sem ↓] Go.wp_at_zero Go.wp_at_succ
set_option linter.unusedSimpArgs false
theorem Hy (a:Option Addr) (cap b:Nat) (xs:List A9) (w:World) (hn:xs.length<=1048576) (hwf:∀i,i<xs.length->O8 (AI A7 xs i)) (h:A6 A7 w b (.slice a xs.length cap) xs) : Calls Tryz.prog 69 #[.slice a xs.length cap] w fun e w'=>e=.returned (.int .i64 (Mx xs))/\Below w.heap.size w w':=by
 have hv:=Et a cap b xs w hn hwf h;have HH:Hid (∀wX,VS xs->Below w.heap.size w wX->Calls Tryz.prog 71 #[.slice a xs.length cap] wX fun e w'=>∃g c,e=.returned (.slice (some ⟨g,0,none⟩) 4096 c)/\A6 Dj w' wX.heap.size (.slice (some ⟨g,0,none⟩) 4096 c) (BE xs 4096)/\Below wX.heap.size wX w'):=fun wX h1 hX=>I4 a cap b xs wX hn h1 (h.below hX)
 clear h hwf;cases hvb:FE xs<;>rw[hvb] at hv
 ·rw[Xp hvb];clear hvb HH;go_enter Tryz.func69,Tryz.ntmps69
  go_wp2_with fail
  refine hv.mono ?_;rintro e w1 ⟨rfl,hb1⟩;go_wp2_with fail
  go_ret;exact⟨rfl,hb1⟩
 ·rw[Re hvb];have hvs:=VS.of_true hvb;clear hvb;go_enter Tryz.func69,Tryz.ntmps69
  go_wp2_with fail
  refine hv.mono ?_;rintro e w1 ⟨rfl,hb1⟩;have hh:=HH.out w1 hvs hb1;have HB1:Hid _:=hb1;clear hv hvs hb1 HH;go_wp2_with fail
  refine hh.mono ?_;rintro e w2 ⟨g,c,rfl,hr2,hb2⟩;have hw:=Fu g c w1.heap.size (BE xs 4096) w2 (Bh xs 4096) (by rw[Bh];exact hr2);have HB2:Hid (Below w.heap.size w w2):=HB1.out.trans (hb2.mono HB1.out.size);clear hh hr2 hb2;go_wp2_with fail
  refine hw.mono ?_;rintro e w3 ⟨g3,c3,rfl,hr3,hb3⟩;have b3:Below w.heap.size w w3:=HB2.out.trans (hb3.mono HB2.out.size);clear hw hr3 hb3;go_wp2_with fail
  go_ret;exact⟨rfl,b3⟩
def F0 (cs:List Int) (p:Nat):Nat:=p+1+5*Cb cs
def Gg (cs:List Int) (q:Nat) (l:List A9):List A9:=FH (Az cs q 10) (Az cs (q+1) l.length) (q+2) l l.length
abbrev Rr (cs:List Int) (p:Nat):Prop:=6<=Az cs p 8/\0<(Bw cs (p+1)).length
def Hi (cs:List Int) (p:Nat):List A9:=if Rr cs p then Gg cs (F0 cs p) (Bw cs (p+1)) else Bw cs (p+1)
def Vj (cs:List Int) (p:Nat):Nat:=if Rr cs p then F0 cs p+2 else F0 cs p
theorem RB (cs:List Int) (p:Nat):(Hi cs p).length<=8192/\∀i,i<(Hi cs p).length->Xt (AI A7 (Hi cs p) i):=by
 obtain⟨h1,h2⟩:=JR cs (p+1);unfold Hi;split
 ·have h3:=Kp (Az cs (F0 cs p) 10) (Az cs (F0 cs p+1) (Bw cs (p+1)).length) (F0 cs p+2) (Bw cs (p+1)) (Bw cs (p+1)).length;have h4:=US (Az cs (F0 cs p) 10) (Az cs (F0 cs p+1) (Bw cs (p+1)).length) (F0 cs p+2) h2 (Bw cs (p+1)).length (Nat.le_refl _);refine⟨by unfold Gg;omega,fun i hi=>h4 _ ?_⟩;unfold Gg at hi ⊢;unfold AI;rw[List.getD_eq_getElem?_getD,List.getElem?_eq_getElem hi];exact List.getElem_mem _
 ·exact⟨by omega,fun i hi=>(h2 i hi).q⟩
set_option maxHeartbeats 4000000 in
theorem Nd (a:Option Addr) (cap:Nat) (cs:List Int) (p:Nat) (w:World) (hc:GQ cs) (hp:p<=80000) (hs:Ly w a cs) : Calls Tryz.prog 67 #[.slice a cs.length cap,.int .i64 (p:Int)] w fun e w'=>GX w (Hi cs p) (Vj cs p) e w':=by
 have t1:=Dd a cap cs p 8 w hc (by omega) (by omega) hs;have HT2:Hid (∀wX,Below w.heap.size w wX->Calls Tryz.prog 66 #[.slice a cs.length cap,.int .i64 ((p:Int)+1),.int .i64 0] wX fun e w'=>GX wX (Bw cs (p+1)) (F0 cs p) e w'):=A0 fun wX hX=>FI a cap cs (p+1) wX hc (by omega) (hs.below hX)
 obtain⟨hk1,hk2⟩:=JR cs (p+1);obtain⟨b0,b1⟩:=Fg cs;have hQ:F0 cs p<=90000:=by unfold F0;omega
 have HT3:Hid (∀g c wX,0<(Bw cs (p+1)).length->Below w.heap.size w wX->A6 A7 wX w.heap.size (.slice (some ⟨g,0,none⟩) (Bw cs (p+1)).length c) (Bw cs (p+1))->Calls Tryz.prog 137 #[.slice a cs.length cap,.int .i64 (F0 cs p:Int),.slice (some ⟨g,0,none⟩) (Bw cs (p+1)).length c] wX fun e w'=>∃g c:Nat,e=.returned (.slice (some ⟨g,0,none⟩) (Gg cs (F0 cs p) (Bw cs (p+1))).length c)/\A6 A7 w' wX.heap.size (.slice (some ⟨g,0,none⟩) (Gg cs (F0 cs p) (Bw cs (p+1))).length c) (Gg cs (F0 cs p) (Bw cs (p+1)))/\Below wX.heap.size wX w'):=A0 fun g c wX h0 hX hr=>Sf a cap cs (F0 cs p) wX hc (by omega) (hs.below hX) g c w.heap.size _ h0 hk1 hk2 hr
 have HA:Hid (Hi cs p=if 6<=Az cs p 8/\0<(Bw cs (p+1)).length then Gg cs (F0 cs p) (Bw cs (p+1)) else Bw cs (p+1)):=A0 rfl;have HP:Hid (Vj cs p=if 6<=Az cs p 8/\0<(Bw cs (p+1)).length then F0 cs p+2 else F0 cs p):=A0 rfl;clear hc hs hk2;generalize Hi cs p=AS at *;generalize Vj cs p=AP at *;generalize Gg cs (F0 cs p) (Bw cs (p+1))=SL at *;generalize Bw cs (p+1)=L at *;generalize F0 cs p=q at *;generalize Az cs p 8=HW at *;have W1:=D9 (x:=(q:Int)+2) (by omega);go_enter Tryz.func67,Tryz.ntmps67
 go_wp2_with fail
 refine t1.mono ?_;rintro e w1 ⟨rfl,hb1⟩;have t2:=HT2.out w1 hb1;have HB1:Hid (Below w.heap.size w w1):=hb1;clear t1 hb1 HT2;go_wp2_with fail
 refine t2.mono ?_;rintro e w2 ⟨g,c,rfl,hr,hb2⟩;have HR:Hid (A6 A7 w2 w.heap.size (.slice (some ⟨g,0,none⟩) L.length c) L):=A0 (hr.rebase HB1.out.size);have HB2:Hid (Below w.heap.size w w2):=A0 (HB1.out.trans (hb2.mono HB1.out.size));clear t2 hb2 hr;by_cases h6:6<=HW
 ·have h6b:decide (6<=HW)=true:=by simpa using h6
  by_cases h0:0<L.length
  ·(have h0b:(0:Int)<(L.length:Int):=by omega);have t3:=HT3.out g c w2 h0 HB2.out HR.out;have HA1:Hid (AS=SL):=A0 (by rw[HA.out,if_pos ⟨h6,h0⟩]);have HP1:Hid (AP=q+2):=A0 (by rw[HP.out,if_pos ⟨h6,h0⟩]);clear HT3 HA HP;(go_wp2_with fail);refine t3.mono ?_;rintro e w3 ⟨g2,c2,rfl,hr3,hb3⟩;have HR3:Hid (A6 A7 w3 w.heap.size (.slice (some ⟨g2,0,none⟩) SL.length c2) SL):=A0 (hr3.rebase HB2.out.size);have HB3:Hid (Below w.heap.size w w3):=A0 (HB2.out.trans (hb3.mono HB2.out.size));clear t3 hr3 hb3;(go_wp2_with fail);exact bodyPost_ret (v:=.tuple #[.slice (some ⟨g2,0,none⟩) SL.length c2,.int .i64 ((q:Int)+2)]) (by simp[results,Tryz.results67,go_sem]) rfl ⟨g2,c2,by rw[HA1.out,HP1.out];rfl,by rw[HA1.out];exact HR3.out,HB3.out⟩
  ·(have h0b:¬(0:Int)<(L.length:Int):=by omega);have HA1:Hid (AS=L):=A0 (by rw[HA.out,if_neg (fun h=>h0 h.2)]);have HP1:Hid (AP=q):=A0 (by rw[HP.out,if_neg (fun h=>h0 h.2)]);clear HT3 HA HP;(go_wp2_with fail);exact bodyPost_ret (v:=.tuple #[.slice (some ⟨g,0,none⟩) L.length c,.int .i64 (q:Int)]) (by simp[results,Tryz.results67,go_sem]) rfl ⟨g,c,by rw[HA1.out,HP1.out],by rw[HA1.out];exact HR.out,HB2.out⟩
 ·have h6b:decide (6<=HW)=false:=by simpa using h6
  have HA1:Hid (AS=L):=A0 (by rw[HA.out,if_neg (fun h=>h6 h.1)]);have HP1:Hid (AP=q):=A0 (by rw[HP.out,if_neg (fun h=>h6 h.1)]);clear HT3 HA HP;go_wp2_with fail
  exact bodyPost_ret (v:=.tuple #[.slice (some ⟨g,0,none⟩) L.length c,.int .i64 (q:Int)]) (by simp[results,Tryz.results67,go_sem]) rfl ⟨g,c,by rw[HA1.out,HP1.out],by rw[HA1.out];exact HR.out,HB2.out⟩
end Go.Proofs.YtnmhkgmmpkjjeaaGreat
namespace Go.Proofs.YtnmhkgmmpkjjeaaGreat
open Go.ChangeShapes Go.WideShapes Go.ChangeAt Go.RowKit
set_option linter.unusedVariables false
set_option linter.unusedSimpArgs false
set_option maxRecDepth 100000
open Go.ChangeShapes Go.WideShapes Go.ChangeAt Go.RowKit Go.Joins
def SG (cs:List Int) (p:Nat):Int:=(if Mx (Bw cs p)<Mx (Cn cs p) then Mx (Cn cs p) else Mx (Bw cs p))+((p+5*Cb cs:Nat):Int)%3
def NF (cs:List Int) (p:Nat):List Int:=(Dq (Bw cs p) (SG cs p)).1
theorem Pa (cs:List Int) (p:Nat):Mx (Bw cs p)<=SG cs p/\SG cs p<=512:=by
 have h1:=JJ (Bw cs p);have h2:=JJ (Cn cs p);unfold SG;split<;>omega
theorem TI (cs:List Int) (p:Nat):(Dq (Bw cs p) (SG cs p)).2=0:=Sb (VO _) (Pa cs p).1 (Pa cs p).2
theorem V0 (cs:List Int) (p:Nat):0<(NF cs p).length/\(NF cs p).length<=8192/\O5 (NF cs p):=⟨(RM _ _ (TI cs p)).1,Q9 _ _,(RM _ _ (TI cs p)).2⟩
theorem Mk (cs:List Int) (p:Nat):∀i,i<(Bw cs p).length->O8 (AI A7 (Bw cs p) i):=fun i hi=>((JR cs p).2 i hi).q.wf
theorem KW (cs:List Int) (p:Nat):∀i,i<(Cn cs p).length->O8 (AI A7 (Cn cs p) i):=fun i hi=>((KD cs p).2 i hi).q.wf
theorem Jw (a:Option Addr) (cap:Nat) (cs:List Int) (p:Nat) (w:World) (hc:GQ cs) (hp:p<=80000) (hs:Ly w a cs) : Calls Tryz.prog 65 #[.slice a cs.length cap,.int .i64 (p:Int)] w fun e w'=>Im w (NF cs p) e w':=by
 have hr:=(Fg cs).2;have k0:=(JR cs p).1;have k1:=(KD cs p).1;have hz:=V0 cs p;have t1:=JJ (Bw cs p);have t2:=JJ (Cn cs p);refine JT (.slice a cs.length cap) p (p+5*Cb cs) (p+5*Cb cs) (Bw cs p) (Cn cs p) (Mx (Bw cs p)) (Mx (Cn cs p)) (NF cs p) (Bt (NF cs p) (Cn cs p)).1 (Bt (NF cs p) (Cn cs p)).2 w (by omega) (by omega) (by omega) hz.1 ?_ ?_ ?_ ?_ ?_ ?_ ?_
 ·exact fun wX hX=>FI a cap cs p wX hc (by omega) (hs.below hX)
 ·exact fun wX hX=>Es a cap cs p wX hc (by omega) (hs.below hX)
 ·exact fun g c b wX h=>Hy _ c b _ wX (by omega) (Mk cs p) h
 ·exact fun g c b wX h=>Hy _ c b _ wX (by omega) (KW cs p) h
 ·intro g c b wX h;have hn:=Pa cs p;have t:=Lq _ c b _ (SG cs p) wX (by omega) (by omega) (by omega) (Mk cs p) h;unfold H0 at t;rw[TI] at t;exact t
 ·exact fun g cz g2 c b wX h1 h2 h3=>Fn g _ cz _ c b _ wX (by omega) hz.2.2 h1 (by omega) (KW cs p) h3
 ·exact fun g1 c1 b1 g2 c2 b2 wX hX h1 h2=>Us a cap cs _ wX hc (by omega) (hs.below hX) g1 c1 b1 _ k0 (JR cs p).2 h1 g2 c2 b2 _ k1 (KD cs p).2 h2
def QA (cs:List Int):List A9:=if Az cs 0 16<8 then (if Az cs 0 16=7 then Hi cs 1 else Cn cs 1) else if Az cs 0 16%2=0 then Bw cs (Bk cs 1).2 else Cn cs (Bk cs 1).2
def Wo (cs:List Int):List Int:=if Az cs 0 16<8 then NF cs 1 else if Az cs 0 16<13 then Ik (Bk cs 1).1 (16*(Mx (QA cs)+Az cs 0 16%3)) else if Az cs 0 16=15 then Gt cs ((Bk cs 1).2+5*Cb cs) (Bk cs 1).1 else (Bk cs 1).1
theorem XK (cs:List Int):(QA cs).length<=8192/\∀i,i<(QA cs).length->O8 (AI A7 (QA cs) i):=by
 have h0:∀p,(Bw cs p).length<=8192/\∀i,i<(Bw cs p).length->O8 (AI A7 (Bw cs p) i):=fun p=>⟨by have:=(JR cs p).1;omega,Mk cs p⟩
 have h1:∀p,(Cn cs p).length<=8192/\∀i,i<(Cn cs p).length->O8 (AI A7 (Cn cs p) i):=fun p=>⟨by have:=(KD cs p).1;omega,KW cs p⟩
 unfold QA;split
 ·split
  ·exact⟨(RB cs 1).1,fun i hi=>((RB cs 1).2 i hi).wf⟩
  ·exact h1 _
 ·split
  ·exact h0 _
  ·exact h1 _
theorem Uv (cs:List Int) (hc:GQ cs):16<=(Bk cs 1).1.length/\(Bk cs 1).1.length<=1000/\O5 (Bk cs 1).1/\(Bk cs 1).2<=401:=by
 have h:=PK cs 1 hc (by omega);have h1:=Qt cs;have h2:=(Wg cs 1 hc (by omega)).2;have h3:=h.len;have h4:=h.pl;exact⟨by omega,by omega,h.wrd,by omega⟩
theorem YP (cs:List Int) (hc:GQ cs):(Wo cs).length<=100000/\O5 (Wo cs):=by
 obtain⟨h1,h2,h3,h4⟩:=Uv cs hc;have hb:=Bz cs 0 16 (by omega) hc (by omega);unfold Wo;split
 ·have:=V0 cs 1;exact⟨by omega,this.2.2⟩
 ·split
  ·have ht:=JJ (QA cs);refine⟨?_,fun i=>?_⟩
   ·unfold Ik;rw[List.length_append,List.length_replicate];omega
   ·unfold Ik;rw[List.getD_eq_getElem?_getD,List.getElem?_append];split
    ·have:=h3 i;rw[List.getD_eq_getElem?_getD] at this;exact this
    ·rw[List.getElem?_replicate];split<;>exact⟨by decide,by decide⟩
  ·split
   ·have:=Ry (Bk cs 1).1 (Az cs ((Bk cs 1).2+5*Cb cs) 8) (Az cs ((Bk cs 1).2+5*Cb cs+1) (Bk cs 1).1.length).toNat (Az cs ((Bk cs 1).2+5*Cb cs+2) 64) h3;unfold Gt;exact⟨by omega,this.1⟩
   ·exact⟨by omega,h3⟩
theorem Nu (a:Option Addr) (cap:Nat) (cs:List Int) (w:World) (hc:GQ cs) (hs:Ly w a cs) : Calls Tryz.prog 23 #[.slice a cs.length cap] w fun e w'=>I3 w (Wo cs) (QA cs) e w':=by
 have hb:=Bz cs 0 16 (by omega) hc (by omega);have hr:=(Fg cs).2;have hT:∀wX,Below w.heap.size w wX->Calls Tryz.prog 64 #[.slice a cs.length cap,.int .i64 0,.int .i64 16] wX fun e w'=>e=.returned (.tuple #[.int .i64 (Az cs 0 16),.int .i64 1])/\Below wX.heap.size wX w':=fun wX hX=>Dd a cap cs 0 16 wX hc (by omega) (by omega) (hs.below hX)
 by_cases h8:Az cs 0 16<8
 ·unfold Wo QA;rw[if_pos h8,if_pos h8];exact XZ _ _ (NF cs 1) (Cn cs 1) (Hi cs 1) _ _ w hb.1 h8 hT (fun wX hX=>Jw a cap cs 1 wX hc (by omega) (hs.below hX)) (fun wX hX=>Es a cap cs 1 wX hc (by omega) (hs.below hX)) (fun wX hX=>Nd a cap cs 1 wX hc (by omega) (hs.below hX))
 ·obtain⟨h1,h2,h3,h4⟩:=Uv cs hc;have hS:∀wX,Below w.heap.size w wX->Calls Tryz.prog 66 #[.slice a cs.length cap,.int .i64 ((Bk cs 1).2:Int),.int .i64 (Az cs 0 16%2)] wX fun e w'=>GX wX (QA cs) ((Bk cs 1).2+5*Cb cs) e w':=fun wX hX=>by
   unfold QA;rw[if_neg h8];by_cases hp:Az cs 0 16%2=0
   ·rw[if_pos hp,hp];exact FI a cap cs _ wX hc (by omega) (hs.below hX)
   ·rw[if_neg hp,show Az cs 0 16%2=1 by omega];exact Es a cap cs _ wX hc (by omega) (hs.below hX)
  have hq:=XK cs;have ht:=JJ (QA cs);have e:Wo cs=if Az cs 0 16<13 then Ik (Bk cs 1).1 (16*(Mx (QA cs)+Az cs 0 16%3)) else if Az cs 0 16=15 then Gt cs ((Bk cs 1).2+5*Cb cs) (Bk cs 1).1 else (Bk cs 1).1:=by unfold Wo;rw[if_neg h8]
  rw[e];exact WX _ _ (Bk cs 1).1 _ (QA cs) (Bk cs 1).2 ((Bk cs 1).2+5*Cb cs) (Mx (QA cs)) w (by omega) hb.2 h2 (by omega) hT (fun wX hX=>NE a cap cs 1 wX hc (by omega) (hs.below hX)) hS (fun g c b wX h=>Hy _ c b _ wX (by omega) hq.2 h) (fun g wX hX h=>QM a cap cs _ g _ _ wX hc (by omega) (hs.below hX) h h1 h2 h3)
theorem U2 (a:Option Addr) (cap:Nat) (cs:List Int) (w:World) (hc:GQ cs) (hs:Ly w a cs) : Calls Tryz.prog 5 #[.slice a cs.length cap] w fun e w'=>e=.returned (.bool true)/\Below w.heap.size w w':=by
 obtain⟨h1,h2⟩:=YP cs hc;obtain⟨h3,h4⟩:=XK cs;exact VK a cs.length cap (Wo cs) (QA cs) w hc.1 h2 (by omega) (by omega) h4 (fun wX hX=>Nu a cap cs wX hc (hs.below hX)) (fun g c g2 c2 b wX k1 k2=>Fn g _ c _ c2 b _ wX (by omega) h2 k1 (by omega) h4 k2) (fun g c g2 c2 b wX k0 k1 k2=>N6 g _ c _ c2 b _ wX (by omega) k0 h2 k1 (by omega) h4 k2)
theorem WZ {H:Type} {enc:TypeId×Value->H} {W:World} {sp:Nat->Bool} {fuel:Nat} {v:Value} {y:DataW H×List MemPlace} (hf:DataW.trod enc Tryz.prog W 0 sp true fuel 22 [v]=some y) : ∃a cs cap,v=.slice a (cs:List Int).length cap/\Ly W a cs/\cs.length<=9223372036854775807/\∀i,0<=cs.getD i 0/\cs.getD i 0<256:=by
 rcases open_ints Tryz.underlying22 Tryz.underlying5 (by kernel_rfl) hf with⟨hcs,_⟩|⟨x,l,c,zs,hcs,_,hl,hm,hz,_,hcell,hwz⟩
 ·simp at hcs;subst hcs;exact⟨none,[],0,rfl,fun h=>absurd h (by simp),by simp,fun i=>by simp⟩
 ·simp at hcs;subst hcs;have hlz:l<=zs.length:=by rw[hz];split<;>omega
  have hlen:(zs.take l).length=l:=by rw[List.length_take];omega
  have hget:∀i,i<l->(zs.take l).getD i 0=zs.getD i 0:=fun i hi=>by
   rw[List.getD_eq_getElem?_getD,List.getD_eq_getElem?_getD,List.getElem?_take,if_pos hi]
  unfold maxLen at hm;refine⟨some x,zs.take l,c,by rw[hlen],fun h0=>?_,by omega,fun i=>?_⟩
  ·rw[hlen] at h0;obtain⟨b,off,rfl,hc⟩:=ints_at hcell (by omega);refine⟨b,off,rfl,World.block_lt_of_cell? W _ (hc 0 (by omega)),fun i hi=>?_⟩;rw[hlen] at hi;rw[hget i hi];exact hc i (by omega)
  ·by_cases hi:i<(zs.take l).length
   ·have hmem:(zs.take l).getD i 0∈zs:=by
     rw[List.getD_eq_getElem?_getD,List.getElem?_eq_getElem hi];exact List.mem_of_mem_take (List.getElem_mem hi)
    have:=bounds_u8 (hwz _ hmem);omega
   ·rw[List.getD_eq_getElem?_getD,List.getElem?_eq_none (by omega)];simp
end Go.Proofs.YtnmhkgmmpkjjeaaGreat
namespace Go.Proofs.YtnmhkgmmpkjjeaaGreat
open Go.ChangeShapes Go.WideShapes Go.ChangeAt Go.RowKit Go.Joins
set_option linter.unusedVariables false
attribute [local go_sem ↓] Go.wp_at_zero Go.wp_at_succ
theorem Vi (a:Option Addr) (n cap:Nat) (hb:1048576<n) (hm:n<=9223372036854775807) (w:World) : Calls Tryz.prog 5 #[.slice a n cap] w fun e w'=>e=.returned (.bool true)/\Below w.heap.size w w':=by
 have hK:(1048576:Int)<(n:Int):=by omega
 refine Ir 257 Tryz.func5 rfl (by rfl) (by simp) ?_;intro tm hsz hla;have s0:=hla 0 (by simp);clear hla;simp only[List.getElem_toArray,List.getElem_cons_zero] at s0;go_upto_if 32 with fail
 refine cT (by go_simp) ?_;go_wp2_with fail
 exact bodyPost_ret (v:=.bool true) (by simp[results,Tryz.results5,go_sem,hsz]) rfl ⟨rfl,Below.refl _ _⟩
theorem WG (a:Option Addr) (cap:Nat) (cs:List Int) (w:World) (hs:Ly w a cs) (hm:cs.length<=9223372036854775807) (hr:∀i,0<=cs.getD i 0/\cs.getD i 0<256) : Calls Tryz.prog 5 #[.slice a cs.length cap] w fun e w'=>e=.returned (.bool true)/\Below w.heap.size w w':=by
 by_cases hb:cs.length<=1048576
 ·exact U2 a cap cs w ⟨hb,hr⟩ hs
 ·exact Vi a cs.length cap (by omega) hm w
theorem Vl:ownKnob Tryz.prog.godebug=none:=by kernel_rfl
theorem Om:laidOutB Tryz.prog=true:=by kernel_rfl
set_option maxRecDepth 100000 in
theorem Q7 (os:Os) (started:os.Started) (H:Type) (enc:TypeId×Value->H) : ReturnsInHanded {} Tryz.checked os 5 .any (Rows.fnCostSpec.pre6 enc Tryz.prog Tryz.f5 Rows.fnCostRow.domain false) (Rows.fnCostSpec.post enc Tryz.prog Tryz.f5 false true false false):=by
 refine returnsInHanded_of_change (C:=Tryz.checked) Vl started (by kernel_rfl) Tryz.func5
  (ChangeSpec.witness6 (enc:=enc) (C:=Tryz.checked) false ⟨#[],#[.slice none 0 0],[]⟩ 8 (by kernel_rfl) (by kernel_rfl) (by kernel_rfl) (by kernel_rfl)) ?_
 intro W base args ds gs before hval0 hW hcnd _;have hval:∀(j:Nat) t v,Tryz.f5.params[j]?=some t->args[j]?=some v->Value.okWide Tryz.prog W .any base t v:=hval0
 have hW':=hW;obtain⟨p,q,hA0,hV,rfl,hfz,hnd⟩:=hW;have hA:DataW.TrodAll enc Tryz.prog W 0 (fun _=>true) true Tryz.f5.params.toList args.toList ds p:=hA0;rw[Tryz.params5] at hA hval;obtain⟨v0,vs0,d0,ds0,p0,q0,hargs,rfl,rfl,h0,r0⟩:=trodAll_cons hA;obtain⟨rfl,rfl,rfl⟩:=trodAll_nil r0;obtain rfl:args=#[v0]:=by cases args;simp_all
 obtain⟨rfl,rfl⟩:=trodVars_none hV;have k0:=h0;have lt0:∀x∈p0,x.block<W.heap.size:=by obtain⟨m,hm⟩:=k0;exact DataW.trod_lt m _ _ _ hm
 obtain⟨a,cs,cap,rfl,hsrc,hm,hr⟩:∃a cs cap,v0=.slice a (cs:List Int).length cap/\Ly W a cs/\cs.length<=9223372036854775807/\∀i,0<=cs.getD i 0/\cs.getD i 0<256:=by
  obtain⟨a0,l0,c0,rfl⟩:=okWide_slice Tryz.underlying22 (hval 0 22 v0 rfl rfl);obtain⟨fuel,hf⟩:=h0;have hf':DataW.trod enc Tryz.prog W 0 (fun _=>true) true fuel 22 [.slice a0 l0 c0]=some (d0,p0):=hf;exact WZ hf'
 clear hA0 hval0;refine(WG a cap cs W hsrc hm hr).mono fun e W' ⟨he,bel⟩=>?_
 subst he;exact⟨_,rfl,_,_,_,[],_,[],hW',trodAll_mk1 (shut_bool Tryz.underlying4 _),(trodAll_cons_mk (Below.trod Om (by kernel_rfl) (of_decide_eq_true (by kernel_rfl)) k0 bel lt0) trodAll_mk0),rfl,bel.frame _,fun h=>by cases h⟩
theorem fco_proved:Rows.FnCostSaid :=
 OpenClaim.holds_of_wide 5 Tryz.f5 rfl rfl rfl rfl rfl rfl rfl ⟨rfl,rfl,rfl,rfl,rfl⟩ rfl rfl rfl rfl rfl (by kernel_rfl) Tryz.func5 (by kernel_rfl)
  (of_decide_eq_true (by kernel_rfl)) (by unfold Func.isWrapper;first|(rw[if_pos (by decide +kernel)];kernel_rfl)|(rw[if_neg (by decide +kernel)];exact⟨rfl,rfl⟩))
  (fun os started H enc _=>Q7 os started H enc)
#print axioms fco_proved
end Go.Proofs.YtnmhkgmmpkjjeaaGreat
