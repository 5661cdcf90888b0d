import Derived.Test.YtnmhkgmmpkjjeaaGreatK17
import Derived.Test.YtnmhkgmmpkjjeaaGreatK16
import Derived.Test.YtnmhkgmmpkjjeaaGreatK18
namespace Go.Proofs.YtnmhkgmmpkjjeaaGreat
open Go.ChangeShapes Go.WideShapes Go.ChangeAt Go.RowKit
set_option linter.unusedVariables false
set_option linter.unusedSimpArgs false
set_option maxRecDepth 100000
structure Sa (e:A9):Prop where
 p:0<=e.page/\e.page<=4096
 c:0<=e.count/\e.count<=4096
 o:-2000000<=e.out/\e.out<=2000000
 r:0<=e.perm/\e.perm<=7
theorem Vv {all:List St} (hok:∀s∈all,EO s) (p:Int):0<=(BY all p).perm/\(BY all p).perm<=7:=by
 unfold BY;split
 ·rename_i s h;have:=hok s (List.mem_of_find?_eq_some h);exact⟨this.p0,this.p1⟩
 ·exact⟨by decide,by decide⟩
theorem Ra {all:List St} (hok:∀s∈all,EO s):∀k,∀e∈AZ all k,0<=e.perm/\e.perm<=7
 | 0=>by intro e he;simp[AZ] at he
 | k+1=>by
  intro e he;have hp:=Vv hok (k:Nat);have ih:=Ra hok k;unfold AZ CK at he;generalize BY all (k:Nat)=s at *;split at he
  ·split at he
   ·rename_i hj;rcases List.mem_or_eq_of_mem_set he with h|h
    ·exact ih e h
    ·subst h;have hm:CZ (AZ all k)∈AZ all k:=by
      unfold CZ AI;rw[List.getD_eq_getElem?_getD,List.getElem?_eq_getElem (by have:=hj.1;omega)];exact List.getElem_mem _
     have h5:=ih _ hm;exact h5
   ·rcases List.mem_append.1 he with h|h
    ·exact ih e h
    ·rw[List.mem_singleton.1 h];exact hp
  ·exact ih e he
theorem Y7 (ts:List Ap) (es:List Nat):(JU ts es).1.length<=4096/\∀e∈(JU ts es).1,Sa e:=by
 unfold JU;split
 ·exact⟨Nat.zero_le _,fun e he=>by simp at he⟩
 ·split
  ·exact⟨Nat.zero_le _,fun e he=>by simp at he⟩
  ·obtain⟨h1,h2⟩:=Mz (Gm ts es es.length) 4096 (Nat.le_refl _);have h3:=Ra (Gm ts es es.length) 4096;exact⟨h1,fun e he=>⟨⟨(h2 e he).1,(h2 e he).2.1⟩,⟨(h2 e he).2.2.1,(h2 e he).2.2.2.1⟩,⟨(h2 e he).2.2.2.2.1,(h2 e he).2.2.2.2.2⟩,h3 e he⟩⟩
theorem V5 (l:Ap):(GO l).1.length<=4096/\∀e∈(GO l).1,Sa e:=by
 unfold GO K6;split
 ·exact⟨Nat.zero_le _,fun e he=>by simp at he⟩
 ·split
  ·exact⟨Nat.zero_le _,fun e he=>by simp at he⟩
  ·split
   ·exact⟨Nat.zero_le _,fun e he=>by simp at he⟩
   ·exact Y7 _ _
end Go.Proofs.YtnmhkgmmpkjjeaaGreat
namespace Go.Proofs.YtnmhkgmmpkjjeaaGreat
open Go.ChangeShapes Go.WideShapes Go.ChangeAt Go.RowKit
set_option linter.unusedVariables false
set_option linter.unusedSimpArgs false
set_option maxRecDepth 100000
attribute [local go_sem ↓] Go.wp_at_zero Go.wp_at_succ
theorem XI {w:World} {b g c:Nat} {xs:List A9} (h:A6 A7 w b (.slice (some ⟨g,0,none⟩) xs.length c) xs) (k:Nat) (hk:k<xs.length):g<w.heap.size/\∀wX:World,wX.heap[g]?=w.heap[g]?->wX.cell? ⟨g,k*5,none⟩=some (.int .i64 (AI A7 xs k).page)/\wX.cell? ⟨g,k*5+1,none⟩=some (.int .i64 (AI A7 xs k).count):=by
 obtain⟨h1,h2⟩:=h.cellsA k hk;refine⟨h1,fun wX hX=>⟨?_,?_⟩⟩
 ·have:=h2 0 (by decide) wX hX;simpa [CO,A7] using this
 ·have:=h2 1 (by decide) wX hX;simpa [CO,A7] using this
theorem UR (cs:List Int) (p:Nat) (n:Int) (h0:0<=n) (h1:n<=4096) (hc:GQ cs) (hp:p<=1000000):0<=Az cs p n/\Az cs p n<=4096:=by
 by_cases h:n<1
 ·unfold Az;rw[if_pos (.inl h)];omega
 ·have:=Bz cs p n (by omega) hc hp;omega
set_option maxHeartbeats 8000000 in
theorem Us (a:Option Addr) (cap:Nat) (cs:List Int) (p:Nat) (w:World) (hc:GQ cs) (hp:p<=200000) (hs:Ly w a cs) (g1 c1 b1:Nat) (xs:List A9) (hl1:xs.length<=4096) (hk1:∀i,i<xs.length->Sa (AI A7 xs i)) (hx:A6 A7 w b1 (.slice (some ⟨g1,0,none⟩) xs.length c1) xs) (g2 c2 b2:Nat) (ys:List A9) (hl2:ys.length<=4096) (hk2:∀i,i<ys.length->Sa (AI A7 ys i)) (hy:A6 A7 w b2 (.slice (some ⟨g2,0,none⟩) ys.length c2) ys) : Calls Tryz.prog 136 #[.slice a cs.length cap,.int .i64 (p:Int),.slice (some ⟨g1,0,none⟩) xs.length c1,.slice (some ⟨g2,0,none⟩) ys.length c2] w fun e w'=>∃v,e=.returned v/\Below w.heap.size w w':=by
 obtain⟨i0,hi,hz0,hz1,hz2⟩:=info_parts Ny;have HX:Hid (∀k,k<xs.length->∃PG CT:Int,0<=PG/\PG<=4096/\0<=CT/\CT<=4096/\∀wX,Below w.heap.size w wX->wX.cell? ⟨g1,k*5,none⟩=some (.int .i64 PG)/\wX.cell? ⟨g1,k*5+1,none⟩=some (.int .i64 CT)):=A0 fun k hk=>by
  obtain⟨h1,h2⟩:=XI hx k hk;have h3:=hk1 k hk;exact⟨_,_,h3.p.1,h3.p.2,h3.c.1,h3.c.2,fun wX hX=>h2 wX (hX.block g1 h1)⟩
 have HY:Hid (∀k,k<ys.length->∃PG CT:Int,0<=PG/\PG<=4096/\0<=CT/\CT<=4096/\∀wX,Below w.heap.size w wX->wX.cell? ⟨g2,k*5,none⟩=some (.int .i64 PG)/\wX.cell? ⟨g2,k*5+1,none⟩=some (.int .i64 CT)):=A0 fun k hk=>by
  obtain⟨h1,h2⟩:=XI hy k hk;have h3:=hk2 k hk;exact⟨_,_,h3.p.1,h3.p.2,h3.c.1,h3.c.2,fun wX hX=>h2 wX (hX.block g2 h1)⟩
 have HTK:Hid (∀(P:Nat) (n:Int) wX,P<=1000000->n<=1000000->Below w.heap.size w wX->Calls Tryz.prog 64 #[.slice a cs.length cap,.int .i64 (P:Int),.int .i64 n] wX fun e w'=>e=.returned (.tuple #[.int .i64 (Az cs P n),.int .i64 ((P:Int)+1)])/\Below wX.heap.size wX w'):=A0 fun P n wX h1 h2 hX=>Dd a cap cs P n wX hc h1 h2 (hs.below hX)
 have HTB:Hid (∀(P:Nat) (n:Int),0<=n->n<=4096->P<=1000000->0<=Az cs P n/\Az cs P n<=4096):=A0 fun P n h0 h1 h2=>UR cs P n h0 h1 hc h2
 have HE0:Hid (A6 AW (w.alloc (.cells #[] 3)) w.heap.size (.slice (some ⟨w.heap.size,0,none⟩) 0 0) []):=A0 (A6.empty AW w w.heap.size (Nat.le_refl _));clear hx hy hk1 hk2 hs hc;go_enter Tryz.func136,Tryz.ntmps136
 go_wp2_with fail
 go_loopw [1,9,10,11] (fun pv vv xv iv wr=>∃(k P:Nat) (X:Int) (E:List Int) (ge ce:Nat),k<=xs.length/\pv=.int .i64 (P:Int)/\vv=.slice (some ⟨ge,0,none⟩) E.length ce/\xv=.int .i64 X/\iv=.int .i64 (k:Int)/\Hid (P<=p+k/\E.length<=2*k)/\Hid (A6 AW wr w.heap.size (.slice (some ⟨ge,0,none⟩) E.length ce) E)/\Below w.heap.size w wr) (fun _ _ _ iv _=>xs.length-(intOf iv).toNat)
 case atStart=>exact⟨0,p,0,[],w.heap.size,0,Nat.zero_le _,rfl,rfl,rfl,rfl,A0 ⟨Nat.le_refl _,Nat.le_refl _⟩,HE0,Ax⟩
 case round =>
  obtain⟨k,P,X,E,ge,ce,hk,rfl,rfl,rfl,rfl,HEL,HRE,hb⟩:=hrel;have HB:Hid (Below w.heap.size w wr):=hb;obtain⟨hPe,hEl⟩:=HEL.out;by_cases hlt:k<xs.length
  ·obtain⟨PG,CT,p0,p1,c0,c1',hcl⟩:=HX.out k hlt;have HCL:Hid _:=hcl;obtain⟨y0,y1⟩:=hcl wr hb;(have K1:(0:Int)<=(k:Int):=by omega);(have K2:(k:Int)<(xs.length:Int):=by omega);have t1:=A0 (HTK.out P CT wr (by omega) (by omega) hb);obtain⟨b0,b1'⟩:=HTB.out P CT c0 c1' (by omega);generalize Az cs P CT=TV at *;(have W1:IntKind.i64.wrap (PG+TV)=PG+TV:=by rw[IntKind.wrap_i64];omega);clear hb hcl;(go_wp2_with fail);refine t1.out.mono ?_;rintro e w1 ⟨rfl,hb1⟩;have hb2:Below w.heap.size w w1:=HB.out.trans (hb1.mono HB.out.size);have HRD:Hid (A6 AW (w1.alloc (.cells #[.int .i64 PG] 3)) w.heap.size (.slice (some ⟨ge,0,none⟩) E.length ce) E):=A0 ((HRE.out.below hb1).below Ax);have HBD:Hid (Below w.heap.size w (w1.alloc (.cells #[.int .i64 PG] 3))):=A0 (hb2.alloc hb2.size _);obtain⟨z0,z1⟩:=HCL.out w1 hb2;have s2:=hb2.size;clear t1 hb1 hb2 y0 y1 HRE HB;(go_wp2_with (at_builtin;refine wpList_append_lies _ rfl (.tmp 31) (.tmp 37) 91 rfl w.heap.size 3 i0 _ 1 8 Tryz.underlying91 hi hz0 hz1 hz2 rfl (by omega) _ _ _ rfl HRD.out ⟨_,0,none⟩ 1 1 [.int .i64 PG] rfl rfl ?c1 ?c2 (by omega) ?c3 ?c4 ?c5 _ rfl ?_));(case c1=>exact World.news_of_block (heap_alloc_new _ (.cells #[.int .i64 PG] 3)));(case c2=>intro u hu;simp at hu;rcases hu with rfl;rfl);(case c3=>unfold maxLen;omega);(case c4=>omega);(case c5=>first|omega|(simp;omega));intro g7 c7 w7 hown hgrow hat hlt3;obtain⟨hr7,hb7⟩:=Ej (E:=AW) (x:=PG) HBD.out HRD.out hown hgrow;obtain⟨u0,u1⟩:=HCL.out w7 hb7;have HRD2:Hid (A6 AW (w7.alloc (.cells #[.int .i64 (PG+TV)] 3)) w.heap.size (.slice (some ⟨g7,0,none⟩) (E++[PG]).length c7) (E++[PG])):=A0 (hr7.below Ax);have HBD2:Hid (Below w.heap.size w (w7.alloc (.cells #[.int .i64 (PG+TV)] 3))):=A0 (hb7.alloc hb7.size _);have s7:=hb7.size;(have hE1:(E++[PG]).length=E.length+1:=by simp);rw[hE1] at HRD2;clear hown hgrow hat hlt3 hr7 hb7 z0 z1;(go_wp2_with (at_builtin;refine wpList_append_lies _ rfl (.tmp 39) (.tmp 47) 91 rfl w.heap.size 3 i0 _ 1 8 Tryz.underlying91 hi hz0 hz1 hz2 rfl (by omega) _ _ _ rfl HRD2.out ⟨_,0,none⟩ 1 1 [.int .i64 (PG+TV)] rfl rfl ?c1 ?c2 (by omega) ?c3 ?c4 ?c5 _ rfl ?_));(case c1=>exact World.news_of_block (heap_alloc_new _ (.cells #[.int .i64 (PG+TV)] 3)));(case c2=>intro u hu;simp at hu;rcases hu with rfl;rfl);(case c3=>unfold maxLen;omega);(case c4=>omega);(case c5=>first|omega|(simp;omega));intro g8 c8 w8 hown hgrow hat hlt3;rw[<- hE1] at HRD2 hown hgrow;obtain⟨hr8,hb8⟩:=Ej (E:=AW) (x:=PG+TV) HBD2.out HRD2.out hown hgrow;have HR8:Hid _:=hr8;have HB8:Hid _:=hb8;(have hE2:((E++[PG])++[PG+TV]).length=E.length+1+1:=by simp);clear hown hgrow hat hlt3 hr8 hb8;(go_wp2_with fail);go_roundw;(case rel=>exact⟨k+1,P+1,TV,(E++[PG])++[PG+TV],g8,c8,by omega,by go_num,by rw[hE2],rfl,by go_num,A0 ⟨by omega,by omega⟩,HR8,HB8.out⟩);case measure=>first|(simp[intOf];done)|(simp[intOf];omega)
  have K2:¬(k:Int)<(xs.length:Int):=by omega
  have hP4:P<=p+4096:=by omega
  have hE4:E.length<=8192:=by omega
  clear HEL hPe hEl hlt hk hb;go_wp2_with fail
  go_loopw [1,9,10,12] (fun pv vv xv iv wr=>∃(k P:Nat) (X:Int) (E:List Int) (ge ce:Nat),k<=ys.length/\pv=.int .i64 (P:Int)/\vv=.slice (some ⟨ge,0,none⟩) E.length ce/\xv=.int .i64 X/\iv=.int .i64 (k:Int)/\Hid (P<=p+4096+k/\E.length<=8192+2*k)/\Hid (A6 AW wr w.heap.size (.slice (some ⟨ge,0,none⟩) E.length ce) E)/\Below w.heap.size w wr) (fun _ _ _ iv _=>ys.length-(intOf iv).toNat)
  case atStart=>exact⟨0,P,X,E,ge,ce,Nat.zero_le _,rfl,rfl,rfl,rfl,A0 ⟨hP4,hE4⟩,HRE,HB.out⟩
  case round =>
   clear HRE HB hP4 hE4 K2;obtain⟨m,Q,Y,F,gf,cf,hm,rfl,rfl,rfl,rfl,HEL,HRE,hb⟩:=hrel;have HB:Hid (Below _ _ _):=hb;obtain⟨hPe,hEl⟩:=HEL.out;by_cases hlt:m<ys.length
   ·obtain⟨PG,CT,p0,p1,c0,c1',hcl⟩:=HY.out m hlt;have HCL:Hid _:=hcl;obtain⟨y0,y1⟩:=hcl _ hb;(have K1:(0:Int)<=(m:Int):=by omega);(have K2:(m:Int)<(ys.length:Int):=by omega);have t1:=A0 (HTK.out Q CT _ (by omega) (by omega) hb);obtain⟨b0,b1'⟩:=HTB.out Q CT c0 c1' (by omega);generalize Az cs Q CT=TV at *;(have W1:IntKind.i64.wrap (PG+TV)=PG+TV:=by rw[IntKind.wrap_i64];omega);(have W2:IntKind.i64.wrap (PG+CT)=PG+CT:=by rw[IntKind.wrap_i64];omega);(have W3:IntKind.i64.wrap (PG+CT-1)=PG+CT-1:=by rw[IntKind.wrap_i64];omega);clear hb hcl;(go_wp2_with fail);refine t1.out.mono ?_;rintro e w1 ⟨rfl,hb1⟩;have hb2:Below w.heap.size w w1:=HB.out.trans (hb1.mono HB.out.size);(obtain⟨wD,hwD⟩:∃x,x=w1.drew:=⟨_,rfl⟩);(have hb2':Below w.heap.size w wD:=by rw[hwD];exact hb2.drew);(have hbD:Below w1.heap.size w1 wD:=by rw[hwD];exact(Below.refl _ _).drew);have HRD:Hid (A6 AW (wD.alloc (.cells #[.int .i64 (PG+CT-1)] 3)) w.heap.size (.slice (some ⟨gf,0,none⟩) F.length cf) F):=A0 (((HRE.out.below hb1).below hbD).below Ax);have HBD:Hid (Below w.heap.size w (wD.alloc (.cells #[.int .i64 (PG+CT-1)] 3))):=A0 (hb2'.alloc hb2'.size _);have HWD:Hid (wD=w1.drew):=hwD;obtain⟨z0,z1⟩:=HCL.out w1 hb2;obtain⟨v0,v1⟩:=HCL.out wD hb2';obtain⟨x0,x1⟩:=HCL.out _ HBD.out;have s2:=hb2'.size;clear t1 hb1 hb2 hb2' hbD hwD y0 y1 HRE HB;(go_upto_region 13 with fail);refine wp_region_held_drew (S:=fun wX=>wX.cell? ⟨g2,m*5,none⟩=some (.int .i64 PG)/\wX.cell? ⟨g2,m*5+1,none⟩=some (.int .i64 CT)) (by kernel_rfl) ⟨z0,z1⟩ (fun hHeld=>?_);rw[<- HWD.out] at hHeld ⊢;refine tk 0 ?_;refine tk 1 ?_;refine tk 2 ?_;refine tk 3 ?_;refine tk 4 ?_;refine tk 5 ?_;refine tk 6 ?_;refine tk 7 ?_;refine tk 8 ?_;refine tk 9 ?_;refine tk 10 ?_;refine tk 11 ?_;refine tk 12 ?_;refine wpAnyH_ready (rs:=[13]) (by kernel_rfl) (by simp) ?_;refine AllReadyH.cons rfl (fun K hK=>?_) AllReadyH.nil;go_simp;refine hK.out _ _ ⟨x0,x1⟩ (fun hHeld2=>?_);clear hK K;refine wpAnyH_ready (rs:=[14]) (by kernel_rfl) (by simp) ?_;refine AllReadyH.cons rfl (fun K hK=>?_) AllReadyH.nil;refine step_append_lies _ rfl (.tmp 66) (.tmp 79) 91 rfl w.heap.size 3 i0 _ 1 8 Tryz.underlying91 hi hz0 hz1 hz2 rfl (by omega) (.slice (some ⟨gf,0,none⟩) F.length cf) F.length _ rfl HRD.out ⟨wD.heap.size,0,none⟩ 1 1 [.int .i64 (PG+CT-1)] rfl rfl ?c1 ?c2 (by omega) ?c3 ?c4 ?c5 (wD.heap.size+1) ?c6 ?_;(case c1=>exact World.news_of_block (heap_alloc_new _ (.cells #[.int .i64 (PG+CT-1)] 3)));(case c2=>intro u hu;simp at hu;rcases hu with rfl;rfl);(case c3=>unfold maxLen;omega);(case c4=>omega);(case c5=>simp;omega);(case c6=>simp);intro g7 c7 w7 hown hgrow hat hlt3;obtain⟨hr7,hb7⟩:=Ej (E:=AW) (x:=PG+CT-1) HBD.out HRD.out hown hgrow;obtain⟨u0,u1⟩:=HCL.out w7 hb7;have HRD2:Hid (A6 AW (w7.alloc (.cells #[.int .i64 (PG+TV)] 3)) w.heap.size (.slice (some ⟨g7,0,none⟩) (F++[PG+CT-1]).length c7) (F++[PG+CT-1])):=A0 (hr7.below Ax);have HBD2:Hid (Below w.heap.size w (w7.alloc (.cells #[.int .i64 (PG+TV)] 3))):=A0 (hb7.alloc hb7.size _);have s7:=hb7.size;(have hE1:(F++[PG+CT-1]).length=F.length+1:=by simp);rw[hE1] at HRD2;clear hown hgrow hat hlt3 hr7 hb7;go_simp;refine hK.out _ _ ⟨u0,u1⟩ (fun hHeld3=>?_);clear hK K;refine tk 15 ?_;refine wpAnyH_done (by kernel_rfl) ?_ _;clear hHeld hHeld2 hHeld3 z0 z1 v0 v1 x0 x1;(go_wp2_with (at_builtin;refine wpList_append_lies _ rfl (.tmp 81) (.tmp 89) 91 rfl w.heap.size 3 i0 _ 1 8 Tryz.underlying91 hi hz0 hz1 hz2 rfl (by omega) _ _ _ rfl HRD2.out ⟨_,0,none⟩ 1 1 [.int .i64 (PG+TV)] rfl rfl ?c1 ?c2 (by omega) ?c3 ?c4 ?c5 _ rfl ?_));(case c1=>exact World.news_of_block (heap_alloc_new _ (.cells #[.int .i64 (PG+TV)] 3)));(case c2=>intro u hu;simp at hu;rcases hu with rfl;rfl);(case c3=>unfold maxLen;omega);(case c4=>omega);(case c5=>first|omega|(simp;omega));intro g8 c8 w8 hown hgrow hat hlt3;rw[<- hE1] at HRD2 hown hgrow;obtain⟨hr8,hb8⟩:=Ej (E:=AW) (x:=PG+TV) HBD2.out HRD2.out hown hgrow;have HR8:Hid _:=hr8;have HB8:Hid _:=hb8;(have hE2:((F++[PG+CT-1])++[PG+TV]).length=F.length+1+1:=by simp);clear hown hgrow hat hlt3 hr8 hb8;(go_wp2_with fail);go_roundw;(case rel=>exact⟨m+1,Q+1,TV,(F++[PG+CT-1])++[PG+TV],g8,c8,by omega,by go_num,by rw[hE2],rfl,by go_num,A0 ⟨by omega,by omega⟩,HR8,HB8.out⟩);case measure=>first|(simp[intOf];done)|(simp[intOf];omega)
   (have K2:¬(m:Int)<(ys.length:Int):=by omega);clear HEL hPe hEl hb;(go_wp2_with fail);go_ret;exact⟨⟨_,rfl⟩,HB.out⟩
end Go.Proofs.YtnmhkgmmpkjjeaaGreat
namespace Go.Proofs.YtnmhkgmmpkjjeaaGreat
open Go.ChangeShapes Go.WideShapes Go.ChangeAt Go.RowKit
set_option linter.unusedVariables false
set_option linter.unusedSimpArgs false
set_option maxRecDepth 100000
attribute [local go_sem ↓] Go.wp_at_zero Go.wp_at_succ
attribute [local go_sem] Cj Dv Dz FW Dw D0
def JO:Ap:=[103,117,97,114,100,32,52,48,48,48,32,57,54,59,32,35,32,116,104,101,32,108,97,115,116,32,112,97,103,101,115,10]
theorem RN:bs [103,117,97,114,100,32,52,48,48,48,32,57,54,59,32,35,32,116,104,101,32,108,97,115,116,32,112,97,103,101,115,10]=bs JO:=rfl
attribute [local go_sem] RN
def GG (cs:List Int) (p:Nat):Ap:=if (p+5*Cb cs)%3=0 then B8 (Aj cs p (Cb cs)).1++JO else B8 (Aj cs p (Cb cs)).1
theorem Yd (cs:List Int) (p:Nat) (hc:GQ cs) (hp:p<=90000):(Aj cs p (Cb cs)).1.length<=8/\∀j,j<(Aj cs p (Cb cs)).1.length->AB 30000 (AI AH (Aj cs p (Cb cs)).1 j):=by
 obtain⟨b0,b1⟩:=Fg cs;obtain⟨h1,h2,h3⟩:=Kh cs p hc hp (Cb cs) b1;exact⟨by omega,fun j hj=>(h3 j (by omega)).mono (by omega)⟩
theorem ME (cs:List Int) (p:Nat) (hc:GQ cs) (hp:p<=90000):(B8 (Aj cs p (Cb cs)).1).length<=900000/\(GG cs p).length<=1000000:=by
 obtain⟨h1,h2⟩:=Yd cs p hc hp;have h3:=In _ (IQ (Aj cs p (Cb cs)).1 (Aj cs p (Cb cs)).1.length) h2 _ (Nat.le_refl _);have h4:(B8 (Aj cs p (Cb cs)).1).length<=900000:=by unfold B8;omega
 refine⟨h4,?_⟩;unfold GG;split
 ·rw[List.length_append];have:JO.length=32:=rfl;omega
 ·omega
set_option maxHeartbeats 2000000 in
theorem Nl (a:Option Addr) (cap:Nat) (cs:List Int) (p:Nat) (w:World) (hc:GQ cs) (hp:p<=90000) (hs:Ly w a cs) : Calls Tryz.prog 93 #[.slice a cs.length cap,.int .i64 (p:Int),.int .i64 0] w fun e w'=>e=.returned (.tuple #[.string (bs (GG cs p)),.int .i64 ((p+5*Cb cs:Nat):Int)])/\Below w.heap.size w w':=by
 have t1:=Lm a cap cs p w hc hp hs;obtain⟨h1,h2⟩:=Yd cs p hc hp;have HD:Hid (GG cs p=if (p+5*Cb cs)%3=0 then B8 (Aj cs p (Cb cs)).1++JO else B8 (Aj cs p (Cb cs)).1):=A0 rfl;have HT:Hid (∀g c wX,A6 AH wX w.heap.size (.slice (some ⟨g,0,none⟩) (Aj cs p (Cb cs)).1.length c) (Aj cs p (Cb cs)).1->Calls Tryz.prog 161 #[.slice (some ⟨g,0,none⟩) (Aj cs p (Cb cs)).1.length c] wX fun e w'=>e=.returned (.string (bs (B8 (Aj cs p (Cb cs)).1)))/\Below wX.heap.size wX w'):=A0 fun g c wX h=>Hk g c w.heap.size _ wX h1 h2 h
 have hlen:=(ME cs p hc hp).1;obtain⟨b0,b1⟩:=Fg cs;have hlg:JO.length=32:=rfl;generalize GG cs p=R at *;generalize B8 (Aj cs p (Cb cs)).1=T at *;generalize (Aj cs p (Cb cs)).1=l at *;clear hc hs h2;obtain⟨q,hq⟩:∃q,p+5*Cb cs=q:=⟨_,rfl⟩
 have hq1:q<=100000:=by omega
 rw[hq] at t1 HD ⊢;clear hq;obtain⟨q3,hq3⟩:∃q3:Int,(q:Int)%3=q3:=⟨_,rfl⟩
 have eq3:(q:Int).tmod 3=q3:=by rw[Int.tmod_eq_emod_of_nonneg (by omega)];exact hq3
 go_enter Tryz.func93,Tryz.ntmps93
 go_wp2_with fail
 refine t1.mono ?_;rintro e w1 ⟨g,c,rfl,hr,hb1⟩;have t2:=HT.out g c w1 hr;have HB1:Hid (Below w.heap.size w w1):=hb1;clear t1 hr hb1 HT;go_wp2_with fail
 refine t2.mono ?_;rintro e w2 ⟨rfl,hb2⟩;have HB2:Hid (Below w.heap.size w w2):=A0 (HB1.out.trans (hb2.mono HB1.out.size));clear t2 hb2;by_cases h3:q3=0
 ·have h3b:(q3==0)=true:=by simpa using h3
  have HR:Hid (R=T++JO):=A0 (by rw[HD.out,if_pos (by omega)]);clear hq3 h3;go_wp2_with fail
  exact bodyPost_ret (v:=.tuple #[.string (bs (T++JO)),.int .i64 (q:Int)]) (by simp[results,Tryz.results93,go_sem]) rfl ⟨by rw[HR.out],HB2.out⟩
 ·have h3b:(q3==0)=false:=by simpa using h3
  have HR:Hid (R=T):=A0 (by rw[HD.out,if_neg (by omega)]);clear hq3 h3;go_wp2_with fail
  exact bodyPost_ret (v:=.tuple #[.string (bs T),.int .i64 (q:Int)]) (by simp[results,Tryz.results93,go_sem]) rfl ⟨by rw[HR.out],HB2.out⟩
end Go.Proofs.YtnmhkgmmpkjjeaaGreat
namespace Go.Proofs.YtnmhkgmmpkjjeaaGreat
open Go.ChangeShapes Go.WideShapes Go.ChangeAt Go.RowKit
set_option linter.unusedVariables false
set_option linter.unusedSimpArgs false
set_option maxRecDepth 100000
attribute [local go_sem ↓] Go.wp_at_zero Go.wp_at_succ
attribute [local go_sem] Cj Dv Dz FW Dw D0
attribute [local go_sem] RN
def EK (cs:List Int) (p:Nat):Ap:=if (p+5*Cb cs)%3=0 then B8 (AV cs p (Cb cs)).1++JO else B8 (AV cs p (Cb cs)).1
theorem Wx (cs:List Int) (p:Nat) (hc:GQ cs) (hp:p<=90000):(AV cs p (Cb cs)).1.length<=8/\∀j,j<(AV cs p (Cb cs)).1.length->AB 30000 (AI AH (AV cs p (Cb cs)).1 j):=by
 obtain⟨b0,b1⟩:=Fg cs;obtain⟨h1,h2,h3⟩:=JN cs p hc hp (Cb cs) b1;exact⟨by omega,fun j hj=>(h3 j (by omega)).mono (by omega)⟩
theorem KR (cs:List Int) (p:Nat) (hc:GQ cs) (hp:p<=90000):(B8 (AV cs p (Cb cs)).1).length<=900000/\(EK cs p).length<=1000000:=by
 obtain⟨h1,h2⟩:=Wx cs p hc hp;have h3:=In _ (IQ (AV cs p (Cb cs)).1 (AV cs p (Cb cs)).1.length) h2 _ (Nat.le_refl _);have h4:(B8 (AV cs p (Cb cs)).1).length<=900000:=by unfold B8;omega
 refine⟨h4,?_⟩;unfold EK;split
 ·rw[List.length_append];have:JO.length=32:=rfl;omega
 ·omega
set_option maxHeartbeats 2000000 in
theorem Ld (a:Option Addr) (cap:Nat) (cs:List Int) (p:Nat) (w:World) (hc:GQ cs) (hp:p<=90000) (hs:Ly w a cs) : Calls Tryz.prog 93 #[.slice a cs.length cap,.int .i64 (p:Int),.int .i64 1] w fun e w'=>e=.returned (.tuple #[.string (bs (EK cs p)),.int .i64 ((p+5*Cb cs:Nat):Int)])/\Below w.heap.size w w':=by
 have t1:=LY a cap cs p w hc hp hs;obtain⟨h1,h2⟩:=Wx cs p hc hp;have HD:Hid (EK cs p=if (p+5*Cb cs)%3=0 then B8 (AV cs p (Cb cs)).1++JO else B8 (AV cs p (Cb cs)).1):=A0 rfl;have HT:Hid (∀g c wX,A6 AH wX w.heap.size (.slice (some ⟨g,0,none⟩) (AV cs p (Cb cs)).1.length c) (AV cs p (Cb cs)).1->Calls Tryz.prog 161 #[.slice (some ⟨g,0,none⟩) (AV cs p (Cb cs)).1.length c] wX fun e w'=>e=.returned (.string (bs (B8 (AV cs p (Cb cs)).1)))/\Below wX.heap.size wX w'):=A0 fun g c wX h=>Hk g c w.heap.size _ wX h1 h2 h
 have hlen:=(KR cs p hc hp).1;obtain⟨b0,b1⟩:=Fg cs;have hlg:JO.length=32:=rfl;generalize EK cs p=R at *;generalize B8 (AV cs p (Cb cs)).1=T at *;generalize (AV cs p (Cb cs)).1=l at *;clear hc hs h2;obtain⟨q,hq⟩:∃q,p+5*Cb cs=q:=⟨_,rfl⟩
 have hq1:q<=100000:=by omega
 rw[hq] at t1 HD ⊢;clear hq;obtain⟨q3,hq3⟩:∃q3:Int,(q:Int)%3=q3:=⟨_,rfl⟩
 have eq3:(q:Int).tmod 3=q3:=by rw[Int.tmod_eq_emod_of_nonneg (by omega)];exact hq3
 go_enter Tryz.func93,Tryz.ntmps93
 go_wp2_with fail
 refine t1.mono ?_;rintro e w1 ⟨g,c,rfl,hr,hb1⟩;have t2:=HT.out g c w1 hr;have HB1:Hid (Below w.heap.size w w1):=hb1;clear t1 hr hb1 HT;go_wp2_with fail
 refine t2.mono ?_;rintro e w2 ⟨rfl,hb2⟩;have HB2:Hid (Below w.heap.size w w2):=A0 (HB1.out.trans (hb2.mono HB1.out.size));clear t2 hb2;by_cases h3:q3=0
 ·have h3b:(q3==0)=true:=by simpa using h3
  have HR:Hid (R=T++JO):=A0 (by rw[HD.out,if_pos (by omega)]);clear hq3 h3;go_wp2_with fail
  exact bodyPost_ret (v:=.tuple #[.string (bs (T++JO)),.int .i64 (q:Int)]) (by simp[results,Tryz.results93,go_sem]) rfl ⟨by rw[HR.out],HB2.out⟩
 ·have h3b:(q3==0)=false:=by simpa using h3
  have HR:Hid (R=T):=A0 (by rw[HD.out,if_neg (by omega)]);clear hq3 h3;go_wp2_with fail
  exact bodyPost_ret (v:=.tuple #[.string (bs T),.int .i64 (q:Int)]) (by simp[results,Tryz.results93,go_sem]) rfl ⟨by rw[HR.out],HB2.out⟩
end Go.Proofs.YtnmhkgmmpkjjeaaGreat
namespace Go.Proofs.YtnmhkgmmpkjjeaaGreat
open Go.ChangeShapes Go.WideShapes Go.ChangeAt Go.RowKit
set_option linter.unusedVariables false
set_option linter.unusedSimpArgs false
set_option maxRecDepth 100000
attribute [local go_sem ↓] Go.wp_at_zero Go.wp_at_succ
attribute [local go_sem] Cj Dv Dz FW Dw D0
def Bw (cs:List Int) (p:Nat):List A9:=(GO (GG cs p)).1
theorem JR (cs:List Int) (p:Nat):(Bw cs p).length<=4096/\∀i,i<(Bw cs p).length->Sa (AI A7 (Bw cs p) i):=by
 obtain⟨h1,h2⟩:=V5 (GG cs p);refine⟨h1,fun i hi=>h2 _ ?_⟩;unfold AI;unfold Bw at hi ⊢;rw[List.getD_eq_getElem?_getD,List.getElem?_eq_getElem hi];exact List.getElem_mem _
def GX (w:World) (l:List A9) (q:Nat) (e:Ending) (w':World):Prop :=
 ∃g c,e=.returned (.tuple #[.slice (some ⟨g,0,none⟩) l.length c,.int .i64 (q:Int)])/\A6 A7 w' w.heap.size (.slice (some ⟨g,0,none⟩) l.length c) l/\Below w.heap.size w w'
set_option maxHeartbeats 2000000 in
theorem FI (a:Option Addr) (cap:Nat) (cs:List Int) (p:Nat) (w:World) (hc:GQ cs) (hp:p<=90000) (hs:Ly w a cs) : Calls Tryz.prog 66 #[.slice a cs.length cap,.int .i64 (p:Int),.int .i64 0] w fun e w'=>GX w (Bw cs p) (p+5*Cb cs) e w':=by
 have t1:=Nl a cap cs p w hc hp hs;have hlen:=(ME cs p hc hp).2;have HT:Hid (∀wX,Calls Tryz.prog 11 #[.string (bs (GG cs p))] wX fun e w'=>H7 wX (GO (GG cs p)) e w'):=A0 fun wX=>IZ _ wX (by omega)
 have HS:Hid (Bw cs p=(GO (GG cs p)).1):=A0 rfl;generalize Bw cs p=L at *;generalize GO (GG cs p)=R at *;generalize GG cs p=T at *;generalize p+5*Cb cs=q at *;obtain⟨R1,R2,R3⟩:=R;obtain rfl:L=R1:=HS.out;clear hc hs HS;go_enter Tryz.func66,Tryz.ntmps66
 go_wp2_with fail
 refine t1.mono ?_;rintro e w1 ⟨rfl,hb1⟩;have t2:=HT.out w1;have HB1:Hid (Below w.heap.size w w1):=hb1;clear t1 hb1 HT;go_wp2_with fail
 refine t2.mono ?_;rintro e w2 ⟨g,c1,rfl,hr,hb2⟩;have HR:Hid (A6 A7 w2 w.heap.size (.slice (some ⟨g,0,none⟩) L.length c1) L):=A0 (hr.rebase HB1.out.size);have HB2:Hid (Below w.heap.size w w2):=A0 (HB1.out.trans (hb2.mono HB1.out.size));clear t2 hb2 hr;go_wp2_with fail
 refine bodyPost_ret (v:=.tuple #[.slice (some ⟨g,0,none⟩) L.length c1,.int .i64 (q:Int)]) (by simp[results,Tryz.results66,go_sem]) rfl ⟨g,c1,rfl,HR.out.below ?_,HB2.out.trans (Below.mono ?_ HB2.out.size)⟩
 ·exact Ax
 ·exact Ax
end Go.Proofs.YtnmhkgmmpkjjeaaGreat
