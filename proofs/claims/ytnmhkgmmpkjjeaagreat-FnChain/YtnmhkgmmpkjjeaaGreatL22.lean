import Derived.Test.YtnmhkgmmpkjjeaaGreatL19
namespace Go.Proofs.YtnmhkgmmpkjjeaaGreat
open Go.ChangeShapes Go.WideShapes Go.ChangeAt Go.RowKit
set_option linter.unusedVariables false
set_option maxRecDepth 100000
attribute [local go_sem ↓] Go.wp_at_zero Go.wp_at_succ
theorem Gb {ps:List P3} {k:Nat} (hk:k<ps.length):Ag ps k∈ps:=by
 unfold Ag;rw[List.getD_eq_getElem?_getD,List.getElem?_eq_getElem hk];exact List.getElem_mem hk
theorem Qd {ps:List P3} {q:P3} (h:q∈ps):∃k,k<ps.length/\Ag ps k=q:=by
 obtain⟨k,hk,e⟩:=List.getElem_of_mem h;refine⟨k,hk,?_⟩;unfold Ag;rw[List.getD_eq_getElem?_getD,List.getElem?_eq_getElem hk];exact e
theorem PL {ps:List P3} {lv pg:Int} {k:Nat} (hk:k<ps.length) (h:∀j,j<k->As lv pg (Ag ps j)=false) (h2:As lv pg (Ag ps k)=true):AH ps lv pg=(Ag ps k).fr:=by
 induction ps generalizing k with
 | nil=>simp at hk
 | cons p r ih =>
  cases k with
  | zero =>
   have h2':As lv pg p=true:=h2;unfold AH;rw[List.find?_cons_of_pos h2'];rfl
  | succ k =>
   have h0:As lv pg p=false:=h 0 (by omega);have:=ih (k:=k) (by simpa using hk) (fun j hj=>h (j+1) (by omega)) h2;unfold AH at this ⊢;rw[List.find?_cons_of_neg (by rw[h0];decide)];exact this
theorem RO {ps:List P3} {lv pg:Int} (h:∀j,j<ps.length->As lv pg (Ag ps j)=false):AH ps lv pg=-1:=GO (fun q hq hh=>by
 obtain⟨k,hk,e⟩:=Qd hq;have:=h k hk;unfold As at this;rw[e,decide_eq_true hh] at this
 cases this)
theorem TG {ps:List P3} {f:Int} {k:Nat} (hk:k<ps.length) (h:(Ag ps k).fr=f):Aw ps f=true:=FM.2 ⟨_,Gb hk,h⟩
theorem Si {ps:List P3} {f:Int} (h:∀j,j<ps.length->decide ((Ag ps j).fr=f)=false):Aw ps f=false:=by
 cases hc:Aw ps f
 ·rfl
 ·obtain⟨q,hq,e⟩:=FM.1 hc;obtain⟨k,hk,e2⟩:=Qd hq;have:=h k hk;rw[e2,decide_eq_true e] at this;cases this
theorem Lf (a:Option Addr) (c b:Nat) (ps:List P3) (f:Int) (w:World) (hle:ps.length<=4000) (hr:Ab w b (.slice a ps.length c) ps) : Calls Tryz.prog 82 #[.slice a ps.length c,.int .i64 f] w fun e w'=>e=.returned (.bool (Aw ps f))/\w'=w:=by
 obtain⟨gp,hp1,hp2⟩:=Ef hr;have HP1:Hid _:=hp1;have HP2:Hid _:=hp2;clear hr hp1 hp2;go_enter Tryz.func82,Tryz.ntmps82
 go_wp2_with fail
 go_loopw [5] (fun i wr=>∃k:Nat,k<=ps.length/\i=.int .i64 k/\Hid (∀j,j<k->decide ((Ag ps j).fr=f)=false)/\wr=w) (fun i _=>ps.length-(intOf i).toNat)
 case atStart=>exact⟨0,Nat.zero_le _,rfl,fun j hj=>absurd hj (by omega),rfl⟩
 case round =>
  obtain⟨k,hk,rfl,hall,rfl⟩:=hrel;by_cases hlt:k<ps.length
  ·(obtain⟨E,hE⟩:∃E,Ag ps k=E:=⟨_,rfl⟩);obtain⟨F,L,P⟩:=E;obtain⟨rfl,hgl⟩:=HP1.out (by omega);obtain⟨c0,c1,c2⟩:=HP2.out k F L P hlt hE _ (Below.refl _ _);have HE:Hid (Ag ps k=_):=hE;(have L1:(0:Int)<=(k:Int):=by omega);(have L2:(k:Int)<(ps.length:Int):=by omega);clear hE;by_cases hf:F=f
   ·(have d:(F==f)=true:=by simpa using hf);have HR:Hid (Aw ps f=true):=TG hlt (by rw[HE.out];exact hf);clear hf;(go_wp2_with fail);go_ret;exact⟨by rw[HR.out];rfl,rfl⟩
   ·(have d:(F==f)=false:=by simpa using hf);(have HN:Hid (decide ((Ag ps k).fr=f)=false):=by rw[HE.out];exact decide_eq_false hf);clear hf;(go_wp2_with fail);go_roundw;case rel =>
     refine⟨k+1,by omega,by go_num,fun j hj=>?_,by first|rfl|trivial⟩;by_cases e:j=k
     ·rw[e];exact HN.out
     ·exact hall.out j (by omega)
    case measure=>simp[intOf];omega
  ·have HR:Hid (Aw ps f=false):=Si (fun j hj=>hall.out j (by omega));(go_wp2_with fail);go_ret;exact⟨by rw[HR.out];rfl,rfl⟩
set_option maxHeartbeats 1000000 in
theorem E7 (a:Option Addr) (c b:Nat) (ps:List P3) (lv pg:Int) (w:World) (hle:ps.length<=4000) (hr:Ab w b (.slice a ps.length c) ps) : Calls Tryz.prog 74 #[.slice a ps.length c,.int .i64 lv,.int .i64 pg] w fun e w'=>e=.returned (.int .i64 (AH ps lv pg))/\w'=w:=by
 obtain⟨gp,hp1,hp2⟩:=Ef hr;have HP1:Hid _:=hp1;have HP2:Hid _:=hp2;clear hr hp1 hp2;go_enter Tryz.func74,Tryz.ntmps74
 go_wp2_with fail
 go_loopw [7] (fun i wr=>∃k:Nat,k<=ps.length/\i=.int .i64 k/\Hid (∀j,j<k->As lv pg (Ag ps j)=false)/\wr=w) (fun i _=>ps.length-(intOf i).toNat)
 case atStart=>exact⟨0,Nat.zero_le _,rfl,fun j hj=>absurd hj (by omega),rfl⟩
 case round =>
  obtain⟨k,hk,rfl,hall,rfl⟩:=hrel;by_cases hlt:k<ps.length
  ·(obtain⟨E,hE⟩:∃E,Ag ps k=E:=⟨_,rfl⟩);obtain⟨F,L,P⟩:=E;obtain⟨rfl,hgl⟩:=HP1.out (by omega);obtain⟨c0,c1,c2⟩:=HP2.out k F L P hlt hE _ (Below.refl _ _);have HE:Hid (Ag ps k=_):=hE;(have L1:(0:Int)<=(k:Int):=by omega);(have L2:(k:Int)<(ps.length:Int):=by omega);clear hE;by_cases hf:L=lv
   ·(have d:(L==lv)=true:=by simpa using hf);by_cases hg:P=pg
    ·(have d2:(P==pg)=true:=by simpa using hg);have HR:Hid (AH ps lv pg=F):=A3 <| by
      rw[PL hlt hall.out (by rw[HE.out];exact decide_eq_true ⟨hf,hg⟩),HE.out]
     clear hf hg;(go_wp2_with fail);go_ret;exact⟨by rw[HR.out];rfl,rfl⟩
    ·(have d2:(P==pg)=false:=by simpa using hg);(have HN:Hid (As lv pg (Ag ps k)=false):=A3 <| by rw[HE.out];exact decide_eq_false (fun h=>hg h.2));clear hf hg;(go_wp2_with fail);go_roundw;case rel =>
      refine⟨k+1,by omega,by go_num,fun j hj=>?_,by first|rfl|trivial⟩;by_cases e:j=k
      ·rw[e];exact HN.out
      ·exact hall.out j (by omega)
     case measure=>simp[intOf];omega
   ·(have d:(L==lv)=false:=by simpa using hf);(have HN:Hid (As lv pg (Ag ps k)=false):=A3 <| by rw[HE.out];exact decide_eq_false (fun h=>hf h.1));clear hf;(go_wp2_with fail);go_roundw;case rel =>
     refine⟨k+1,by omega,by go_num,fun j hj=>?_,by first|rfl|trivial⟩;by_cases e:j=k
     ·rw[e];exact HN.out
     ·exact hall.out j (by omega)
    case measure=>simp[intOf];omega
  ·have HR:Hid (AH ps lv pg=-1):=RO (fun j hj=>hall.out j (by omega));(go_wp2_with fail);go_ret;exact⟨by rw[HR.out];rfl,rfl⟩
theorem MY (a:Option Addr) (c b:Nat) (ps:List P3) (w:World) (hle:ps.length<=4000) (hr:Ab w b (.slice a ps.length c) ps) : Calls Tryz.prog 75 #[.slice a ps.length c] w fun e w'=>e=.returned (.int .i64 (Ew ps:Nat))/\w'=w:=by
 have hh:=fun f=>Lf a c b ps f w hle hr
 have HH:Hid _:=hh;clear hr hh;go_enter Tryz.func75,Tryz.ntmps75
 go_wp2_with fail
 go_loopw [3] (fun i wr=>∃k:Nat,i=.int .i64 k/\Hid (∀g:Nat,g<k->Aw ps g=true)/\wr=w) (fun i _=>ps.length-(intOf i).toNat)
 case atStart=>exact⟨0,rfl,fun j hj=>absurd hj (by omega),rfl⟩
 case round =>
  obtain⟨k,rfl,hall,rfl⟩:=hrel;have hkl:=Jx hall.out;have hc:=HH.out k;cases hk:Aw ps k
  ·rw[hk] at hc;have HL:Hid (Ew ps=k):=QC hall.out hk;clear hk;(go_wp2_with (go_at_call 82;refine hc.mono ?_;rintro e w1 ⟨rfl,hw1⟩;obtain rfl:=hw1.symm));go_ret;exact⟨by rw[HL.out];rfl,rfl⟩
  ·rw[hk] at hc;have HK:Hid (Aw ps k=true):=hk
   have hkl2:k+1<=ps.length:=Jx (fun g hg=>by
    by_cases e:g=k
    ·rw[e];exact hk
    ·exact hall.out g (by omega))
   clear hk;(go_wp2_with (go_at_call 82;refine hc.mono ?_;rintro e w1 ⟨rfl,hw1⟩;obtain rfl:=hw1.symm));go_roundw;case rel =>
    refine⟨k+1,by go_num,fun g hg=>?_,by first|rfl|trivial⟩;by_cases e:g=k
    ·rw[e];exact HK.out
    ·exact hall.out g (by omega)
   case measure=>simp[intOf];omega
set_option maxHeartbeats 1000000 in
theorem Rk (g c b:Nat) (Hs:List Ht) (a:Option Addr) (cp bp:Nat) (ps:List P3) (p:Nat) (w:World) (hl:Hs.length=4096) (hp:p<4096) (h:A6 Db w b (.slice (some ⟨g,0,none⟩) Hs.length c) Hs) (hle:ps.length<=4000) (hr:Ab w bp (.slice a ps.length cp) ps) : Calls Tryz.prog 77 #[.slice (some ⟨g,0,none⟩) 4096 c,.slice a ps.length cp,.int .i64 1,.int .i64 p] w fun e w'=>e=.returned (.int .u64 (Bv (hF Hs) ps 1 p))/\Below w.heap.size w w':=by
 obtain⟨hgl,c0,c1,c2,c3⟩:=Ex h p (by omega);obtain⟨E,hE⟩:∃E,hF Hs p=E:=⟨_,rfl⟩
 have hE':AI Db Hs p=E:=hE;rw[hE'] at c0 c1 c2 c3;obtain⟨A,B,C,D⟩:=E;dsimp only at c0 c1 c2 c3;have hT:((p:Nat):Int).toNat=p:=rfl;have L1:(0:Int)<=(p:Int):=by omega
 have L2:(p:Int)<4096:=by omega
 have HFR:Hid (∀wX,Below w.heap.size w wX->Calls Tryz.prog 74 #[.slice a ps.length cp,.int .i64 2,.int .i64 p] wX fun e w'=>e=.returned (.int .i64 (AH ps 2 p))/\w'=wX):=fun wX hX=>E7 a cp bp ps 2 p wX hle (hr.below hX)
 have HV0:Hid (Bv (hF Hs) ps 1 p=if AH ps 2 p<0 then 0 else BZ 1 1 (AH ps 2 p) 0):=A3 <| by unfold Bv;rw[if_neg (by decide),if_neg (fun h=>absurd h.1 (by decide))];rfl
 generalize AH ps 2 p=F at HV0 HFR;clear hE hE' h hr hT;have hfr:=HFR.out (w.alloc (.cells #[.int .i64 A,.int .i64 B,.int .i64 C,.int .i64 D] 56)) ((Below.refl _ _).alloc (Nat.le_refl _) _);by_cases hF0:F<0
 ·have dF:decide (F<0)=true:=decide_eq_true hF0;have HV:Hid (Bv (hF Hs) ps 1 p=0):=A3 <| by rw[HV0.out,if_pos hF0]
  clear hF0 HV0;go_enter Tryz.func77,Tryz.ntmps77
  go_wp2_with (go_at_call 74;refine hfr.mono ?_;rintro e w1 ⟨rfl,hw1⟩;subst hw1)
  go_ret;refine⟨by rw[HV.out];rfl,?_⟩;exact(Below.refl _ _).alloc (Nat.le_refl _) _
 ·have dF:decide (F<0)=false:=decide_eq_false hF0;have HV:Hid (Bv (hF Hs) ps 1 p=BZ 1 1 F 0):=A3 <| by rw[HV0.out,if_neg hF0]
  have he:=DW 1 1 F 0;generalize BZ 1 1 F 0=X at HV he;clear hF0 HV0;go_enter Tryz.func77,Tryz.ntmps77
  go_wp2_with (first|(go_at_call 74;refine hfr.mono ?_;rintro e w1 ⟨rfl,hw1⟩;subst hw1)|(go_at_call 139;refine(he _).mono ?_;rintro e w2 ⟨rfl,hb2⟩))
  go_ret;refine⟨by rw[HV.out];rfl,?_⟩;exact((Below.refl _ _).alloc (Nat.le_refl _) _).trans (hb2.mono (by simp))
set_option maxHeartbeats 1000000 in
theorem S5 (g c b:Nat) (Hs:List Ht) (a:Option Addr) (cp bp:Nat) (ps:List P3) (p:Nat) (w:World) (hl:Hs.length=4096) (hp:p<4096) (h:A6 Db w b (.slice (some ⟨g,0,none⟩) Hs.length c) Hs) (hle:ps.length<=4000) (hr:Ab w bp (.slice a ps.length cp) ps) : Calls Tryz.prog 77 #[.slice (some ⟨g,0,none⟩) 4096 c,.slice a ps.length cp,.int .i64 2,.int .i64 p] w fun e w'=>e=.returned (.int .u64 (Bv (hF Hs) ps 2 p))/\Below w.heap.size w w':=by
 obtain⟨hgl,c0,c1,c2,c3⟩:=Ex h p (by omega);obtain⟨E,hE⟩:∃E,hF Hs p=E:=⟨_,rfl⟩
 have hE':AI Db Hs p=E:=hE;rw[hE'] at c0 c1 c2 c3;obtain⟨A,B,C,D⟩:=E;dsimp only at c0 c1 c2 c3;have hT:((p:Nat):Int).toNat=p:=rfl;have L1:(0:Int)<=(p:Int):=by omega
 have L2:(p:Int)<4096:=by omega
 have HFR:Hid (∀wX,Below w.heap.size w wX->Calls Tryz.prog 74 #[.slice a ps.length cp,.int .i64 3,.int .i64 p] wX fun e w'=>e=.returned (.int .i64 (AH ps 3 p))/\w'=wX):=fun wX hX=>E7 a cp bp ps 3 p wX hle (hr.below hX)
 by_cases hD:D=16
 ·subst hD;have HV:Hid (Bv (hF Hs) ps 2 p=BZ 2 2 B C):=A3 <| by unfold Bv;rw[if_neg (by decide),hT,hE,if_pos ⟨rfl,rfl⟩]
  have he:=DW 2 2 B C;generalize BZ 2 2 B C=X at HV he;clear hE hE' h hr HFR hT;go_enter Tryz.func77,Tryz.ntmps77
  go_wp2_with (go_at_call 139;refine(he _).mono ?_;rintro e w1 ⟨rfl,hb1⟩)
  go_ret;refine⟨by rw[HV.out];rfl,?_⟩;exact((Below.refl _ _).alloc (Nat.le_refl _) _).trans (hb1.mono (by simp))
 ·have dD:(D==16)=false:=by simpa using hD
  have HV0:Hid (Bv (hF Hs) ps 2 p=if AH ps 3 p<0 then 0 else BZ 2 1 (AH ps 3 p) 0):=A3 <| by unfold Bv;rw[if_neg (by decide),hT,hE,if_neg (fun h=>hD h.2)];rfl
  clear hD;generalize AH ps 3 p=F at HV0 HFR;clear hE hE' h hr hT;have hfr:=HFR.out (w.alloc (.cells #[.int .i64 A,.int .i64 B,.int .i64 C,.int .i64 D] 56)) ((Below.refl _ _).alloc (Nat.le_refl _) _);by_cases hF0:F<0
  ·have dF:decide (F<0)=true:=decide_eq_true hF0;(have HV:Hid (Bv (hF Hs) ps 2 p=0):=A3 <| by rw[HV0.out,if_pos hF0]);clear hF0 HV0;(go_enter Tryz.func77,Tryz.ntmps77);(go_wp2_with (go_at_call 74;refine hfr.mono ?_;rintro e w1 ⟨rfl,hw1⟩;subst hw1));go_ret;refine⟨by rw[HV.out];rfl,?_⟩;exact(Below.refl _ _).alloc (Nat.le_refl _) _
  ·have dF:decide (F<0)=false:=decide_eq_false hF0;(have HV:Hid (Bv (hF Hs) ps 2 p=BZ 2 1 F 0):=A3 <| by rw[HV0.out,if_neg hF0]);have he:=DW 2 1 F 0;generalize BZ 2 1 F 0=X at HV he;clear hF0 HV0;(go_enter Tryz.func77,Tryz.ntmps77);(go_wp2_with (first|(go_at_call 74;refine hfr.mono ?_;rintro e w1 ⟨rfl,hw1⟩;subst hw1)|(go_at_call 139;refine(he _).mono ?_;rintro e w2 ⟨rfl,hb2⟩)));go_ret;refine⟨by rw[HV.out];rfl,?_⟩;exact((Below.refl _ _).alloc (Nat.le_refl _) _).trans (hb2.mono (by simp))
set_option maxHeartbeats 1000000 in
theorem Rv (g c b:Nat) (Hs:List Ht) (a:Option Addr) (cp bp:Nat) (ps:List P3) (p:Nat) (w:World) (hl:Hs.length=4096) (hp:p<4096) (h:A6 Db w b (.slice (some ⟨g,0,none⟩) Hs.length c) Hs) (hle:ps.length<=4000) (hr:Ab w bp (.slice a ps.length cp) ps) : Calls Tryz.prog 77 #[.slice (some ⟨g,0,none⟩) 4096 c,.slice a ps.length cp,.int .i64 3,.int .i64 p] w fun e w'=>e=.returned (.int .u64 (Bv (hF Hs) ps 3 p))/\Below w.heap.size w w':=by
 obtain⟨hgl,c0,c1,c2,c3⟩:=Ex h p (by omega);obtain⟨E,hE⟩:∃E,hF Hs p=E:=⟨_,rfl⟩
 have hE':AI Db Hs p=E:=hE;rw[hE'] at c0 c1 c2 c3;obtain⟨A,B,C,D⟩:=E;dsimp only at c0 c1 c2 c3;have hT:((p:Nat):Int).toNat=p:=rfl;have L1:(0:Int)<=(p:Int):=by omega
 have L2:(p:Int)<4096:=by omega
 have HFR:Hid (∀wX,Below w.heap.size w wX->Calls Tryz.prog 74 #[.slice a ps.length cp,.int .i64 4,.int .i64 p] wX fun e w'=>e=.returned (.int .i64 (AH ps 4 p))/\w'=wX):=fun wX hX=>E7 a cp bp ps 4 p wX hle (hr.below hX)
 by_cases hA:A=1
 ·subst hA;have HV:Hid (Bv (hF Hs) ps 3 p=BZ 3 3 B C):=A3 <| by unfold Bv;rw[if_pos rfl,hT,hE,if_pos rfl]
  have he:=DW 3 3 B C;generalize BZ 3 3 B C=X at HV he;clear hE hE' h hr HFR hT;go_enter Tryz.func77,Tryz.ntmps77
  go_wp2_with (go_at_call 139;refine(he _).mono ?_;rintro e w1 ⟨rfl,hb1⟩)
  go_ret;refine⟨by rw[HV.out];rfl,?_⟩;exact((Below.refl _ _).alloc (Nat.le_refl _) _).trans (hb1.mono (by simp))
 ·have dA:(A != 1)=true:=by simpa using hA
  have HV:Hid (Bv (hF Hs) ps 3 p=0):=A3 <| by unfold Bv;rw[if_pos rfl,hT,hE,if_neg hA]
  clear hE hE' h hr HFR hT hA;go_enter Tryz.func77,Tryz.ntmps77
  go_wp2_with fail
  go_ret;refine⟨by rw[HV.out];rfl,?_⟩;exact(Below.refl _ _).alloc (Nat.le_refl _) _
theorem JA (g c b:Nat) (Hs:List Ht) (a:Option Addr) (cp bp:Nat) (ps:List P3) (lv p:Nat) (w:World) (hl:Hs.length=4096) (h1:1<=lv) (h3:lv<=3) (hp:p<4096) (h:A6 Db w b (.slice (some ⟨g,0,none⟩) Hs.length c) Hs) (hle:ps.length<=4000) (hr:Ab w bp (.slice a ps.length cp) ps) : Calls Tryz.prog 77 #[.slice (some ⟨g,0,none⟩) 4096 c,.slice a ps.length cp,.int .i64 lv,.int .i64 p] w fun e w'=>e=.returned (.int .u64 (Bv (hF Hs) ps lv p))/\Below w.heap.size w w':=by
 rcases(show lv=1\/lv=2\/lv=3 by omega) with rfl|rfl|rfl
 ·exact Rk g c b Hs a cp bp ps p w hl hp h hle hr
 ·exact S5 g c b Hs a cp bp ps p w hl hp h hle hr
 ·exact Rv g c b Hs a cp bp ps p w hl hp h hle hr
def NO:Dc En:=⟨146,3,fun x=>[.int .i64 x.lv,.int .i64 x.pg,.int .i64 x.ad],⟨0,0,0⟩,by omega,fun _=>rfl⟩
theorem Vv:(Tryz.prog.info? 146).map (fun i=>(i.zero,i.size,i.bytes))=some (some (.agg #[.int .i64 0,.int .i64 0,.int .i64 0]),3,24):=by kernel_rfl
structure F0 {α:Type} (E:Dc α) (w:World) (wr:World) (vv:Value) (l:List α):Prop where
 row:∃g c:Nat,vv=.slice (some ⟨g,0,none⟩) l.length c/\A6 E wr w.heap.size (.slice (some ⟨g,0,none⟩) l.length c) l
 bel:Below w.heap.size w wr
theorem F0.below {α:Type} {E:Dc α} {w wr w1:World} {vv:Value} {l:List α} (h:F0 E w wr vv l) (hb:Below wr.heap.size wr w1):F0 E w w1 vv l:=by
 obtain⟨⟨g,c,e,hr⟩,hbel⟩:=h;exact⟨⟨g,c,e,hr.below hb⟩,hbel.trans (hb.mono hbel.size)⟩
theorem F0.push {α:Type} {E:Dc α} {w w1 wn:World} {g c g1 c1:Nat} {l:List α} {x:α} {o:Obj} (hbel:Below w.heap.size w w1) (hr:A6 E w1 w.heap.size (.slice (some ⟨g,0,none⟩) l.length c) l) (hown:wn.ownsRow w.heap.size E.T E.sz (.slice (some ⟨g1,0,none⟩) (l.length+1) c1) (l.length+1) (AE E l++E.enc x)) (hgrow:(w1.alloc o).grownBy wn (Value.ownBlock (.slice (some ⟨g,0,none⟩) l.length c))) : F0 E w wn (.slice (some ⟨g1,0,none⟩) (l.length+1) c1) (l++[x]):=by
 refine⟨⟨g1,c1,by simp,?_⟩,?_⟩
 ·have:=A6.push rfl hown;rw[List.length_append,List.length_singleton];exact this
 ·exact(hbel.alloc hbel.size _).grown hgrow (by have:=hbel.size;simp;omega) (fun q hq=>(hr.own q hq).1)
def Kn (kept:List P3) (page:Nat):Nat->List En
 | 0=>[]
 | n+1=>Kn kept page n++EK kept page (n+1)
theorem Q8 (kept:List P3) (page:Nat):∀n,(Kn kept page n).length<=n
 | 0=>by simp[Kn]
 | n+1=>by
  have:=Q8 kept page n;have:=GB kept page (n+1);unfold Kn;rw[List.length_append];omega
theorem Wv (kept:List P3) (page:Nat):Kn kept page 3=LU kept page:=by
 unfold LU;simp[Kn]
set_option maxHeartbeats 4000000 in
theorem LY (a:Option Addr) (cp bp:Nat) (ps:List P3) (w:World) (hfb:∀lv pg,AH ps lv pg<512) (hle:ps.length<=4000) (hr:Ab w bp (.slice a ps.length cp) ps) : Calls Tryz.prog 76 #[.slice a ps.length cp] w fun e w'=>∃g c,e=.returned (.slice (some ⟨g,0,none⟩) (BW ps 4096).length c)/\A6 NO w' w.heap.size (.slice (some ⟨g,0,none⟩) (BW ps 4096).length c) (BW ps 4096)/\Below w.heap.size w w':=by
 obtain⟨i0,hi,hz0,hz1,hz2⟩:=info_parts Vv;have HFR:Hid (∀lv pg wX,Below w.heap.size w wX->Calls Tryz.prog 74 #[.slice a ps.length cp,.int .i64 lv,.int .i64 pg] wX fun e w'=>e=.returned (.int .i64 (AH ps lv pg))/\w'=wX):=fun lv pg wX hX=>E7 a cp bp ps lv pg wX hle (hr.below hX)
 have HFB:Hid (∀lv pg,AH ps lv pg<512):=hfb;have HE:Hid (F0 NO w (w.alloc (.cells #[] 146)) (.slice (some ⟨w.heap.size,0,none⟩) 0 0) (BW ps 0)):=⟨⟨w.heap.size,0,rfl,A6.empty NO w w.heap.size (Nat.le_refl _)⟩,Ao⟩;clear hr hfb;go_enter Tryz.func76,Tryz.ntmps76
 go_wp2_with fail
 go_loopw [3,4] (fun vv iv wr=>∃t:Nat,t<=4096/\iv=.int .i64 t/\F0 NO w wr vv (BW ps t)) (fun _ iv _=>4096-(intOf iv).toNat)
 case atStart=>exact⟨0,Nat.zero_le _,rfl,HE.out⟩
 case round =>
  obtain⟨t,ht,rfl,hst⟩:=hrel;by_cases hlt:t<4096
  ·have hel:=IC ps t;(have HSU:Hid (BW ps (t+1)=BW ps t++Kn ps t 3):=A3 <| by rw[Ij,Wv]);(obtain⟨l,hl⟩:∃l,BW ps t=l:=⟨_,rfl⟩);rw[hl] at hst hel HSU;have HST:Hid (F0 NO w wr _ l):=hst;(have LT:(0:Int)<=(t:Int):=by omega);(have LT2:(t:Int)<4096:=by omega);clear hl hst;(go_wp2_with fail);(go_loopw [3,5] (fun vv iv wr=>∃n:Nat,n<=3/\iv=.int .i64 ((n:Int)+1)/\F0 NO w wr vv (l++Kn ps t n)) (fun _ iv _=>4-(intOf iv).toNat));(case atStart=>exact⟨0,Nat.zero_le _,rfl,by simpa [Kn] using HST.out⟩);case round =>
    obtain⟨n,hn,rfl,hst⟩:=hrel;(have hll:(l++Kn ps t n).length<=12300:=by rw[List.length_append];have:=Q8 ps t n;omega);by_cases hlt3:n<3
    ·have hcv:=Dj ((n:Int)+1);(have hce:Bj ((n:Int)+1)=(Aq (n+1):Nat):=by have:=CT (n+1);simpa using this);have hcp:=GX (n+1);(have hcm:Aq (n+1)<=256:=by unfold Aq;split<;>(try split)<;>omega);rw[hce] at hcv;have HUP:Hid (Kn ps t (n+1)=Kn ps t n++(if t%Aq (n+1)=0/\0<=AH ps ((n:Int)+1) ((t-t%(Aq (n+1)*16):Nat):Int) then [⟨(n:Int)+1,t,AH ps ((n:Int)+1) ((t-t%(Aq (n+1)*16):Nat):Int)*16+(t/Aq (n+1)%16:Nat)⟩] else [])):=A3 <| by
      show Kn ps t n++EK ps t (n+1)=_;unfold EK;rw[show ((n+1:Nat):Int)=(n:Int)+1 by omega]
     have hpg:((t-t%(Aq (n+1)*16):Nat):Int)=(t:Int)-(t:Int)%((Aq (n+1):Nat)*16:Int):=by
      have h1:t%(Aq (n+1)*16)<=t:=Nat.mod_le _ _;rw[Int.ofNat_sub h1];simp
     rw[hpg] at HUP;generalize Aq (n+1)=C at hcv hcp hcm HUP hpg;(have LC:(1:Int)<=(C:Int):=by omega);(have LC2:(C:Int)<=256:=by omega);(have dC:((C:Int)==0)=false:=by simp;omega);(have dC2:((C:Int)*16==0)=false:=by simp;omega);have Lm1:(0:Int)<=(t:Int)%((C:Int)*16):=Int.emod_nonneg _ (by omega);have Lm2:(t:Int)%((C:Int)*16)<=(t:Int):=by
      (have:(t:Int)%((C:Int)*16)=((t%(C*16):Nat):Int):=by simp);rw[this];exact Int.ofNat_le.2 (Nat.mod_le _ _)
     (have Ln:(0:Int)<=(n:Int)+1:=by omega);(have Ln3:(n:Int)+1<=3:=by omega);(have Ln4:(n:Int)<3:=by omega);(have Ln5:(n:Int)<=2:=by omega);have dn:decide ((n:Int)+1<=3)=true:=decide_eq_true Ln3;(have hC0:¬(C:Int)=0:=by omega);(have hC1:¬(C:Int)*16=0:=by omega);(have hC2:¬C=0:=by omega);(have WC:IntKind.i64.wrap ((C:Int)*16)=(C:Int)*16:=by rw[IntKind.wrap_i64];omega);(have WD:IntKind.i64.wrap ((t:Int)-(t:Int)%((C:Int)*16))=(t:Int)-(t:Int)%((C:Int)*16):=by rw[IntKind.wrap_i64];omega);clear hce hpg;by_cases hm:t%C=0
     ·have dm:((t:Int)%(C:Int)==0)=true:=by
       (have:(t:Int)%(C:Int)=((t%C:Nat):Int):=by simp);rw[this,hm];rfl
      (have hfr:=fun wX hX=>HFR.out ((n:Int)+1) ((t:Int)-(t:Int)%((C:Int)*16)) wX hX);have hfl:=HFB.out ((n:Int)+1) ((t:Int)-(t:Int)%((C:Int)*16));rw[show ((C:Nat)*16:Int)=(C:Int)*16 from rfl] at HUP;generalize AH ps ((n:Int)+1) ((t:Int)-(t:Int)%((C:Int)*16))=F at hfr hfl HUP;have hc1:=hfr wr hst.bel;(obtain⟨l2,hl2⟩:∃l2,l++Kn ps t n=l2:=⟨_,rfl⟩);rw[hl2] at hst hll;have HL2:Hid (l++Kn ps t n=l2):=hl2;clear hl2;obtain⟨⟨gv,cv,rfl,hrow⟩,hbel⟩:=hst;have hsz:=hbel.size;by_cases hF0:0<=F
      ·have dF:decide (0<=F)=true:=decide_eq_true hF0;have HU2:Hid (Kn ps t (n+1)=Kn ps t n++[⟨(n:Int)+1,t,F*16+(t:Int)/(C:Int)%16⟩]):=A3 <| by
        rw[HUP.out,if_pos ⟨hm,hF0⟩];congr 3
       have HROW:Hid _:=hrow;have HB:Hid (Below _ w wr):=hbel;have Lq1:(0:Int)<=(t:Int)/(C:Int)%16:=Int.emod_nonneg _ (by decide);have Lq2:(t:Int)/(C:Int)%16<16:=Int.emod_lt_of_pos _ (by decide);have Lq3:(0:Int)<=(t:Int)/(C:Int):=Int.ediv_nonneg (by omega) (by omega);have Lq4:(t:Int)/(C:Int)<=4096:=Int.le_trans (Int.ediv_le_self _ (by omega)) (by omega);clear hm hrow hbel hfr;(go_wp2_with (first|(go_at_call 79;refine(hcv _).mono ?_;rintro e wE ⟨rfl,hwE⟩;obtain rfl:=hwE.symm)|(go_at_call 74;refine hc1.mono ?_;rintro e wE ⟨rfl,hwE⟩;obtain rfl:=hwE.symm)|(at_builtin;refine wpList_append_lies _ rfl (.tmp 34) (.tmp 45) 143 rfl w.heap.size 146 i0 _ 3 24 Tryz.underlying143 hi hz0 hz1 hz2 rfl (by omega) _ _ _ rfl (World.ownsRow.alloc HROW.out _) ⟨wr.heap.size,0,none⟩ 1 1 [.int .i64 ((n:Int)+1),.int .i64 t,.int .i64 (F*16+(t:Int)/(C:Int)%16)] rfl rfl ?c1 ?c2 (by omega) ?c3 ?c4 ?c5 (wr.heap.size+1) ?c6 ?_)));(case c1=>exact World.news_of_block (heap_alloc_new wr (.cells #[.int .i64 ((n:Int)+1),.int .i64 t,.int .i64 (F*16+(t:Int)/(C:Int)%16)] 146)));(case c2=>intro u hu;simp at hu;rcases hu with rfl|rfl|rfl<;>rfl);(case c3=>unfold maxLen;omega);(case c4=>omega);(case c5=>simp;omega);(case c6=>simp);intro g1 cap1 wn hown hgrow hat hltz;have hstn:F0 NO w wn (.slice (some ⟨g1,0,none⟩) (l2.length+1) cap1) (l2++[⟨(n:Int)+1,t,F*16+(t:Int)/(C:Int)%16⟩]):=F0.push HB.out HROW.out hown hgrow;clear hown hgrow hat hltz;(go_wp2_with fail);go_roundw;(case rel=>exact⟨n+1,by omega,by go_num,by rw[HU2.out,<- List.append_assoc,HL2.out];exact hstn⟩);case measure=>simp[intOf];omega
      ·have dF:decide (0<=F)=false:=decide_eq_false hF0;have HU2:Hid (Kn ps t (n+1)=Kn ps t n):=A3 <| by
        rw[HUP.out,if_neg (fun h=>hF0 h.2),List.append_nil]
       have hst:F0 NO w wr (.slice (some ⟨gv,0,none⟩) l2.length cv) l2:=⟨⟨gv,cv,rfl,hrow⟩,hbel⟩;clear hm hrow hbel hfr;(go_wp2_with (first|(go_at_call 79;refine(hcv _).mono ?_;rintro e wE ⟨rfl,hwE⟩;obtain rfl:=hwE.symm)|(go_at_call 74;refine hc1.mono ?_;rintro e wE ⟨rfl,hwE⟩;obtain rfl:=hwE.symm)));go_roundw;(case rel=>exact⟨n+1,by omega,by go_num,by rw[HU2.out,HL2.out];exact hst⟩);case measure=>simp[intOf];omega
     ·have dm:((t:Int)%(C:Int)==0)=false:=by
       (have:(t:Int)%(C:Int)=((t%C:Nat):Int):=by simp);rw[this];simpa using (show ¬((t%C:Nat):Int)=0 by omega)
      have HU2:Hid (Kn ps t (n+1)=Kn ps t n):=A3 <| by
       rw[HUP.out,if_neg (fun h=>hm h.1),List.append_nil]
      clear hm;(go_wp2_with (go_at_call 79;refine(hcv _).mono ?_;rintro e wE ⟨rfl,hwE⟩;obtain rfl:=hwE.symm));go_roundw;(case rel=>exact⟨n+1,by omega,by go_num,by rw[HU2.out];exact hst⟩);case measure=>simp[intOf];omega
    ·(have e:n=3:=by omega);subst e;(have dn:decide (((3:Nat):Int)+1<=3)=false:=by decide);(go_wp2_with fail);go_roundw;(case rel=>exact⟨t+1,by omega,by go_num,by rw[HSU.out];exact hst⟩);case measure=>simp[intOf];omega
  ·(have e:t=4096:=by omega);subst e;obtain⟨⟨gv,cv,rfl,hrow⟩,hbel⟩:=hst;(go_wp2_with fail);go_ret;exact⟨gv,cv,rfl,hrow,hbel⟩
end Go.Proofs.YtnmhkgmmpkjjeaaGreat
