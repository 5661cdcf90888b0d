import Derived.Test.YtnmhkgmmpkjjeaaGreatM18
namespace Go.Proofs.YtnmhkgmmpkjjeaaGreat
open ChangeShapes WideShapes ChangeAt RowKit Proofs.Tryz
set_option linter.all false
set_option maxRecDepth 100000
set_option maxHeartbeats 4000000
attribute [local go_sem ↓] wp_at_zero wp_at_succ
theorem Hr{ps:List P3}{k:Nat}(hk:k<ps.length):Aq ps k∈ps:=by
 unfold Aq;rw[List.getD_eq_getElem?_getD,List.getElem?_eq_getElem hk];exact List.getElem_mem hk
theorem OF{ps:List P3}{q:P3}(h:q∈ps):∃k,k<ps.length/\Aq ps k=q:=by
 obtain⟨k,hk,e⟩:=List.getElem_of_mem h;refine⟨k,hk,?_⟩;unfold Aq;rw[List.getD_eq_getElem?_getD,List.getElem?_eq_getElem hk];exact e
theorem Q4{ps:List P3}{lv pg:Int}{k:Nat}(hk:k<ps.length)(h:∀j,j<k->B5 lv pg (Aq ps j)=false)(h2:B5 lv pg (Aq ps k)=true):AI ps lv pg=(Aq ps k).fr:=by
 induction ps generalizing k with
 | nil=>simp at hk
 | cons p r ih =>
  cases k with
  | zero =>
   have h2':B5 lv pg p=true:=h2;unfold AI;rw[List.find?_cons_of_pos h2'];rfl
  | succ k =>
   have h0:B5 lv pg p=false:=h 0 (by omega);have:=ih (k:=k) (by simpa using hk) (fun j hj=>h (j+1) (by omega)) h2;unfold AI at this ⊢;rw[List.find?_cons_of_neg (by rw[h0];decide)];exact this
theorem TR{ps:List P3}{lv pg:Int}(h:∀j,j<ps.length->B5 lv pg (Aq ps j)=false):AI ps lv pg=-1:=Em (fun q hq hh=>by
 obtain⟨k,hk,e⟩:=OF hq;have:=h k hk;unfold B5 at this;rw[e,decide_eq_true hh] at this
 cases this)
theorem Ul{ps:List P3}{f:Int}{k:Nat}(hk:k<ps.length)(h:(Aq ps k).fr=f):BA ps f=true:=Fz.2 ⟨_,Hr hk,h⟩
theorem UW{ps:List P3}{f:Int}(h:∀j,j<ps.length->decide ((Aq ps j).fr=f)=false):BA ps f=false:=by
 cases hc:BA ps f
 ·rfl
 ·obtain⟨q,hq,e⟩:=Fz.1 hc;obtain⟨k,hk,e2⟩:=OF hq;have:=h k hk;rw[e2,decide_eq_true e] at this;cases this
theorem Mg(a:Option Addr)(c b:Nat)(ps:List P3)(f:Int)(w:World)(hle:ps.length<=4000)(hr:BE w b (.slice a ps.length c) ps):Calls prog 82 #[.slice a ps.length c,.int .i64 f] w fun e w'=>e=.returned (.bool (BA ps f))/\w'=w:=by
 obtain⟨gp,hp1,hp2⟩:=Dg hr;have HP1:=A5 hp1;have HP2:=A5 hp2;clear hr hp1 hp2;go_enter func82,ntmps82
 go_wp2_with fail
 go_loopw [5] (fun i wr=>∃k:Nat,k<=ps.length/\i=.int .i64 k/\Hid (∀j,j<k->decide ((Aq ps j).fr=f)=false)/\wr=w) (fun i _=>ps.length-(intOf i).toNat)
 case atStart=>exact⟨0,Nat.zero_le _,rfl,fun j hj=>absurd hj (by omega),rfl⟩
 case round =>
  obtain⟨k,hk,rfl,hall,rfl⟩:=hrel;by_cases hlt:k<ps.length
  ·(obtain⟨E,hE⟩:∃E,Aq ps k=E:=⟨_,rfl⟩);obtain⟨F,L,P⟩:=E;obtain⟨rfl,hgl⟩:=HP1.out (by omega);obtain⟨c0,c1,c2⟩:=HP2.out k F L P hlt hE _ AH;have HE:=A5 hE;(have L1:(0:Int)<=(k:Int):=by omega);(have L2:(k:Int)<(ps.length:Int):=by omega);clear hE;by_cases hf:F=f
   ·(have d:(F==f)=true:=by simpa using hf);have HR:Hid (BA ps f=true):=Ul hlt (by rw[HE.out];exact hf);clear hf;(go_wp2_with fail);go_ret;exact⟨by rw[HR.out];rfl,rfl⟩
   ·(have d:(F==f)=false:=by simpa using hf);(have HN:Hid (decide ((Aq ps k).fr=f)=false):=by rw[HE.out];exact decide_eq_false hf);clear hf;(go_wp2_with fail);go_roundw;case rel =>
     refine⟨k+1,by omega,by go_num,fun j hj=>?_,by first|rfl|trivial⟩;by_cases e:j=k
     ·rw[e];exact HN.out
     ·exact hall.out j (by omega)
    case measure=>simp[intOf];omega
  ·have HR:Hid (BA ps f=false):=UW (fun j hj=>hall.out j (by omega));(go_wp2_with fail);go_ret;exact⟨by rw[HR.out];rfl,rfl⟩
theorem FZ(a:Option Addr)(c b:Nat)(ps:List P3)(lv pg:Int)(w:World)(hle:ps.length<=4000)(hr:BE w b (.slice a ps.length c) ps):Calls prog 74 #[.slice a ps.length c,.int .i64 lv,.int .i64 pg] w fun e w'=>e=.returned (.int .i64 (AI ps lv pg))/\w'=w:=by
 obtain⟨gp,hp1,hp2⟩:=Dg hr;have HP1:=A5 hp1;have HP2:=A5 hp2;clear hr hp1 hp2;go_enter func74,ntmps74
 go_wp2_with fail
 go_loopw [7] (fun i wr=>∃k:Nat,k<=ps.length/\i=.int .i64 k/\Hid (∀j,j<k->B5 lv pg (Aq ps j)=false)/\wr=w) (fun i _=>ps.length-(intOf i).toNat)
 case atStart=>exact⟨0,Nat.zero_le _,rfl,fun j hj=>absurd hj (by omega),rfl⟩
 case round =>
  obtain⟨k,hk,rfl,hall,rfl⟩:=hrel;by_cases hlt:k<ps.length
  ·(obtain⟨E,hE⟩:∃E,Aq ps k=E:=⟨_,rfl⟩);obtain⟨F,L,P⟩:=E;obtain⟨rfl,hgl⟩:=HP1.out (by omega);obtain⟨c0,c1,c2⟩:=HP2.out k F L P hlt hE _ AH;have HE:=A5 hE;(have L1:(0:Int)<=(k:Int):=by omega);(have L2:(k:Int)<(ps.length:Int):=by omega);clear hE;by_cases hf:L=lv
   ·(have d:(L==lv)=true:=by simpa using hf);by_cases hg:P=pg
    ·(have d2:(P==pg)=true:=by simpa using hg);have HR:Hid (AI ps lv pg=F):=A9 <| by
      rw[Q4 hlt hall.out (by rw[HE.out];exact decide_eq_true ⟨hf,hg⟩),HE.out]
     clear hf hg;(go_wp2_with fail);go_ret;exact⟨by rw[HR.out];rfl,rfl⟩
    ·(have d2:(P==pg)=false:=by simpa using hg);(have HN:Hid (B5 lv pg (Aq ps k)=false):=A9 <| by rw[HE.out];exact decide_eq_false (fun h=>hg h.2));clear hf hg;(go_wp2_with fail);go_roundw;case rel =>
      refine⟨k+1,by omega,by go_num,fun j hj=>?_,by first|rfl|trivial⟩;by_cases e:j=k
      ·rw[e];exact HN.out
      ·exact hall.out j (by omega)
     case measure=>simp[intOf];omega
   ·(have d:(L==lv)=false:=by simpa using hf);(have HN:Hid (B5 lv pg (Aq ps k)=false):=A9 <| by rw[HE.out];exact decide_eq_false (fun h=>hf h.1));clear hf;(go_wp2_with fail);go_roundw;case rel =>
     refine⟨k+1,by omega,by go_num,fun j hj=>?_,by first|rfl|trivial⟩;by_cases e:j=k
     ·rw[e];exact HN.out
     ·exact hall.out j (by omega)
    case measure=>simp[intOf];omega
  ·have HR:Hid (AI ps lv pg=-1):=TR (fun j hj=>hall.out j (by omega));(go_wp2_with fail);go_ret;exact⟨by rw[HR.out];rfl,rfl⟩
theorem Oe(a:Option Addr)(c b:Nat)(ps:List P3)(w:World)(hle:ps.length<=4000)(hr:BE w b (.slice a ps.length c) ps):Calls prog 75 #[.slice a ps.length c] w fun e w'=>e=.returned (.int .i64 (FJ ps:Nat))/\w'=w:=by
 have hh:=fun f=>Mg a c b ps f w hle hr
 have HH:=A5 hh;clear hr hh;go_enter func75,ntmps75
 go_wp2_with fail
 go_loopw [3] (fun i wr=>∃k:Nat,i=.int .i64 k/\Hid (∀g:Nat,g<k->BA ps g=true)/\wr=w) (fun i _=>ps.length-(intOf i).toNat)
 case atStart=>exact⟨0,rfl,fun j hj=>absurd hj (by omega),rfl⟩
 case round =>
  obtain⟨k,rfl,hall,rfl⟩:=hrel;have hc:=HH.out k;cases hk:BA ps k
  ·rw[hk] at hc;have HL:Hid (FJ ps=k):=Rb hall.out hk;clear hk;(go_wp2_with (go_at_call 82;refine hc.mono ?_;rintro e w1 ⟨rfl,hw1⟩;obtain rfl:=hw1.symm));go_ret;exact⟨by rw[HL.out];rfl,rfl⟩
  ·rw[hk] at hc;have HK:=A5 hk
   have hkl2:k+1<=ps.length:=Nm (fun g hg=>by
    by_cases e:g=k
    ·rw[e];exact hk
    ·exact hall.out g (by omega))
   clear hk;(go_wp2_with (go_at_call 82;refine hc.mono ?_;rintro e w1 ⟨rfl,hw1⟩;obtain rfl:=hw1.symm));go_roundw;case rel =>
    refine⟨k+1,by go_num,fun g hg=>?_,by first|rfl|trivial⟩;by_cases e:g=k
    ·rw[e];exact HK.out
    ·exact hall.out g (by omega)
   case measure=>simp[intOf];omega
theorem Tf(g c b:Nat)(Hs:List Ht)(a:Option Addr)(cp bp:Nat)(ps:List P3)(p:Nat)(w:World)(hl:Hs.length=4096)(hp:p<4096)(h:A8 Dx w b (.slice (some ⟨g,0,none⟩) Hs.length c) Hs)(hle:ps.length<=4000)(hr:BE w bp (.slice a ps.length cp) ps):Calls prog 77 #[.slice (some ⟨g,0,none⟩) 4096 c,.slice a ps.length cp,.int .i64 1,.int .i64 p] w (AM w (.int .u64 (C3 (hF Hs) ps 1 p))):=by
 obtain⟨hgl,c0,c1,c2,c3⟩:=FF h p (by omega);obtain⟨E,hE⟩:∃E,hF Hs p=E:=⟨_,rfl⟩
 have hE':AQ Dx Hs p=E:=hE;rw[hE'] at c0 c1 c2 c3;obtain⟨A,B,C,D⟩:=E;dsimp only at c0 c1 c2 c3;have hT:((p:Nat):Int).toNat=p:=rfl;have L1:(0:Int)<=(p:Int):=by omega
 have L2:(p:Int)<4096:=by omega
 have HFR:Hid (∀wX,Bl w wX->Calls prog 74 #[.slice a ps.length cp,.int .i64 2,.int .i64 p] wX fun e w'=>e=.returned (.int .i64 (AI ps 2 p))/\w'=wX):=fun wX hX=>FZ a cp bp ps 2 p wX hle (hr.below hX)
 have HV0:Hid (C3 (hF Hs) ps 1 p=if AI ps 2 p<0 then 0 else Aw 1 1 (AI ps 2 p) 0):=A9 <| by unfold C3;rw[if_neg (by decide),if_neg (fun h=>absurd h.1 (by decide))];rfl
 generalize AI ps 2 p=F at HV0 HFR;clear hE hE' h hr hT;have hfr:=HFR.out (w.alloc (.cells #[.int .i64 A,.int .i64 B,.int .i64 C,.int .i64 D] 56)) AO;by_cases hF0:F<0
 ·have dF:decide (F<0)=true:=decide_eq_true hF0;have HV:Hid (C3 (hF Hs) ps 1 p=0):=A9 <| by rw[HV0.out,if_pos hF0]
  clear hF0 HV0;go_enter func77,ntmps77
  go_wp2_with (go_at_call 74;refine hfr.mono ?_;rintro e w1 ⟨rfl,hw1⟩;subst hw1)
  go_ret;refine⟨by rw[HV.out];rfl,?_⟩;exact AO
 ·have dF:decide (F<0)=false:=decide_eq_false hF0;have HV:Hid (C3 (hF Hs) ps 1 p=Aw 1 1 F 0):=A9 <| by rw[HV0.out,if_neg hF0]
  have he:=Bn 1 1 F 0;generalize Aw 1 1 F 0=X at HV he;clear hF0 HV0;go_enter func77,ntmps77
  go_wp2_with (first|(go_at_call 74;refine hfr.mono ?_;rintro e w1 ⟨rfl,hw1⟩;subst hw1)|(go_at_call 139;refine(he _).mono ?_;rintro e w2 ⟨rfl,hb2⟩))
  go_ret;refine⟨by rw[HV.out];rfl,?_⟩;exact AO.trans (hb2.mono (by simp))
theorem Sp(g c b:Nat)(Hs:List Ht)(a:Option Addr)(cp bp:Nat)(ps:List P3)(p:Nat)(w:World)(hl:Hs.length=4096)(hp:p<4096)(h:A8 Dx w b (.slice (some ⟨g,0,none⟩) Hs.length c) Hs)(hle:ps.length<=4000)(hr:BE w bp (.slice a ps.length cp) ps):Calls prog 77 #[.slice (some ⟨g,0,none⟩) 4096 c,.slice a ps.length cp,.int .i64 2,.int .i64 p] w (AM w (.int .u64 (C3 (hF Hs) ps 2 p))):=by
 obtain⟨hgl,c0,c1,c2,c3⟩:=FF h p (by omega);obtain⟨E,hE⟩:∃E,hF Hs p=E:=⟨_,rfl⟩
 have hE':AQ Dx Hs p=E:=hE;rw[hE'] at c0 c1 c2 c3;obtain⟨A,B,C,D⟩:=E;dsimp only at c0 c1 c2 c3;have hT:((p:Nat):Int).toNat=p:=rfl;have L1:(0:Int)<=(p:Int):=by omega
 have L2:(p:Int)<4096:=by omega
 have HFR:Hid (∀wX,Bl w wX->Calls prog 74 #[.slice a ps.length cp,.int .i64 3,.int .i64 p] wX fun e w'=>e=.returned (.int .i64 (AI ps 3 p))/\w'=wX):=fun wX hX=>FZ a cp bp ps 3 p wX hle (hr.below hX)
 by_cases hD:D=16
 ·subst hD;have HV:Hid (C3 (hF Hs) ps 2 p=Aw 2 2 B C):=A9 <| by unfold C3;rw[if_neg (by decide),hT,hE,if_pos ⟨rfl,rfl⟩]
  have he:=Bn 2 2 B C;generalize Aw 2 2 B C=X at HV he;clear hE hE' h hr HFR hT;go_enter func77,ntmps77
  go_wp2_with (go_at_call 139;refine(he _).mono ?_;rintro e w1 ⟨rfl,hb1⟩)
  go_ret;refine⟨by rw[HV.out];rfl,?_⟩;exact AO.trans (hb1.mono (by simp))
 ·have dD:(D==16)=false:=by simpa using hD
  have HV0:Hid (C3 (hF Hs) ps 2 p=if AI ps 3 p<0 then 0 else Aw 2 1 (AI ps 3 p) 0):=A9 <| by unfold C3;rw[if_neg (by decide),hT,hE,if_neg (fun h=>hD h.2)];rfl
  clear hD;generalize AI ps 3 p=F at HV0 HFR;clear hE hE' h hr hT;have hfr:=HFR.out (w.alloc (.cells #[.int .i64 A,.int .i64 B,.int .i64 C,.int .i64 D] 56)) AO;by_cases hF0:F<0
  ·have dF:decide (F<0)=true:=decide_eq_true hF0;(have HV:Hid (C3 (hF Hs) ps 2 p=0):=A9 <| by rw[HV0.out,if_pos hF0]);clear hF0 HV0;(go_enter func77,ntmps77);(go_wp2_with (go_at_call 74;refine hfr.mono ?_;rintro e w1 ⟨rfl,hw1⟩;subst hw1));go_ret;refine⟨by rw[HV.out];rfl,?_⟩;exact AO
  ·have dF:decide (F<0)=false:=decide_eq_false hF0;(have HV:Hid (C3 (hF Hs) ps 2 p=Aw 2 1 F 0):=A9 <| by rw[HV0.out,if_neg hF0]);have he:=Bn 2 1 F 0;generalize Aw 2 1 F 0=X at HV he;clear hF0 HV0;(go_enter func77,ntmps77);(go_wp2_with (first|(go_at_call 74;refine hfr.mono ?_;rintro e w1 ⟨rfl,hw1⟩;subst hw1)|(go_at_call 139;refine(he _).mono ?_;rintro e w2 ⟨rfl,hb2⟩)));go_ret;refine⟨by rw[HV.out];rfl,?_⟩;exact AO.trans (hb2.mono (by simp))
theorem TQ(g c b:Nat)(Hs:List Ht)(a:Option Addr)(cp bp:Nat)(ps:List P3)(p:Nat)(w:World)(hl:Hs.length=4096)(hp:p<4096)(h:A8 Dx w b (.slice (some ⟨g,0,none⟩) Hs.length c) Hs)(hle:ps.length<=4000)(hr:BE w bp (.slice a ps.length cp) ps):Calls prog 77 #[.slice (some ⟨g,0,none⟩) 4096 c,.slice a ps.length cp,.int .i64 3,.int .i64 p] w (AM w (.int .u64 (C3 (hF Hs) ps 3 p))):=by
 obtain⟨hgl,c0,c1,c2,c3⟩:=FF h p (by omega);obtain⟨E,hE⟩:∃E,hF Hs p=E:=⟨_,rfl⟩
 have hE':AQ Dx Hs p=E:=hE;rw[hE'] at c0 c1 c2 c3;obtain⟨A,B,C,D⟩:=E;dsimp only at c0 c1 c2 c3;have hT:((p:Nat):Int).toNat=p:=rfl;have L1:(0:Int)<=(p:Int):=by omega
 have L2:(p:Int)<4096:=by omega
 by_cases hA:A=1
 ·subst hA;have HV:Hid (C3 (hF Hs) ps 3 p=Aw 3 3 B C):=A9 <| by unfold C3;rw[if_pos rfl,hT,hE,if_pos rfl]
  have he:=Bn 3 3 B C;generalize Aw 3 3 B C=X at HV he;clear hE hE' h hr hT;go_enter func77,ntmps77
  go_wp2_with (go_at_call 139;refine(he _).mono ?_;rintro e w1 ⟨rfl,hb1⟩)
  go_ret;refine⟨by rw[HV.out];rfl,?_⟩;exact AO.trans (hb1.mono (by simp))
 ·have dA:(A != 1)=true:=by simpa using hA
  have HV:Hid (C3 (hF Hs) ps 3 p=0):=A9 <| by unfold C3;rw[if_pos rfl,hT,hE,if_neg hA]
  clear hE hE' h hr hT hA;go_enter func77,ntmps77
  go_wp2_with fail
  go_ret;refine⟨by rw[HV.out];rfl,?_⟩;exact AO
theorem Jv(g c b:Nat)(Hs:List Ht)(a:Option Addr)(cp bp:Nat)(ps:List P3)(lv p:Nat)(w:World)(hl:Hs.length=4096)(h1:1<=lv)(h3:lv<=3)(hp:p<4096)(h:A8 Dx w b (.slice (some ⟨g,0,none⟩) Hs.length c) Hs)(hle:ps.length<=4000)(hr:BE w bp (.slice a ps.length cp) ps):Calls prog 77 #[.slice (some ⟨g,0,none⟩) 4096 c,.slice a ps.length cp,.int .i64 lv,.int .i64 p] w (AM w (.int .u64 (C3 (hF Hs) ps lv p))):=by
 rcases(show lv=1\/lv=2\/lv=3 by omega) with rfl|rfl|rfl
 ·exact Tf g c b Hs a cp bp ps p w hl hp h hle hr
 ·exact Sp g c b Hs a cp bp ps p w hl hp h hle hr
 ·exact TQ g c b Hs a cp bp ps p w hl hp h hle hr
def P7:Dw En:=⟨146,3,fun x=>[.int .i64 x.lv,.int .i64 x.pg,.int .i64 x.ad],⟨0,0,0⟩,by omega,fun _=>rfl⟩
theorem Ya:(prog.info? 146).map (fun i=>(i.zero,i.size,i.bytes))=some (some (.agg #[.int .i64 0,.int .i64 0,.int .i64 0]),3,24):=by kernel_rfl
structure Fd {α:Type} (E:Dw α) (w:World) (wr:World) (vv:Value) (l:List α):Prop where
 row:∃g c:Nat,vv=.slice (some ⟨g,0,none⟩) l.length c/\A8 E wr w.heap.size (.slice (some ⟨g,0,none⟩) l.length c) l
 bel:Bl w wr
theorem Fd.below{α:Type}{E:Dw α}{w wr w1:World}{vv:Value}{l:List α}(h:Fd E w wr vv l)(hb:Bl wr w1):Fd E w w1 vv l:=by
 obtain⟨⟨g,c,e,hr⟩,hbel⟩:=h;exact⟨⟨g,c,e,hr.below hb⟩,Ab hbel hb⟩
theorem Fd.push{α:Type}{E:Dw α}{w w1 wn:World}{g c g1 c1:Nat}{l:List α}{x:α}{o:Obj}(hbel:Bl w w1)(hr:A8 E w1 w.heap.size (.slice (some ⟨g,0,none⟩) l.length c) l)(hown:wn.ownsRow w.heap.size E.T E.sz (.slice (some ⟨g1,0,none⟩) (l.length+1) c1) (l.length+1) (AK E l++E.enc x))(hgrow:(w1.alloc o).grownBy wn (Value.ownBlock (.slice (some ⟨g,0,none⟩) l.length c))):Fd E w wn (.slice (some ⟨g1,0,none⟩) (l.length+1) c1) (l++[x]):=by
 refine⟨⟨g1,c1,by simp,?_⟩,?_⟩
 ·have:=A8.push rfl hown;rw[List.length_append,List.length_singleton];exact this
 ·exact(hbel.alloc hbel.size _).grown hgrow (by have:=hbel.size;simp;omega) (fun q hq=>(hr.own q hq).1)
def Mu (kept:List P3) (page:Nat):Nat->List En
 | 0=>[]
 | n+1=>Mu kept page n++Dy kept page (n+1)
theorem RU(kept:List P3)(page:Nat):∀n,(Mu kept page n).length<=n
 | 0=>by simp[Mu]
 | n+1=>by
  have:=RU kept page n;have:=H4 kept page (n+1);unfold Mu;rw[List.length_append];omega
theorem Zs(kept:List P3)(page:Nat):Mu kept page 3=Lm kept page:=by
 unfold Lm;simp[Mu]
theorem MN(a:Option Addr)(cp bp:Nat)(ps:List P3)(w:World)(hfb:∀lv pg,AI ps lv pg<512)(hle:ps.length<=4000)(hr:BE w bp (.slice a ps.length cp) ps):Calls prog 76 #[.slice a ps.length cp] w fun e w'=>∃g c,e=.returned (.slice (some ⟨g,0,none⟩) (Bf ps 4096).length c)/\A8 P7 w' w.heap.size (.slice (some ⟨g,0,none⟩) (Bf ps 4096).length c) (Bf ps 4096)/\Bl w w':=by
 obtain⟨i0,hi,hz0,hz1,hz2⟩:=info_parts Ya;have HFR:Hid (∀lv pg wX,Bl w wX->Calls prog 74 #[.slice a ps.length cp,.int .i64 lv,.int .i64 pg] wX fun e w'=>e=.returned (.int .i64 (AI ps lv pg))/\w'=wX):=fun lv pg wX hX=>FZ a cp bp ps lv pg wX hle (hr.below hX)
 have HFB:=A5 hfb;have HE:Hid (Fd P7 w (w.alloc (.cells #[] 146)) (.slice (some ⟨w.heap.size,0,none⟩) 0 0) (Bf ps 0)):=⟨⟨w.heap.size,0,rfl,A8.empty P7 w w.heap.size (Nat.le_refl _)⟩,AO⟩;clear hr hfb;go_enter func76,ntmps76
 go_wp2_with fail
 go_loopw [3,4] (fun vv iv wr=>∃t:Nat,t<=4096/\iv=.int .i64 t/\Fd P7 w wr vv (Bf ps t)) (fun _ iv _=>4096-(intOf iv).toNat)
 case atStart=>exact⟨0,Nat.zero_le _,rfl,HE.out⟩
 case round =>
  obtain⟨t,ht,rfl,hst⟩:=hrel;by_cases hlt:t<4096
  ·have hel:=In ps t;(have HSU:Hid (Bf ps (t+1)=Bf ps t++Mu ps t 3):=A9 <| by rw[Hi,Zs]);(obtain⟨l,hl⟩:∃l,Bf ps t=l:=⟨_,rfl⟩);rw[hl] at hst hel HSU;have HST:=A5 hst;(have LT:(0:Int)<=(t:Int):=by omega);(have LT2:(t:Int)<4096:=by omega);clear hl hst;(go_wp2_with fail);(go_loopw [3,5] (fun vv iv wr=>∃n:Nat,n<=3/\iv=.int .i64 ((n:Int)+1)/\Fd P7 w wr vv (l++Mu ps t n)) (fun _ iv _=>4-(intOf iv).toNat));(case atStart=>exact⟨0,Nat.zero_le _,rfl,by simpa [Mu] using HST.out⟩);case round =>
    obtain⟨n,hn,rfl,hst⟩:=hrel;(have hll:(l++Mu ps t n).length<=12300:=by rw[List.length_append];have:=RU ps t n;omega);by_cases hlt3:n<3
    ·have hcv:=ED ((n:Int)+1);(have hce:BX ((n:Int)+1)=(Ay (n+1):Nat):=by have:=Cx (n+1);simpa using this);have hcp:=Hu (n+1);(have hcm:Ay (n+1)<=256:=by unfold Ay;split<;>(try split)<;>omega);rw[hce] at hcv;have HUP:Hid (Mu ps t (n+1)=Mu ps t n++(if t%Ay (n+1)=0/\0<=AI ps ((n:Int)+1) ((t-t%(Ay (n+1)*16):Nat):Int) then [⟨(n:Int)+1,t,AI ps ((n:Int)+1) ((t-t%(Ay (n+1)*16):Nat):Int)*16+(t/Ay (n+1)%16:Nat)⟩] else [])):=A9 <| by
      show Mu ps t n++Dy ps t (n+1)=_;unfold Dy;rw[show ((n+1:Nat):Int)=(n:Int)+1 by omega]
     have hpg:((t-t%(Ay (n+1)*16):Nat):Int)=(t:Int)-(t:Int)%((Ay (n+1):Nat)*16:Int):=by
      have h1:t%(Ay (n+1)*16)<=t:=Nat.mod_le _ _;rw[Int.ofNat_sub h1];simp
     rw[hpg] at HUP;generalize Ay (n+1)=C at hcv hcp hcm HUP hpg;have Lm1:(0:Int)<=(t:Int)%((C:Int)*16):=Int.emod_nonneg _ (by omega);have Lm2:(t:Int)%((C:Int)*16)<=(t:Int):=by
      (have:(t:Int)%((C:Int)*16)=((t%(C*16):Nat):Int):=by simp);rw[this];exact Int.ofNat_le.2 (Nat.mod_le _ _)
     (have Ln3:(n:Int)+1<=3:=by omega);(have hC1:¬(C:Int)*16=0:=by omega);(have hC2:¬C=0:=by omega);have WC:=AR ((C:Int)*16);have WD:=AR ((t:Int)-(t:Int)%((C:Int)*16));clear hce hpg;by_cases hm:t%C=0
     ·have dm:((t:Int)%(C:Int)==0)=true:=by
       (have:(t:Int)%(C:Int)=((t%C:Nat):Int):=by simp);rw[this,hm];rfl
      (have hfr:=fun wX hX=>HFR.out ((n:Int)+1) ((t:Int)-(t:Int)%((C:Int)*16)) wX hX);have hfl:=HFB.out ((n:Int)+1) ((t:Int)-(t:Int)%((C:Int)*16));rw[show ((C:Nat)*16:Int)=(C:Int)*16 from rfl] at HUP;generalize AI ps ((n:Int)+1) ((t:Int)-(t:Int)%((C:Int)*16))=F at hfr hfl HUP;have hc1:=hfr wr hst.bel;(obtain⟨l2,hl2⟩:∃l2,l++Mu ps t n=l2:=⟨_,rfl⟩);rw[hl2] at hst hll;have HL2:=A5 hl2;clear hl2;obtain⟨⟨gv,cv,rfl,hrow⟩,hbel⟩:=hst;have hsz:=hbel.size;by_cases hF0:0<=F
      ·have HU2:Hid (Mu ps t (n+1)=Mu ps t n++[⟨(n:Int)+1,t,F*16+(t:Int)/(C:Int)%16⟩]):=A9 <| by
        rw[HUP.out,if_pos ⟨hm,hF0⟩];congr 3
       have HROW:=A5 hrow;have HB:=A5 hbel;have Lq1:(0:Int)<=(t:Int)/(C:Int)%16:=Int.emod_nonneg _ (by decide);have Lq3:(0:Int)<=(t:Int)/(C:Int):=Int.ediv_nonneg (by omega) (by omega);have Lq4:(t:Int)/(C:Int)<=4096:=Int.le_trans (Int.ediv_le_self _ (by omega)) (by omega);clear hm hrow hbel hfr;(go_wp2_with (first|(go_at_call 79;refine(hcv _).mono ?_;rintro e wE ⟨rfl,hwE⟩;obtain rfl:=hwE.symm)|(go_at_call 74;refine hc1.mono ?_;rintro e wE ⟨rfl,hwE⟩;obtain rfl:=hwE.symm)|(at_builtin;refine wpList_append_lies _ rfl (.tmp 34) (.tmp 45) 143 rfl w.heap.size 146 i0 _ 3 24 underlying143 hi hz0 hz1 hz2 rfl (by omega) _ _ _ rfl (World.ownsRow.alloc HROW.out _) ⟨wr.heap.size,0,none⟩ 1 1 [.int .i64 ((n:Int)+1),.int .i64 t,.int .i64 (F*16+(t:Int)/(C:Int)%16)] rfl rfl ?c1 ?c2 (by omega) ?c3 ?c4 ?c5 (wr.heap.size+1) ?c6 ?_)));(case c1=>exact World.news_of_block (heap_alloc_new wr (.cells #[.int .i64 ((n:Int)+1),.int .i64 t,.int .i64 (F*16+(t:Int)/(C:Int)%16)] 146)));(case c2=>intro u hu;simp at hu;rcases hu with rfl|rfl|rfl<;>rfl);(case c3=>unfold maxLen;omega);(case c4=>omega);(case c5=>simp;omega);(case c6=>simp);intro g1 cap1 wn hown hgrow hat hltz;have hstn:Fd P7 w wn (.slice (some ⟨g1,0,none⟩) (l2.length+1) cap1) (l2++[⟨(n:Int)+1,t,F*16+(t:Int)/(C:Int)%16⟩]):=Fd.push HB.out HROW.out hown hgrow;clear hown hgrow hat hltz;(go_wp2_with fail);go_roundw;(case rel=>exact⟨n+1,by omega,by go_num,by rw[HU2.out,<- List.append_assoc,HL2.out];exact hstn⟩);case measure=>simp[intOf];omega
      ·have dF:decide (0<=F)=false:=decide_eq_false hF0;have HU2:Hid (Mu ps t (n+1)=Mu ps t n):=A9 <| by
        rw[HUP.out,if_neg (fun h=>hF0 h.2),List.append_nil]
       have hst:Fd P7 w wr (.slice (some ⟨gv,0,none⟩) l2.length cv) l2:=⟨⟨gv,cv,rfl,hrow⟩,hbel⟩;clear hm hrow hbel hfr;(go_wp2_with (first|(go_at_call 79;refine(hcv _).mono ?_;rintro e wE ⟨rfl,hwE⟩;obtain rfl:=hwE.symm)|(go_at_call 74;refine hc1.mono ?_;rintro e wE ⟨rfl,hwE⟩;obtain rfl:=hwE.symm)));go_roundw;(case rel=>exact⟨n+1,by omega,by go_num,by rw[HU2.out,HL2.out];exact hst⟩);case measure=>simp[intOf];omega
     ·have dm:((t:Int)%(C:Int)==0)=false:=by
       (have:(t:Int)%(C:Int)=((t%C:Nat):Int):=by simp);rw[this];simpa using (show ¬((t%C:Nat):Int)=0 by omega)
      have HU2:Hid (Mu ps t (n+1)=Mu ps t n):=A9 <| by
       rw[HUP.out,if_neg (fun h=>hm h.1),List.append_nil]
      clear hm;(go_wp2_with (go_at_call 79;refine(hcv _).mono ?_;rintro e wE ⟨rfl,hwE⟩;obtain rfl:=hwE.symm));go_roundw;(case rel=>exact⟨n+1,by omega,by go_num,by rw[HU2.out];exact hst⟩);case measure=>simp[intOf];omega
    ·(have e:n=3:=by omega);subst e;(go_wp2_with fail);go_roundw;(case rel=>exact⟨t+1,by omega,by go_num,by rw[HSU.out];exact hst⟩);case measure=>simp[intOf];omega
  ·(have e:t=4096:=by omega);subst e;obtain⟨⟨gv,cv,rfl,hrow⟩,hbel⟩:=hst;(go_wp2_with fail);go_ret;exact⟨gv,cv,rfl,hrow,hbel⟩
end Go.Proofs.YtnmhkgmmpkjjeaaGreat
