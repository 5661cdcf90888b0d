import Derived.Test.YtnmhkgmmpkjjeaaGreatL12
namespace Go.Proofs.YtnmhkgmmpkjjeaaGreat
open Go.ChangeShapes Go.WideShapes Go.ChangeAt Go.RowKit
set_option linter.unusedVariables false
attribute [local go_sem ↓] Go.wp_at_zero Go.wp_at_succ
set_option maxHeartbeats 4000000 in
theorem KR (a:Option Addr) (cap b:Nat) (xs:List AF) (w:World) (hn:xs.length<=1048576) (hwf:∀i,i<xs.length->RY (AI A8 xs i)) (h:A6 A8 w b (.slice a xs.length cap) xs) : Calls Tryz.prog 39 #[.slice a xs.length cap] w fun e w'=>e=.returned (.bool (Eh xs))/\Below w.heap.size w w':=by
 obtain⟨g,hg,hcs⟩:=I5 h;have HG:Hid _:=hg;have HCS:Hid _:=hcs;have HWF:Hid _:=hwf;clear h hg hcs hwf;go_enter Tryz.func39,Tryz.ntmps39
 go_wp2_with fail
 go_loopw [7] (fun i wr=>∃k:Nat,k<=xs.length/\i=.int .i64 k/\Hid (∀j,j<k->AU (AI A8 xs j)=true)/\Hid (∀j,j+1<k->DB (AI A8 xs j) (AI A8 xs (j+1))=true)/\Below w.heap.size w wr) (fun i _=>xs.length-(intOf i).toNat)
 case atStart=>exact⟨0,Nat.zero_le _,rfl,fun j hj=>absurd hj (by omega),fun j hj=>absurd hj (by omega),Below.refl _ _⟩
 case round =>
  obtain⟨k,hk,rfl,hall,hpair,hbw⟩:=hrel;by_cases hlt:k<xs.length
  ·obtain⟨rfl,hgl⟩:=HG.out (by omega);(obtain⟨F,hF⟩:∃F,AI A8 xs k=F:=⟨_,rfl⟩);obtain⟨P2,C2,O2,R2,G2⟩:=F;obtain⟨c0,c1,c2,c3,c4⟩:=HCS.out k P2 C2 O2 R2 G2 hlt hF wr hbw;have hsw:=hbw.size;(obtain⟨wb,hwb⟩:∃wb,wb=wr.alloc (.cells #[.int .i64 P2,.int .i64 C2,.int .i64 O2,.int .i64 R2,.bool G2] 103):=⟨_,rfl⟩);(have hzb:wb.heap.size=wr.heap.size+1:=by rw[hwb];simp);(have hbb:Below w.heap.size w wb:=by rw[hwb];exact hbw.alloc hsw _);have hv:=Kv P2 C2 O2 R2 G2 wb (by rw[<- hF];exact HWF.out k hlt);have HBX:Hid (∀wX,Below wb.heap.size wb wX->wX.cell? ⟨wr.heap.size,0,none⟩=some (.int .i64 P2)/\wX.cell? ⟨wr.heap.size,1,none⟩=some (.int .i64 C2)/\wX.cell? ⟨wr.heap.size,2,none⟩=some (.int .i64 O2)/\wX.cell? ⟨wr.heap.size,3,none⟩=some (.int .i64 R2)/\wX.cell? ⟨wr.heap.size,4,none⟩=some (.bool G2)):=fun wX hX=>by
    refine⟨?_,?_,?_,?_,?_⟩;iterate 5 (exact(hX.cell (by simp;omega)).trans (by rw[hwb];simp[go_sem]))
   rw[hwb] at hv;have HWB:Hid (wb=_):=hwb;have HBB:Hid (Below w.heap.size w wb):=hbb;have HZ:Hid (wb.heap.size=_):=hzb;have HF:Hid (AI A8 xs k=_):=hF;(have L1:(0:Int)<=(k:Int):=by omega);(have L2:(k:Int)<(xs.length:Int):=by omega);clear hF hbw hwb hbb hzb;cases hok2:AU ⟨P2,C2,O2,R2,G2⟩<;>rw[hok2] at hv
   ·have HV:Hid (Eh xs=false):=Qf k hlt (by rw[HF.out];exact hok2);clear hok2;(go_wp2_with (go_at_call 106;refine hv.mono ?_;rintro e w1 ⟨rfl,hb1⟩));go_ret;refine⟨by rw[HV.out];rfl,?_⟩;rw[<- HWB.out] at hb1;exact HBB.out.trans (hb1.mono HBB.out.size)
   ·have HOK2:Hid (AU ⟨P2,C2,O2,R2,G2⟩=true):=hok2;clear hok2;(go_wp2_with (go_at_call 106;refine hv.mono ?_;rintro e w1 ⟨rfl,hb1⟩));rw[<- HWB.out] at hb1;have b1:Below w.heap.size w w1:=HBB.out.trans (hb1.mono HBB.out.size);have HB1:Hid (Below w.heap.size w w1):=b1;(have HK1:Hid (∀wX,Below w1.heap.size w1 wX->wX.cell? ⟨wr.heap.size,0,none⟩=some (.int .i64 P2)/\wX.cell? ⟨wr.heap.size,1,none⟩=some (.int .i64 C2)/\wX.cell? ⟨wr.heap.size,2,none⟩=some (.int .i64 O2)/\wX.cell? ⟨wr.heap.size,3,none⟩=some (.int .i64 R2)/\wX.cell? ⟨wr.heap.size,4,none⟩=some (.bool G2)):=fun wX hX=>HBX.out wX (hb1.trans (hX.mono hb1.size)));have hs1:=b1.size;clear hv c0 c1 c2 c3 c4;rcases Nat.eq_zero_or_pos k with hk0|hk0
    ·subst hk0;have HK:Hid (∀wX,Below w1.heap.size w1 wX->wX.cell? ⟨wr.heap.size,0,none⟩=some (.int .i64 P2)/\wX.cell? ⟨wr.heap.size,1,none⟩=some (.int .i64 C2)/\wX.cell? ⟨wr.heap.size,2,none⟩=some (.int .i64 O2)/\wX.cell? ⟨wr.heap.size,3,none⟩=some (.int .i64 R2)/\wX.cell? ⟨wr.heap.size,4,none⟩=some (.bool G2)):=HK1;clear hb1 b1;refine wp_region_held_drew (S:=(fun wX=>wX.cell? ⟨wr.heap.size,0,none⟩=some (.int .i64 P2)/\wX.cell? ⟨wr.heap.size,1,none⟩=some (.int .i64 C2)/\wX.cell? ⟨wr.heap.size,2,none⟩=some (.int .i64 O2)/\wX.cell? ⟨wr.heap.size,3,none⟩=some (.int .i64 R2)/\wX.cell? ⟨wr.heap.size,4,none⟩=some (.bool G2))) (by kernel_rfl) (HK.out _ ((Below.refl _ _).drew)) (fun hHeld=>?_);refine tk 0 ?_;refine tk 1 ?_;refine tk 2 ?_;refine sk 3 ?_;refine sk 4 ?_;refine sk 5 ?_;refine sk 6 ?_;refine sk 7 ?_;refine sk 8 ?_;refine sk 9 ?_;refine sk 10 ?_;refine sk 11 ?_;refine sk 12 ?_;refine sk 13 ?_;refine sk 14 ?_;refine sk 15 ?_;refine sk 16 ?_;refine sk 17 ?_;refine sk 18 ?_;refine sk 19 ?_;refine sk 20 ?_;refine tk 21 ?_;refine wpAnyH_done (by kernel_rfl) ?_ _;(go_wp2_with fail);go_roundw;case rel =>
      refine⟨0+1,by omega,by go_num,fun j hj=>?_,fun j hj=>absurd hj (by omega),HB1.out.trans ((Below.refl _ _).drew.mono hs1)⟩;(obtain rfl:j=0:=by omega);rw[HF.out];exact HOK2.out
     case measure=>simp[intOf];omega
    ·(obtain⟨m,rfl⟩:∃m,k=m+1:=⟨k-1,by omega⟩);(obtain⟨E,hE⟩:∃E,AI A8 xs m=E:=⟨_,rfl⟩);obtain⟨P,C,O,R,G⟩:=E;(have hok:AU ⟨P,C,O,R,G⟩=true:=by rw[<- hE];exact hall.out m (by omega));have hk7:=BF.1 hok;dsimp only at hk7;obtain⟨t1,t2,t3,_⟩:=hk7;have hse:=F6 P C O R G (by omega) (by omega) (by omega) (by omega);(have hj0:=fun wX=>RU P C O R G P2 C2 O2 R2 G2 wX hok);have HK:Hid (∀wX,Below w1.heap.size w1 wX->(wX.cell? ⟨wr.heap.size,0,none⟩=some (.int .i64 P2)/\wX.cell? ⟨wr.heap.size,1,none⟩=some (.int .i64 C2)/\wX.cell? ⟨wr.heap.size,2,none⟩=some (.int .i64 O2)/\wX.cell? ⟨wr.heap.size,3,none⟩=some (.int .i64 R2)/\wX.cell? ⟨wr.heap.size,4,none⟩=some (.bool G2))/\(wX.cell? ⟨g,m*5,none⟩=some (.int .i64 P)/\wX.cell? ⟨g,m*5+1,none⟩=some (.int .i64 C)/\wX.cell? ⟨g,m*5+2,none⟩=some (.int .i64 O)/\wX.cell? ⟨g,m*5+3,none⟩=some (.int .i64 R)/\wX.cell? ⟨g,m*5+4,none⟩=some (.bool G))):=fun wX hX =>
      ⟨HK1.out wX hX,HCS.out m P C O R G (by omega) hE wX (b1.trans (hX.mono hs1))⟩
     have HE:Hid (AI A8 xs m=_):=hE;have HOK:Hid (AU ⟨P,C,O,R,G⟩=true):=hok;(have L0:(0:Int)<=(m:Int)+1:=by omega);(have L3:(0:Int)<=(m:Int):=by omega);(have L4:(m:Int)<(xs.length:Int):=by omega);(have L5:(0:Int)<(m:Int)+1:=by omega);have D5:decide ((0:Int)<(m:Int)+1)=true:=decide_eq_true L5;(have W1:IntKind.i64.wrap ((m:Int)+1-1)=m:=by rw[IntKind.wrap_i64];omega);(have W3:IntKind.i64.wrap (m:Int)=m:=by rw[IntKind.wrap_i64];omega);clear hE hok hb1 b1;by_cases hlp:P2<P+C
     ·(have dl:decide (P2<P+C)=true:=by simpa using hlp);have HV:Hid (Eh xs=false):=JZ m hlt (by rw[HE.out,HF.out];unfold DB;simp;intro h;omega);clear hj0;refine wp_region_held_drew (S:=(fun wX=>(wX.cell? ⟨wr.heap.size,0,none⟩=some (.int .i64 P2)/\wX.cell? ⟨wr.heap.size,1,none⟩=some (.int .i64 C2)/\wX.cell? ⟨wr.heap.size,2,none⟩=some (.int .i64 O2)/\wX.cell? ⟨wr.heap.size,3,none⟩=some (.int .i64 R2)/\wX.cell? ⟨wr.heap.size,4,none⟩=some (.bool G2))/\(wX.cell? ⟨g,m*5,none⟩=some (.int .i64 P)/\wX.cell? ⟨g,m*5+1,none⟩=some (.int .i64 C)/\wX.cell? ⟨g,m*5+2,none⟩=some (.int .i64 O)/\wX.cell? ⟨g,m*5+3,none⟩=some (.int .i64 R)/\wX.cell? ⟨g,m*5+4,none⟩=some (.bool G)))) (by kernel_rfl) (HK.out _ ((Below.refl _ _).drew)) (fun hHeld=>?_);refine tk 0 ?_;refine tk 1 ?_;refine tk 2 ?_;refine tk 3 ?_;refine tk 4 ?_;refine tk 5 ?_;refine tk 6 ?_;refine tk 7 ?_;refine tk 8 ?_;refine tk 9 ?_;refine wpAnyH_ready (rs:=[10]) (by kernel_rfl) (by simp) ?_;refine AllReadyH.cons rfl (fun K hK=>?_) AllReadyH.nil;go_simp;(go_at_call 107);refine(hse _).mono ?_;rintro e w2 ⟨rfl,hb2⟩;(go_wp2_with fail);refine hK.out _ _ (by refine HK.out _ ?_;exact(Below.refl _ _).drew.trans (hb2.mono (by simp))) (fun hHeld2=>?_);clear hK K;refine tk 11 ?_;refine tk 12 ?_;refine sk 13 ?_;refine sk 14 ?_;refine sk 15 ?_;refine sk 16 ?_;refine sk 17 ?_;refine sk 18 ?_;refine sk 19 ?_;refine tk 20 ?_;refine tk 21 ?_;refine wpAnyH_done (by kernel_rfl) ?_ _;(go_wp2_with fail);go_ret;exact⟨by rw[HV.out];rfl,HB1.out.trans (((Below.refl _ _).drew.trans (hb2.mono (by simp))).mono hs1)⟩
     ·(have dl:decide (P2<P+C)=false:=by simpa using hlp);cases hjj:C5 ⟨P,C,O,R,G⟩ ⟨P2,C2,O2,R2,G2⟩<;>rw[hjj] at hj0
      ·have hj:=hj0;(have HPO:Hid (DB (AI A8 xs m) (AI A8 xs (m+1))=true):=by rw[HE.out,HF.out];unfold DB;rw[hjj];simp only[Bool.not_false,Bool.and_true,decide_eq_true_eq];exact Int.not_lt.1 hlp);clear hj0 hjj;refine wp_region_held_drew (S:=(fun wX=>(wX.cell? ⟨wr.heap.size,0,none⟩=some (.int .i64 P2)/\wX.cell? ⟨wr.heap.size,1,none⟩=some (.int .i64 C2)/\wX.cell? ⟨wr.heap.size,2,none⟩=some (.int .i64 O2)/\wX.cell? ⟨wr.heap.size,3,none⟩=some (.int .i64 R2)/\wX.cell? ⟨wr.heap.size,4,none⟩=some (.bool G2))/\(wX.cell? ⟨g,m*5,none⟩=some (.int .i64 P)/\wX.cell? ⟨g,m*5+1,none⟩=some (.int .i64 C)/\wX.cell? ⟨g,m*5+2,none⟩=some (.int .i64 O)/\wX.cell? ⟨g,m*5+3,none⟩=some (.int .i64 R)/\wX.cell? ⟨g,m*5+4,none⟩=some (.bool G)))) (by kernel_rfl) (HK.out _ ((Below.refl _ _).drew)) (fun hHeld=>?_);refine tk 0 ?_;refine tk 1 ?_;refine tk 2 ?_;refine tk 3 ?_;refine tk 4 ?_;refine tk 5 ?_;refine tk 6 ?_;refine tk 7 ?_;refine tk 8 ?_;refine tk 9 ?_;refine wpAnyH_ready (rs:=[10]) (by kernel_rfl) (by simp) ?_;refine AllReadyH.cons rfl (fun K hK=>?_) AllReadyH.nil;go_simp;(go_at_call 107);refine(hse _).mono ?_;rintro e w2 ⟨rfl,hb2⟩;(go_wp2_with fail);refine hK.out _ _ (by refine HK.out _ ?_;exact(Below.refl _ _).drew.trans (hb2.mono (by simp))) (fun hHeld2=>?_);clear hK K;refine tk 11 ?_;refine tk 12 ?_;refine tk 13 ?_;refine tk 14 ?_;refine tk 15 ?_;refine tk 16 ?_;refine tk 17 ?_;refine tk 18 ?_;refine wpAnyH_ready (rs:=[19]) (by kernel_rfl) (by simp) ?_;refine AllReadyH.cons rfl (fun K hK=>?_) AllReadyH.nil;go_simp;(go_at_call 108);refine(hj _).mono ?_;rintro e w3 ⟨rfl,hb3⟩;(go_wp2_with fail);refine hK.out _ _ (by refine HK.out _ ?_;exact((Below.refl _ _).drew.trans (hb2.mono (by simp))).trans (hb3.mono (by have:=hb2.size;simp at this;omega))) (fun hHeld2=>?_);clear hK K;refine tk 20 ?_;refine tk 21 ?_;refine wpAnyH_done (by kernel_rfl) ?_ _;(go_wp2_with fail);go_roundw;case rel =>
        refine⟨m+1+1,by omega,by go_num,fun j hj=>?_,fun j hj=>?_,HB1.out.trans (Below.mono ?_ hs1)⟩
        ·by_cases e:j=m+1
         ·rw[e,HF.out];exact HOK2.out
         ·exact hall.out j (by omega)
        ·by_cases e:j=m
         ·rw[e];exact HPO.out
         ·exact hpair.out j (by omega)
        ·exact((Below.refl _ _).drew.trans (hb2.mono (by simp))).trans (hb3.mono (by have:=hb2.size;simp at this;omega))
       case measure=>simp[intOf];omega
      ·have hj:=hj0;have HV:Hid (Eh xs=false):=JZ m hlt (by rw[HE.out,HF.out];unfold DB;rw[hjj];simp);clear hj0 hjj;refine wp_region_held_drew (S:=(fun wX=>(wX.cell? ⟨wr.heap.size,0,none⟩=some (.int .i64 P2)/\wX.cell? ⟨wr.heap.size,1,none⟩=some (.int .i64 C2)/\wX.cell? ⟨wr.heap.size,2,none⟩=some (.int .i64 O2)/\wX.cell? ⟨wr.heap.size,3,none⟩=some (.int .i64 R2)/\wX.cell? ⟨wr.heap.size,4,none⟩=some (.bool G2))/\(wX.cell? ⟨g,m*5,none⟩=some (.int .i64 P)/\wX.cell? ⟨g,m*5+1,none⟩=some (.int .i64 C)/\wX.cell? ⟨g,m*5+2,none⟩=some (.int .i64 O)/\wX.cell? ⟨g,m*5+3,none⟩=some (.int .i64 R)/\wX.cell? ⟨g,m*5+4,none⟩=some (.bool G)))) (by kernel_rfl) (HK.out _ ((Below.refl _ _).drew)) (fun hHeld=>?_);refine tk 0 ?_;refine tk 1 ?_;refine tk 2 ?_;refine tk 3 ?_;refine tk 4 ?_;refine tk 5 ?_;refine tk 6 ?_;refine tk 7 ?_;refine tk 8 ?_;refine tk 9 ?_;refine wpAnyH_ready (rs:=[10]) (by kernel_rfl) (by simp) ?_;refine AllReadyH.cons rfl (fun K hK=>?_) AllReadyH.nil;go_simp;(go_at_call 107);refine(hse _).mono ?_;rintro e w2 ⟨rfl,hb2⟩;(go_wp2_with fail);refine hK.out _ _ (by refine HK.out _ ?_;exact(Below.refl _ _).drew.trans (hb2.mono (by simp))) (fun hHeld2=>?_);clear hK K;refine tk 11 ?_;refine tk 12 ?_;refine tk 13 ?_;refine tk 14 ?_;refine tk 15 ?_;refine tk 16 ?_;refine tk 17 ?_;refine tk 18 ?_;refine wpAnyH_ready (rs:=[19]) (by kernel_rfl) (by simp) ?_;refine AllReadyH.cons rfl (fun K hK=>?_) AllReadyH.nil;go_simp;(go_at_call 108);refine(hj _).mono ?_;rintro e w3 ⟨rfl,hb3⟩;(go_wp2_with fail);refine hK.out _ _ (by refine HK.out _ ?_;exact((Below.refl _ _).drew.trans (hb2.mono (by simp))).trans (hb3.mono (by have:=hb2.size;simp at this;omega))) (fun hHeld2=>?_);clear hK K;refine tk 20 ?_;refine tk 21 ?_;refine wpAnyH_done (by kernel_rfl) ?_ _;(go_wp2_with fail);go_ret;exact⟨by rw[HV.out];rfl,HB1.out.trans ((((Below.refl _ _).drew.trans (hb2.mono (by simp))).trans (hb3.mono (by have:=hb2.size;simp at this;omega))).mono hs1)⟩
  ·have HV:Hid (Eh xs=true):=Nu ⟨fun i hi=>hall.out i (by omega),fun i hi=>hpair.out i (by omega)⟩;(go_wp2_with fail);go_ret;exact⟨by rw[HV.out];rfl,hbw⟩
theorem PP {W w1:World} (hb:Below W.heap.size W w1):(∀b o,b<W.heap.size->w1.cell? ⟨b,o,none⟩=W.cell? ⟨b,o,none⟩)/\(∀b o,b<W.heap.size->w1.frozen? ⟨b,o,none⟩=W.frozen? ⟨b,o,none⟩) :=
 ⟨fun b o h=>hb.cell (p:=⟨b,o,none⟩) h,fun b o h=>hb.frozen (p:=⟨b,o,none⟩) h⟩
theorem PW (ba bx g cap:Nat) (n k:Nat) (page P C O R:Int) (G:Bool) (w:World) (hk:k<n) (hn:n<=1048576) (hok:AU ⟨P,C,O,R,G⟩=true) (HK:Hid (∀wX,Below w.heap.size w wX->(wX.cell? ⟨ba,0,none⟩=some (.slice (some ⟨g,0,none⟩) n cap)/\wX.cell? ⟨bx,0,none⟩=some (.int .i64 page))/\(wX.cell? ⟨g,k*5,none⟩=some (.int .i64 P)/\wX.cell? ⟨g,k*5+1,none⟩=some (.int .i64 C)/\wX.cell? ⟨g,k*5+2,none⟩=some (.int .i64 O)/\wX.cell? ⟨g,k*5+3,none⟩=some (.int .i64 R)/\wX.cell? ⟨g,k*5+4,none⟩=some (.bool G)))) : Calls Tryz.prog 178 #[.int .i64 k,.pointer (some ⟨ba,0,none⟩),.pointer (some ⟨bx,0,none⟩)] w fun e w'=>e=.returned (.bool (decide (page<P+C)))/\Below w.heap.size w w':=by
 have hk7:=BF.1 hok;dsimp only at hk7;obtain⟨t1,t2,t3,_⟩:=hk7;have hse:=F6 P C O R G (by omega) (by omega) (by omega) (by omega);have L1:(0:Int)<=(k:Int):=by omega
 have L2:(k:Int)<(n:Int):=by omega
 clear hok;go_enter Tryz.func178,Tryz.ntmps178
 go_wp2_with fail
 go_region_held3 (fun wX=>(wX.cell? ⟨ba,0,none⟩=some (.slice (some ⟨g,0,none⟩) n cap)/\wX.cell? ⟨bx,0,none⟩=some (.int .i64 page))/\(wX.cell? ⟨g,k*5,none⟩=some (.int .i64 P)/\wX.cell? ⟨g,k*5+1,none⟩=some (.int .i64 C)/\wX.cell? ⟨g,k*5+2,none⟩=some (.int .i64 O)/\wX.cell? ⟨g,k*5+3,none⟩=some (.int .i64 R)/\wX.cell? ⟨g,k*5+4,none⟩=some (.bool G)))
  ((refine HK.out _ ?_;repeat (first|exact Below.refl _ _|with_reducible refine Below.drew ?_|refine Below.trans ?_ (hb1.mono (by first|omega|(simp<;>omega))))))
  (first|(go_at_call 107;refine(hse _).mono ?_;rintro e w1 ⟨rfl,hb1⟩))
 all_goals
  go_wp2_with fail
  go_ret
  exact⟨rfl,(Below.refl _ _).drew.trans (hb1.mono (by simp))⟩
set_option maxHeartbeats 2000000 in
theorem Q5 (ba bx:Nat) (n:Nat) (p:Nat->Bool) (w:World) (hn:n<=1048576) (hf:∀wX,Below w.heap.size w wX->∀i:Nat,i<n->Calls Tryz.prog 178 #[.int .i64 i,.pointer (some ⟨ba,0,none⟩),.pointer (some ⟨bx,0,none⟩)] wX fun e w'=>e=.returned (.bool (p i))/\Below wX.heap.size wX w') (hmono:∀a b,a<=b->b<n->p a=true->p b=true) : Calls Tryz.prog 177 #[.int .i64 n,.func (.func 178) #[] #[.pointer (some ⟨ba,0,none⟩),.pointer (some ⟨bx,0,none⟩)]] w fun e w'=>∃r:Nat,e=.returned (.int .i64 r)/\r<=n/\(∀t,t<r->p t=false)/\(∀t,r<=t->t<n->p t=true)/\Below w.heap.size w w':=by
 have HF:Hid _:=hf;have HM:Hid _:=hmono;clear hf hmono;go_enter Tryz.func177,Tryz.ntmps177
 go_wp2_with fail
 go_loopw [5,6] (fun s5 s6 wr=>∃(lo hi:Nat),s5=.int .i64 lo/\s6=.int .i64 hi/\lo<=hi/\hi<=n/\Hid ((∀t,t<lo->p t=false)/\(∀t,hi<=t->t<n->p t=true))/\Below w.heap.size w wr) (fun s5 s6 _=>(intOf s6).toNat-(intOf s5).toNat)
 case atStart=>exact⟨0,n,rfl,rfl,Nat.zero_le _,Nat.le_refl _,⟨fun t ht=>absurd ht (Nat.not_lt_zero _),fun t h1 h2=>by omega⟩,Below.refl _ _⟩
 case round =>
  obtain⟨lo,hi,rfl,rfl,hlh,hin,I,hb⟩:=hrel;by_cases hlt:lo<hi
  ·have hc:=HF.out wr hb ((lo+hi)/2) (by omega);rw[show (((lo+hi)/2:Nat):Int)=((lo:Int)+(hi:Int))/2 by omega] at hc;have HB:Hid (Below w.heap.size w wr):=hb;clear hb;cases hp:p ((lo+hi)/2)<;>rw[hp] at hc
   ·have HP:Hid (p ((lo+hi)/2)=false):=hp;clear hp;(go_wp2_with (go_at_call 178;refine hc.mono ?_;rintro e w' ⟨rfl,hb1⟩));go_roundw;case rel =>
     refine⟨(lo+hi)/2+1,hi,by rw[show ((lo:Int)+(hi:Int))/2+1=(((lo+hi)/2+1:Nat):Int) by omega],rfl,by omega,hin,⟨fun t ht=>?_,I.out.2⟩,HB.out.trans (hb1.mono HB.out.size)⟩;cases h:p t with
     | false=>rfl
     | true=>have:=HM.out t ((lo+hi)/2) (by omega) (by omega) h;rw[HP.out] at this;cases this
    case measure=>simp[intOf];omega
   ·have HP:Hid (p ((lo+hi)/2)=true):=hp;clear hp;(go_wp2_with (go_at_call 178;refine hc.mono ?_;rintro e w' ⟨rfl,hb1⟩));go_roundw;case rel =>
     exact⟨lo,(lo+hi)/2,rfl,by rw[show ((lo:Int)+(hi:Int))/2=(((lo+hi)/2:Nat):Int) by omega],by omega,by omega,⟨I.out.1,fun t ht htn=>HM.out ((lo+hi)/2) t ht htn HP.out⟩,HB.out.trans (hb1.mono HB.out.size)⟩
    case measure=>simp[intOf];omega
  ·(obtain rfl:hi=lo:=by omega);(go_wp2_with fail);go_ret;exact⟨hi,rfl,hin,I.out.1,I.out.2,hb⟩
theorem VB (P C O R:Int) (G:Bool) (page:Int) (w:World) (hok:AU ⟨P,C,O,R,G⟩=true) (hp0:0<=page) (hp1:page<4096) : Calls Tryz.prog 179 #[.agg #[.int .i64 P,.int .i64 C,.int .i64 O,.int .i64 R,.bool G],.int .i64 page] w fun e w'=>e=.returned (.bool (Cy ⟨P,C,O,R,G⟩ page))/\Below w.heap.size w w':=by
 have hk7:=BF.1 hok;dsimp only at hk7;obtain⟨t1,t2,t3,t4,t5,_⟩:=hk7;have hse:=F6 P C O R G (by omega) (by omega) (by omega) (by omega);have hm0:0<=page%16:=by omega
 have hm1:page%16<16:=by omega
 clear hok;cases G
 ·have hr:Cy ⟨P,C,O,R,false⟩ page=false:=rfl;rw[hr];clear hr hse;go_enter Tryz.func179,Tryz.ntmps179
  go_wp2_with fail
  go_ret;exact⟨rfl,(Below.refl _ _).alloc (Nat.le_refl _) _⟩
 ·by_cases h1:P<=page-page%16
  ·have d1:decide (P<=page-page%16)=true:=decide_eq_true h1;by_cases h2:page-page%16+16<=P+C
   ·have d2:decide (page-page%16+16<=P+C)=true:=decide_eq_true h2;by_cases h3:(O+(page-page%16)-P)%16=0
    ·(have d3:((O+(page-page%16)-P)%16==0)=true:=by rw[h3];rfl);(have hr:Cy ⟨P,C,O,R,true⟩ page=true:=by unfold Cy;dsimp only;rw[decide_eq_true ⟨h1,h2,h3⟩];rfl);rw[hr];clear hr h3;(go_enter Tryz.func179,Tryz.ntmps179);(go_wp2_with (go_at_call 107;refine(hse _).mono ?_;rintro e w1 ⟨rfl,hb1⟩;obtain⟨hc1,hf1⟩:=PP hb1));go_ret;exact⟨rfl,((Below.refl _ _).alloc (Nat.le_refl _) _).trans (hb1.mono (by simp))⟩
    ·(have d3:((O+(page-page%16)-P)%16==0)=false:=by simpa using h3);(have hr:Cy ⟨P,C,O,R,true⟩ page=false:=by unfold Cy;dsimp only;rw[decide_eq_false (fun h=>h3 h.2.2)];rfl);rw[hr];clear hr h3;(go_enter Tryz.func179,Tryz.ntmps179);(go_wp2_with (go_at_call 107;refine(hse _).mono ?_;rintro e w1 ⟨rfl,hb1⟩;obtain⟨hc1,hf1⟩:=PP hb1));go_ret;exact⟨rfl,((Below.refl _ _).alloc (Nat.le_refl _) _).trans (hb1.mono (by simp))⟩
   ·have d2:decide (page-page%16+16<=P+C)=false:=decide_eq_false h2;(have hr:Cy ⟨P,C,O,R,true⟩ page=false:=by unfold Cy;dsimp only;rw[decide_eq_false (fun h=>h2 h.2.1)];rfl);rw[hr];clear hr h2;(go_enter Tryz.func179,Tryz.ntmps179);(go_wp2_with (go_at_call 107;refine(hse _).mono ?_;rintro e w1 ⟨rfl,hb1⟩;obtain⟨hc1,hf1⟩:=PP hb1));go_ret;exact⟨rfl,((Below.refl _ _).alloc (Nat.le_refl _) _).trans (hb1.mono (by simp))⟩
  ·have d1:decide (P<=page-page%16)=false:=decide_eq_false h1;(have hr:Cy ⟨P,C,O,R,true⟩ page=false:=by unfold Cy;dsimp only;rw[decide_eq_false (fun h=>h1 h.1)];rfl);rw[hr];clear hr h1 hse;(go_enter Tryz.func179,Tryz.ntmps179);(go_wp2_with fail);go_ret;exact⟨rfl,(Below.refl _ _).alloc (Nat.le_refl _) _⟩
set_option maxHeartbeats 2000000 in
theorem RV (P C O R:Int) (G:Bool) (page:Int) (w:World) (hok:AU ⟨P,C,O,R,G⟩=true) (hp0:0<=page) (hp1:page<4096) : Calls Tryz.prog 132 #[.agg #[.int .i64 P,.int .i64 C,.int .i64 O,.int .i64 R,.bool G],.int .i64 page] w fun e w'=>e=.returned (.bool (Cy ⟨P,C,O,R,G⟩ page))/\Below w.heap.size w w':=by
 have hk7:=BF.1 hok;dsimp only at hk7;obtain⟨t1,t2,t3,t4,t5,_⟩:=hk7;have hm0:0<=page%16:=by omega
 have hm1:page%16<16:=by omega
 clear hok;cases G
 ·have hr:Cy ⟨P,C,O,R,false⟩ page=false:=rfl;rw[hr];clear hr;go_enter Tryz.func132,Tryz.ntmps132
  go_wp2_with fail
  go_ret;exact⟨rfl,(Below.refl _ _).alloc (Nat.le_refl _) _⟩
 ·obtain⟨wb,hwb⟩:∃wb,wb=w.alloc (.cells #[.int .i64 P,.int .i64 C,.int .i64 O,.int .i64 R,.bool true] 103):=⟨_,rfl⟩
  have hbb:Below w.heap.size w wb:=by rw[hwb];exact(Below.refl _ _).alloc (Nat.le_refl _) _
  have q0:wb.cell? ⟨w.heap.size,0,none⟩=some (.int .i64 P):=by rw[hwb];simp[go_sem]
  have q1:wb.cell? ⟨w.heap.size,1,none⟩=some (.int .i64 C):=by rw[hwb];simp[go_sem]
  have q2:wb.cell? ⟨w.heap.size,2,none⟩=some (.int .i64 O):=by rw[hwb];simp[go_sem]
  have HWB:Hid (wb=_):=hwb;have HBB:Hid (Below w.heap.size w wb):=hbb;clear hwb hbb;obtain⟨F,hF⟩:∃F,F=page-page%16:=⟨_,rfl⟩
  have f0:0<=F:=by omega
  have f1:F<4096:=by omega
  have HBG:Hid (Cy ⟨P,C,O,R,true⟩ page=decide (P<=F/\F+16<=P+C/\(O+F-P)%16=0)):=by rw[hF];rfl
  go_enter Tryz.func132,Tryz.ntmps132
  go_wp2_with fail
  rw[<- HWB.out];rw[<- hF];clear hF;go_loopw [6] (fun i wr=>∃k:Nat,k<=16/\i=.int .i64 k/\Hid (∀j:Nat,j<k->P<=F+j/\F+j<P+C)/\wr=wb) (fun i _=>16-(intOf i).toNat)
  case atStart=>exact⟨0,by omega,rfl,fun j hj=>absurd hj (by omega),rfl⟩
  case round =>
   obtain⟨k,hk,rfl,hall,rfl⟩:=hrel;by_cases hlt:k<16
   ·(have L1:(k:Int)<16:=by omega);(have L2:(0:Int)<=(k:Int):=by omega);by_cases h1:F+k<P
    ·have d1:decide (F+(k:Int)<P)=true:=decide_eq_true h1;(have hr:Cy ⟨P,C,O,R,true⟩ page=false:=by rw[HBG.out];exact decide_eq_false (by omega));have HR:Hid _:=hr;clear hr;(go_wp2_with fail);go_ret;exact⟨by rw[HR.out];rfl,HBB.out⟩
    ·have d1:decide (F+(k:Int)<P)=false:=decide_eq_false h1;by_cases h2:P+C<=F+k
     ·have d2:decide (P+C<=F+(k:Int))=true:=decide_eq_true h2;(have hr:Cy ⟨P,C,O,R,true⟩ page=false:=by rw[HBG.out];exact decide_eq_false (by omega));have HR:Hid _:=hr;clear hr;(go_wp2_with fail);go_ret;exact⟨by rw[HR.out];rfl,HBB.out⟩
     ·have d2:decide (P+C<=F+(k:Int))=false:=decide_eq_false h2;(go_wp2_with fail);go_roundw;case rel =>
       refine⟨k+1,by omega,by go_num,fun j hj=>?_,by first|rfl|trivial⟩;by_cases e:j=k
       ·rw[e];omega
       ·exact hall.out j (by omega)
      case measure=>simp[intOf];omega
   ·(obtain rfl:k=16:=by omega);have a0:=hall.out 0 (by omega);have a15:=hall.out 15 (by omega);(have hP:P<=F:=by omega);(have hE:F+16<=P+C:=by omega);by_cases h3:(O+F-P)%16=0
    ·(have d3:((O+F-P)%16==0)=true:=by rw[h3];rfl);(have hr:Cy ⟨P,C,O,R,true⟩ page=true:=by rw[HBG.out];exact decide_eq_true ⟨hP,hE,h3⟩);have HR:Hid _:=hr;clear hr hall a0 a15;(go_wp2_with fail);go_ret;exact⟨by rw[HR.out];rfl,HBB.out⟩
    ·(have d3:((O+F-P)%16==0)=false:=by simpa using h3);(have hr:Cy ⟨P,C,O,R,true⟩ page=false:=by rw[HBG.out];exact decide_eq_false (fun h=>h3 h.2.2));have HR:Hid _:=hr;clear hr hall a0 a15;(go_wp2_with fail);go_ret;exact⟨by rw[HR.out];rfl,HBB.out⟩
end Go.Proofs.YtnmhkgmmpkjjeaaGreat
