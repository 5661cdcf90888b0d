import Derived.Test.YtnmhkgmmpkjjeaaGreatK03
namespace Go.Proofs.YtnmhkgmmpkjjeaaGreat
open Go.ChangeShapes Go.WideShapes Go.ChangeAt Go.RowKit
set_option linter.unusedVariables false
set_option maxRecDepth 100000
attribute [local go_sem ↓] Go.wp_at_zero Go.wp_at_succ
attribute [local go_sem] Cj Dv Dz FW Dw D0
theorem BA (c:UInt8) (w:World):Calls Tryz.prog 96 #[.int .u8 c.toNat] w fun e w'=>e=.returned (.bool (Qe c))/\w'=w:=by
 unfold Qe Md DA;obtain⟨n,hn⟩:∃n:Nat,c.toNat=n:=⟨_,rfl⟩
 rw[hn];clear hn;go_enter Tryz.func96,Tryz.ntmps96
 go_wp2
 all_goals
  go_ret
  refine⟨congrArg (fun b=>Ending.returned (Value.bool b)) ?_,rfl⟩
  rw[Bool.eq_iff_iff]
  simp
  omega
theorem Oy (l:Ap) (w:World) (hle:l.length<=20000):Calls Tryz.prog 33 #[.string (bs l)] w fun e w'=>e=.returned (.string (bs (Bn false l)))/\w'=w:=by
 go_enter Tryz.func33,Tryz.ntmps33
 go_wp2_with fail
 go_loopw [3,4,5] (fun ov bv iv wr=>∃(k:Nat) (O:Ap) (B:Bool),k<=l.length/\iv=.int .i64 k/\bv=.bool B/\ov=.string (bs O)/\Hid (O++Bn B (l.drop k)=Bn false l)/\Hid (O.length=k)/\wr=w) (fun _ _ iv _=>l.length-(intOf iv).toNat)
 case atStart=>exact⟨0,[],false,Nat.zero_le _,rfl,rfl,rfl,rfl,rfl,rfl⟩
 case round =>
  obtain⟨k,O,B,hk,rfl,rfl,rfl,HO,HK,rfl⟩:=hrel;by_cases hlt:k<l.length
  ·have HD:Hid _:=L9 hlt;have hcut:=Rn hlt;(obtain⟨c,hc⟩:∃c,KA l k=c:=⟨_,rfl⟩);rw[hc] at HD hcut;(have hO:O.length<9223372036854775807:=by have:=HK.out;omega);(have L1:(0:Int)<=(k:Int):=by omega);(have L2:(k:Int)<(l.length:Int):=by omega);(have L3:(0:Int)<=(k:Int)+1:=by omega);(have L4:(k:Int)+1<=(l.length:Int):=by omega);by_cases h35:c.toNat=35
   ·(have e1:((c.toNat:Int)==35)=true:=by simp[h35]);(have e2:((c.toNat:Int)==10)=false:=by simp[h35]);(have HN:Hid (OE B c=true):=A0 <| by unfold OE;simp[h35]);clear h35;(go_wp2_with fail);go_roundw;(case rel=>exact⟨k+1,O++[32],true,by omega,by go_num,rfl,rfl,A0 <| by rw[<- HO.out,HD.out];simp[Bn,HN.out],A0 <| by have:=HK.out;simp;omega,by first|rfl|trivial⟩);case measure=>simp[intOf];omega
   ·(have e1:((c.toNat:Int)==35)=false:=by simp;omega);by_cases h10:c.toNat=10
    ·(have e2:((c.toNat:Int)==10)=true:=by simp[h10]);(have HN:Hid (OE B c=false):=A0 <| by unfold OE;simp[h10]);clear h35 h10;(go_wp2_with fail);go_roundw;(case rel=>exact⟨k+1,O++[c],false,by omega,by go_num,rfl,rfl,A0 <| by rw[<- HO.out,HD.out];simp[Bn,HN.out],A0 <| by have:=HK.out;simp;omega,by first|rfl|trivial⟩);case measure=>simp[intOf];omega
    ·(have e2:((c.toNat:Int)==10)=false:=by simp;omega);(have HN:Hid (OE B c=B):=A0 <| by unfold OE;simp[h35,h10]);clear h35 h10;cases B
     ·(go_wp2_with fail);go_roundw;(case rel=>exact⟨k+1,O++[c],false,by omega,by go_num,rfl,rfl,A0 <| by rw[<- HO.out,HD.out];simp[Bn,HN.out],A0 <| by have:=HK.out;simp;omega,by first|rfl|trivial⟩);case measure=>simp[intOf];omega
     ·(go_wp2_with fail);go_roundw;(case rel=>exact⟨k+1,O++[32],true,by omega,by go_num,rfl,rfl,A0 <| by rw[<- HO.out,HD.out];simp[Bn,HN.out],A0 <| by have:=HK.out;simp;omega,by first|rfl|trivial⟩);case measure=>simp[intOf];omega
  ·have HE:Hid (Bn false l=O):=A0 <| by
    rw[<- HO.out,List.drop_eq_nil_of_le (by omega)];simp[Bn]
   (go_wp2_with fail);go_ret;exact⟨by rw[HE.out];rfl,rfl⟩
theorem Sg (l:Ap) (w:World) (hle:l.length<=20000):Calls Tryz.prog 34 #[.string (bs l)] w fun e w'=>e=.returned (.int .i64 (Ft 0 l))/\w'=w:=by
 go_enter Tryz.func34,Tryz.ntmps34
 go_wp2_with fail
 go_loopw [3] (fun iv wr=>∃(k:Nat),k<=l.length/\iv=.int .i64 k/\Hid (Ft k (l.drop k)=Ft 0 l)/\wr=w) (fun iv _=>l.length-(intOf iv).toNat)
 case atStart=>exact⟨0,Nat.zero_le _,rfl,rfl,rfl⟩
 case round =>
  obtain⟨k,hk,rfl,HO,rfl⟩:=hrel;by_cases hlt:k<l.length
  ·have HD:Hid _:=L9 hlt;(obtain⟨c,hc⟩:∃c,KA l k=c:=⟨_,rfl⟩);rw[hc] at HD;(have L1:(0:Int)<=(k:Int):=by omega);(have L2:(k:Int)<(l.length:Int):=by omega);cases hw:Qe c
   ·(have HB1:Hid (XF c=false->Ft 0 l=k):=A0 <| fun h=>by rw[<- HO.out,HD.out];simp[Ft,h]);(have HB2:Hid (XF c=true->Ft (k+1) (l.drop (k+1))=Ft 0 l):=A0 <| fun h=>by rw[<- HO.out,HD.out];simp[Ft,h]);have HW:Hid (Qe c=false):=hw;by_cases h1:c.toNat=32
    ·have HR:Hid _:=HB2.out (by unfold XF;simp[h1]);(have e1:((c.toNat:Int) != 32)=false:=by simp[h1]);clear h1;(go_wp2_with (go_at_call 96;refine(BA c _).mono ?_;rintro e w' ⟨rfl,rfl⟩));go_roundw;(case rel=>exact⟨k+1,by omega,by go_num,HR,by first|rfl|trivial⟩);case measure=>simp[intOf];omega
    ·(have e1:((c.toNat:Int) != 32)=true:=by simp;omega);by_cases h2:c.toNat=10
     ·have HR:Hid _:=HB2.out (by unfold XF;simp[h2]);(have e2:((c.toNat:Int) != 10)=false:=by simp[h2]);clear h1 h2;(go_wp2_with (go_at_call 96;refine(BA c _).mono ?_;rintro e w' ⟨rfl,rfl⟩));go_roundw;(case rel=>exact⟨k+1,by omega,by go_num,HR,by first|rfl|trivial⟩);case measure=>simp[intOf];omega
     ·(have e2:((c.toNat:Int) != 10)=true:=by simp;omega);by_cases h3:c.toNat=59
      ·have HR:Hid _:=HB2.out (by unfold XF;simp[h3]);(have e3:((c.toNat:Int) != 59)=false:=by simp[h3]);clear h1 h2 h3;(go_wp2_with (go_at_call 96;refine(BA c _).mono ?_;rintro e w' ⟨rfl,rfl⟩));go_roundw;(case rel=>exact⟨k+1,by omega,by go_num,HR,by first|rfl|trivial⟩);case measure=>simp[intOf];omega
      ·(have e3:((c.toNat:Int) != 59)=true:=by simp;omega);have HR:Hid _:=HB1.out (by unfold XF;simp[h1,h2,h3,HW.out]);clear h1 h2 h3;(go_wp2_with (go_at_call 96;refine(BA c _).mono ?_;rintro e w' ⟨rfl,rfl⟩));go_ret;exact⟨by rw[HR.out];rfl,rfl⟩
   ·(have HR:Hid (Ft (k+1) (l.drop (k+1))=Ft 0 l):=A0 <| by rw[<- HO.out,HD.out];simp[Ft,XF,hw]);(go_wp2_with (go_at_call 96;refine(BA c _).mono ?_;rintro e w' ⟨rfl,rfl⟩));go_roundw;(case rel=>exact⟨k+1,by omega,by go_num,HR,by first|rfl|trivial⟩);case measure=>simp[intOf];omega
  ·have HE:Hid (Ft 0 l=-1):=A0 <| by
    rw[<- HO.out,List.drop_eq_nil_of_le (by omega)];simp[Ft]
   (go_wp2_with fail);go_ret;exact⟨by rw[HE.out];rfl,rfl⟩
set_option maxHeartbeats 4000000 in
theorem Nk (l:Ap) (w:World) (hle:l.length<=20000):Calls Tryz.prog 35 #[.string (bs l)] w fun e w'=>∃v,e=.returned v/\LS Hr w w' v (Di [] l):=by
 obtain⟨i0,hi,hz0,hz1,hz2⟩:=info_parts Vm;have HS:Hid (LS Hr w (w.alloc (.cells #[] 93)) (.slice (some ⟨w.heap.size,0,none⟩) 0 0) []):=LS.new Hr w;go_enter Tryz.func35,Tryz.ntmps35
 go_wp2_with fail
 go_loopw [3,4,5] (fun vv sv iv wr=>∃(k:Nat) (T:List Ap) (W:Ap),k<=l.length+1/\iv=.int .i64 k/\sv=.string (bs W)/\LS Hr w wr vv T/\Hid (k<=l.length->T++Di W (l.drop k)=Di [] l)/\Hid (k=l.length+1->T=Di [] l)/\Hid (T.length+W.length<=k)) (fun _ _ iv _=>l.length+1-(intOf iv).toNat)
 case atStart=>exact⟨0,[],[],Nat.zero_le _,rfl,rfl,HS.out,A0 fun _=>rfl,A0 fun h=>by simp at h,A0 (by simp)⟩
 case round =>
  obtain⟨k,T,W,hk,rfl,rfl,hst,HT,HZ,HK⟩:=hrel;by_cases hlt:k<l.length
  ·have HD:Hid _:=L9 hlt;have hcut:=Rn hlt;(obtain⟨c,hc⟩:∃c,KA l k=c:=⟨_,rfl⟩);rw[hc] at HD hcut;(have HE:Hid (T++Di W (c :: l.drop (k+1))=Di [] l):=A0 <| by rw[<- HD.out];exact HT.out (by omega));(have hW:W.length<9223372036854775807:=by have:=HK.out;omega);(have L1:(0:Int)<=(k:Int):=by omega);(have L2:(k:Int)<(l.length:Int):=by omega);(have L3:(0:Int)<=(k:Int)+1:=by omega);(have L4:(k:Int)+1<=(l.length:Int):=by omega);(have L5:(k:Int)<=(l.length:Int):=by omega);cases hw:Qe c
   ·have HE2:Hid ((T++(Dl W++(if decide (c.toNat=59) then [[59]] else [])))++Di [] (l.drop (k+1))=Di [] l):=A0 <| by
     rw[<- HE.out,Di,hw];simp
    by_cases h59:c.toNat=59
    ·(have e59:((c.toNat:Int)==59)=true:=by simp[h59]);have HE3:Hid ((T++(Dl W++[[59]]))++Di [] (l.drop (k+1))=Di [] l):=A0 <| by
      rw[<- HE2.out,decide_eq_true h59];rfl
     clear h59;by_cases hWn:W=[]
     ·subst hWn;obtain⟨⟨gv1,cv1,rfl,hrow⟩,hbel⟩:=hst;have hsz1:=hbel.size;have HROW1:Hid _:=hrow;have HB1:Hid (Below _ w _):=hbel;(have hln1:T.length<=30000:=by have:=HK.out;omega);clear hrow hbel;(go_wp2_with (first|(go_at_call 96;refine(BA c _).mono ?_;rintro e w' ⟨rfl,rfl⟩)|(at_builtin;refine wpList_append_lies _ rfl (.tmp 48) (.tmp 50) 89 rfl w.heap.size 93 i0 _ 1 16 Tryz.underlying89 hi hz0 hz1 hz2 rfl (by omega) _ _ _ rfl (World.ownsRow.alloc HROW1.out _) ⟨_,0,none⟩ 1 1 [.string (bs [59])] rfl rfl ?c1 ?c2 (by omega) ?c3 ?c4 ?c5 _ rfl ?_)));(case c1=>exact World.news_of_block (heap_alloc_new _ (.cells #[.string (bs [59])] 93)));(case c2=>intro u hu;simp at hu;rcases hu with rfl;rfl);(case c3=>unfold maxLen;omega);(case c4=>omega);(case c5=>simp;omega);intro g1 cap1 wn1 hown hgrow hat hlt3;have hst1:=LS.push (E:=Hr) (x:=[59]) HB1.out HROW1.out hown hgrow;clear hown hgrow hat hlt3;(go_wp2_with fail);go_roundw;(case rel=>exact⟨k+1,T++[[59]],[],by omega,by go_num,rfl,hst1,A0 fun _=>HE3.out,A0 fun h=>absurd h (by omega),A0 (by have:=HK.out;simp at this ⊢;omega)⟩);case measure=>first|(simp[intOf];done)|(simp[intOf];omega)
     ·have h0:0<W.length:=List.length_pos_iff.2 hWn;(have HF:Hid (Dl W=[W]):=A0 <| by unfold Dl;rw[if_neg hWn]);clear hWn;obtain⟨⟨gv1,cv1,rfl,hrow⟩,hbel⟩:=hst;have hsz1:=hbel.size;have HROW1:Hid _:=hrow;have HB1:Hid (Below _ w _):=hbel;(have hln1:T.length<=30000:=by have:=HK.out;omega);clear hrow hbel;(go_wp2_with (first|(go_at_call 96;refine(BA c _).mono ?_;rintro e w' ⟨rfl,rfl⟩)|(at_builtin;refine wpList_append_lies _ rfl (.tmp 33) (.tmp 36) 89 rfl w.heap.size 93 i0 _ 1 16 Tryz.underlying89 hi hz0 hz1 hz2 rfl (by omega) _ _ _ rfl (World.ownsRow.alloc HROW1.out _) ⟨_,0,none⟩ 1 1 [.string (bs W)] rfl rfl ?c1 ?c2 (by omega) ?c3 ?c4 ?c5 _ rfl ?_)));(case c1=>exact World.news_of_block (heap_alloc_new _ (.cells #[.string (bs W)] 93)));(case c2=>intro u hu;simp at hu;rcases hu with rfl;rfl);(case c3=>unfold maxLen;omega);(case c4=>omega);(case c5=>simp;omega);intro g1 cap1 wn1 hown hgrow hat hlt3;have hst1:=LS.push (E:=Hr) (x:=W) HB1.out HROW1.out hown hgrow;clear hown hgrow hat hlt3;(obtain⟨T2,hT2⟩:∃T2,T++[W]=T2:=⟨_,rfl⟩);(have hT2l:T.length+1=T2.length:=by rw[<- hT2];simp);rw[hT2,hT2l] at hst1;rw[hT2l];have HT2:Hid _:=hT2;have HT2l:Hid _:=hT2l;clear hT2 hT2l;obtain⟨⟨gv2,cv2,eg2,hrow⟩,hbel⟩:=hst1;have hsz2:=hbel.size;have HROW2:Hid _:=hrow;have HB2:Hid (Below _ w _):=hbel;(have hln2:T2.length<=30000:=by have:=HK.out;have:=HT2l.out;omega);clear hrow hbel;simp only[Value.slice.injEq,Option.some.injEq,Addr.mk.injEq,and_true,true_and] at eg2;obtain⟨rfl,rfl⟩:=eg2;(go_wp2_with (at_builtin;refine wpList_append_lies _ rfl (.tmp 48) (.tmp 50) 89 rfl w.heap.size 93 i0 _ 1 16 Tryz.underlying89 hi hz0 hz1 hz2 rfl (by omega) _ _ _ rfl (World.ownsRow.alloc HROW2.out _) ⟨_,0,none⟩ 1 1 [.string (bs [59])] rfl rfl ?c1 ?c2 (by omega) ?c3 ?c4 ?c5 _ rfl ?_));(case c1=>exact World.news_of_block (heap_alloc_new _ (.cells #[.string (bs [59])] 93)));(case c2=>intro u hu;simp at hu;rcases hu with rfl;rfl);(case c3=>unfold maxLen;omega);(case c4=>omega);(case c5=>simp;omega);intro g2 cap2 wn2 hown hgrow hat hlt3;have hst2:=LS.push (E:=Hr) (x:=[59]) HB2.out HROW2.out hown hgrow;clear hown hgrow hat hlt3;(go_wp2_with fail);go_roundw;(case rel=>exact⟨k+1,T2++[[59]],[],by omega,by go_num,rfl,hst2,A0 fun _=>by rw[<- HE3.out,HF.out,<- HT2.out];simp,A0 fun h=>absurd h (by omega),A0 (by have:=HK.out;have:=HT2l.out;simp at this ⊢;omega)⟩);case measure=>first|(simp[intOf];done)|(simp[intOf];omega)
    ·(have e59:((c.toNat:Int)==59)=false:=by simp;omega);have HE3:Hid ((T++Dl W)++Di [] (l.drop (k+1))=Di [] l):=A0 <| by
      rw[<- HE2.out,decide_eq_false h59];simp
     clear h59;by_cases hWn:W=[]
     ·subst hWn;(go_wp2_with (go_at_call 96;refine(BA c _).mono ?_;rintro e w' ⟨rfl,rfl⟩));go_roundw;(case rel=>exact⟨k+1,T,[],by omega,by go_num,rfl,hst,A0 fun _=>by rw[<- HE3.out];simp[Dl],A0 fun h=>absurd h (by omega),A0 (by have:=HK.out;simp at this ⊢;omega)⟩);case measure=>first|(simp[intOf];done)|(simp[intOf];omega)
     ·have h0:0<W.length:=List.length_pos_iff.2 hWn;(have HF:Hid (Dl W=[W]):=A0 <| by unfold Dl;rw[if_neg hWn]);clear hWn;obtain⟨⟨gv1,cv1,rfl,hrow⟩,hbel⟩:=hst;have hsz1:=hbel.size;have HROW1:Hid _:=hrow;have HB1:Hid (Below _ w _):=hbel;(have hln1:T.length<=30000:=by have:=HK.out;omega);clear hrow hbel;(go_wp2_with (first|(go_at_call 96;refine(BA c _).mono ?_;rintro e w' ⟨rfl,rfl⟩)|(at_builtin;refine wpList_append_lies _ rfl (.tmp 33) (.tmp 36) 89 rfl w.heap.size 93 i0 _ 1 16 Tryz.underlying89 hi hz0 hz1 hz2 rfl (by omega) _ _ _ rfl (World.ownsRow.alloc HROW1.out _) ⟨_,0,none⟩ 1 1 [.string (bs W)] rfl rfl ?c1 ?c2 (by omega) ?c3 ?c4 ?c5 _ rfl ?_)));(case c1=>exact World.news_of_block (heap_alloc_new _ (.cells #[.string (bs W)] 93)));(case c2=>intro u hu;simp at hu;rcases hu with rfl;rfl);(case c3=>unfold maxLen;omega);(case c4=>omega);(case c5=>simp;omega);intro g1 cap1 wn1 hown hgrow hat hlt3;have hst1:=LS.push (E:=Hr) (x:=W) HB1.out HROW1.out hown hgrow;clear hown hgrow hat hlt3;(go_wp2_with fail);go_roundw;(case rel=>exact⟨k+1,T++[W],[],by omega,by go_num,rfl,hst1,A0 fun _=>by rw[<- HE3.out,HF.out],A0 fun h=>absurd h (by omega),A0 (by have:=HK.out;simp at this ⊢;omega)⟩);case measure=>first|(simp[intOf];done)|(simp[intOf];omega)
   ·have HE2:Hid (T++Di (W++[c]) (l.drop (k+1))=Di [] l):=A0 <| by
     rw[<- HE.out,Di,hw];simp
    (go_wp2_with (go_at_call 96;refine(BA c _).mono ?_;rintro e w' ⟨rfl,rfl⟩));go_roundw;(case rel=>exact⟨k+1,T,W++[c],by omega,by go_num,rfl,hst,A0 fun _=>HE2.out,A0 fun h=>absurd h (by omega),A0 (by have:=HK.out;simp;omega)⟩);case measure=>first|(simp[intOf];done)|(simp[intOf];omega)
  ·by_cases hz:k=l.length
   ·have HE:Hid (T++Dl W=Di [] l):=A0 <| by
     have:=HT.out (by omega);rw[hz,List.drop_length,Di] at this;exact this
    subst hz;(have L1:(0:Int)<=(l.length:Int):=by omega);by_cases hWn:W=[]
    ·subst hWn;(go_wp2_with fail);go_roundw;(case rel=>exact⟨l.length+1,T,[],by omega,by go_num,rfl,hst,A0 fun h=>absurd h (by omega),A0 fun _=>by rw[<- HE.out];simp[Dl],A0 (by have:=HK.out;simp at this ⊢;omega)⟩);case measure=>first|(simp[intOf];done)|(simp[intOf];omega)
    ·have h0:0<W.length:=List.length_pos_iff.2 hWn;(have HF:Hid (Dl W=[W]):=A0 <| by unfold Dl;rw[if_neg hWn]);clear hWn;obtain⟨⟨gv1,cv1,rfl,hrow⟩,hbel⟩:=hst;have hsz1:=hbel.size;have HROW1:Hid _:=hrow;have HB1:Hid (Below _ w _):=hbel;(have hln1:T.length<=30000:=by have:=HK.out;omega);clear hrow hbel;(go_wp2_with (at_builtin;refine wpList_append_lies _ rfl (.tmp 33) (.tmp 36) 89 rfl w.heap.size 93 i0 _ 1 16 Tryz.underlying89 hi hz0 hz1 hz2 rfl (by omega) _ _ _ rfl (World.ownsRow.alloc HROW1.out _) ⟨_,0,none⟩ 1 1 [.string (bs W)] rfl rfl ?c1 ?c2 (by omega) ?c3 ?c4 ?c5 _ rfl ?_));(case c1=>exact World.news_of_block (heap_alloc_new _ (.cells #[.string (bs W)] 93)));(case c2=>intro u hu;simp at hu;rcases hu with rfl;rfl);(case c3=>unfold maxLen;omega);(case c4=>omega);(case c5=>simp;omega);intro g1 cap1 wn1 hown hgrow hat hlt3;have hst1:=LS.push (E:=Hr) (x:=W) HB1.out HROW1.out hown hgrow;clear hown hgrow hat hlt3;(go_wp2_with fail);go_roundw;(case rel=>exact⟨l.length+1,T++[W],[],by omega,by go_num,rfl,hst1,A0 fun h=>absurd h (by omega),A0 fun _=>by rw[<- HE.out,HF.out],A0 (by have:=HK.out;simp at this ⊢;omega)⟩);case measure=>first|(simp[intOf];done)|(simp[intOf];omega)
   ·(have hz2:k=l.length+1:=by omega);have HE:Hid (T=Di [] l):=A0 (HZ.out hz2);subst hz2;(go_wp2_with fail);go_ret;refine⟨_,rfl,?_⟩;rw[<- HE.out];exact hst
end Go.Proofs.YtnmhkgmmpkjjeaaGreat
