import Derived.Test.YtnmhkgmmpkjjeaaGreatG01
import Derived.Test.YtnmhkgmmpkjjeaaGreatG11
import Derived.Test.YtnmhkgmmpkjjeaaGreatG12
import Derived.Test.YtnmhkgmmpkjjeaaGreatG13
import Derived.Test.YtnmhkgmmpkjjeaaGreatG00
namespace Go.Proofs.YtnmhkgmmpkjjeaaGreat
open Go.ChangeShapes Go.WideShapes Go.ChangeAt Go.RowKit
set_option linter.unusedVariables false
set_option maxRecDepth 100000
attribute [local go_sem ↓] Go.wp_at_zero Go.wp_at_succ
attribute [local go_sem] bs_size bs_cAt bs_app bs_mk bs_cut bs_list
set_option maxHeartbeats 4000000 in
theorem l4Tokens_any (l:Txt) (w:World) (hle:l.length<=20000):Calls Tryz.prog 35 #[.string (bs l)] w fun e w'=>∃ v,e=.returned v/\LS eTok w w' v (tokL [] l):=by
 obtain ⟨i0,hi,hz0,hz1,hz2⟩:=info_parts infoTok
 have HS:Hid (LS eTok w (w.alloc (.cells #[] 93)) (.slice (some ⟨w.heap.size,0,none⟩) 0 0) []):=LS.new eTok w
 go_enter Tryz.func35,Tryz.ntmps35
 go_wp2_with fail
 go_loopw [3,4,5] (fun vv sv iv wr=>∃ (k:Nat) (T:List Txt) (W:Txt),k<=l.length+1/\iv=.int .i64 k/\sv=.string (bs W)/\LS eTok w wr vv T/\Hid (k<=l.length->T ++ tokL W (l.drop k)=tokL [] l)/\Hid (k=l.length+1->T=tokL [] l)/\Hid (T.length+W.length<=k)) (fun _ _ iv _=>l.length+1 - (intOf iv).toNat)
 case atStart=>exact ⟨0,[],[],Nat.zero_le _,rfl,rfl,HS.out,hidP fun _=>rfl,hidP fun h=>by simp at h,hidP (by simp)⟩
 case round =>
  obtain ⟨k,T,W,hk,rfl,rfl,hst,HT,HZ,HK⟩:=hrel
  by_cases hlt:k < l.length
  ·have HD:Hid _:=drop_cAt hlt
   have hcut:=cut_cAt hlt
   obtain ⟨c,hc⟩:∃ c,cAt l k=c:=⟨_,rfl⟩
   rw [hc] at HD hcut
   have HE:Hid (T ++ tokL W (c :: l.drop (k+1))=tokL [] l):=hidP <| by rw [<- HD.out]; exact HT.out (by omega)
   have hW:W.length < 9223372036854775807:=by have:=HK.out; omega
   have L1:(0:Int)<=(k:Int):=by omega
   have L2:(k:Int) < (l.length:Int):=by omega
   have L3:(0:Int)<=(k:Int)+1:=by omega
   have L4:(k:Int)+1<=(l.length:Int):=by omega
   have L5:(k:Int)<=(l.length:Int):=by omega
   cases hw:isWd c
   ·have HE2:Hid ((T ++ (flush W ++ (if decide (c.toNat=59) then [[59]] else []))) ++ tokL [] (l.drop (k+1))=tokL [] l):=hidP <| by
     rw [<- HE.out,tokL,hw]; simp
    by_cases h59:c.toNat=59
    ·have e59:((c.toNat:Int) == 59)=true:=by simp [h59]
     have HE3:Hid ((T ++ (flush W ++ [[59]])) ++ tokL [] (l.drop (k+1))=tokL [] l):=hidP <| by
      rw [<- HE2.out,decide_eq_true h59]; rfl
     clear h59
     by_cases hWn:W=[]
     ·subst hWn
      obtain ⟨⟨gv1,cv1,rfl,hrow⟩,hbel⟩:=hst
      have hsz1:=hbel.size
      have HROW1:Hid _:=hrow
      have HB1:Hid (Below _ w _):=hbel
      have hln1:T.length<=30000:=by have:=HK.out; omega
      clear hrow hbel
      go_wp2_with (first | (go_at_call 96; refine (l4WordByte_any c _).mono ?_; rintro e w' ⟨rfl,rfl⟩) | (at_builtin; refine wpList_append_lies _ rfl (.tmp 48) (.tmp 50) 89 rfl w.heap.size 93 i0 _ 1 16 Tryz.underlying89 hi hz0 hz1 hz2 rfl (by omega) _ _ _ rfl (World.ownsRow.alloc HROW1.out _) ⟨_,0,none⟩ 1 1 [.string (bs [59])] rfl rfl ?c1 ?c2 (by omega) ?c3 ?c4 ?c5 _ rfl ?_))
      case c1=>exact World.news_of_block (heap_alloc_new _ (.cells #[.string (bs [59])] 93))
      case c2=>intro u hu; simp at hu; rcases hu with rfl; rfl
      case c3=>unfold maxLen; omega
      case c4=>omega
      case c5=>simp; omega
      intro g1 cap1 wn1 hown hgrow hat hlt3
      have hst1:=LS.push (E:=eTok) (x:=[59]) HB1.out HROW1.out hown hgrow
      clear hown hgrow hat hlt3
      go_wp2_with fail
      go_roundw
      case rel=>exact ⟨k+1,T ++ [[59]],[],by omega,by go_num,rfl,hst1,hidP fun _=>HE3.out,hidP fun h=>absurd h (by omega),hidP (by have:=HK.out; simp at this ⊢; omega)⟩
      case measure=>first | (simp [intOf]; done) | (simp [intOf]; omega)
     ·have h0:0 < W.length:=List.length_pos_iff.2 hWn
      have HF:Hid (flush W=[W]):=hidP <| by unfold flush; rw [if_neg hWn]
      clear hWn
      obtain ⟨⟨gv1,cv1,rfl,hrow⟩,hbel⟩:=hst
      have hsz1:=hbel.size
      have HROW1:Hid _:=hrow
      have HB1:Hid (Below _ w _):=hbel
      have hln1:T.length<=30000:=by have:=HK.out; omega
      clear hrow hbel
      go_wp2_with (first | (go_at_call 96; refine (l4WordByte_any c _).mono ?_; rintro e w' ⟨rfl,rfl⟩) | (at_builtin; refine wpList_append_lies _ rfl (.tmp 33) (.tmp 36) 89 rfl w.heap.size 93 i0 _ 1 16 Tryz.underlying89 hi hz0 hz1 hz2 rfl (by omega) _ _ _ rfl (World.ownsRow.alloc HROW1.out _) ⟨_,0,none⟩ 1 1 [.string (bs W)] rfl rfl ?c1 ?c2 (by omega) ?c3 ?c4 ?c5 _ rfl ?_))
      case c1=>exact World.news_of_block (heap_alloc_new _ (.cells #[.string (bs W)] 93))
      case c2=>intro u hu; simp at hu; rcases hu with rfl; rfl
      case c3=>unfold maxLen; omega
      case c4=>omega
      case c5=>simp; omega
      intro g1 cap1 wn1 hown hgrow hat hlt3
      have hst1:=LS.push (E:=eTok) (x:=W) HB1.out HROW1.out hown hgrow
      clear hown hgrow hat hlt3
      obtain ⟨T2,hT2⟩:∃ T2,T ++ [W]=T2:=⟨_,rfl⟩
      have hT2l:T.length+1=T2.length:=by rw [<- hT2]; simp
      rw [hT2,hT2l] at hst1
      rw [hT2l]
      have HT2:Hid _:=hT2
      have HT2l:Hid _:=hT2l
      clear hT2 hT2l
      obtain ⟨⟨gv2,cv2,eg2,hrow⟩,hbel⟩:=hst1
      have hsz2:=hbel.size
      have HROW2:Hid _:=hrow
      have HB2:Hid (Below _ w _):=hbel
      have hln2:T2.length<=30000:=by have:=HK.out; have:=HT2l.out; omega
      clear hrow hbel
      simp only [Value.slice.injEq,Option.some.injEq,Addr.mk.injEq,and_true,true_and] at eg2
      obtain ⟨rfl,rfl⟩:=eg2
      go_wp2_with (at_builtin; refine wpList_append_lies _ rfl (.tmp 48) (.tmp 50) 89 rfl w.heap.size 93 i0 _ 1 16 Tryz.underlying89 hi hz0 hz1 hz2 rfl (by omega) _ _ _ rfl (World.ownsRow.alloc HROW2.out _) ⟨_,0,none⟩ 1 1 [.string (bs [59])] rfl rfl ?c1 ?c2 (by omega) ?c3 ?c4 ?c5 _ rfl ?_)
      case c1=>exact World.news_of_block (heap_alloc_new _ (.cells #[.string (bs [59])] 93))
      case c2=>intro u hu; simp at hu; rcases hu with rfl; rfl
      case c3=>unfold maxLen; omega
      case c4=>omega
      case c5=>simp; omega
      intro g2 cap2 wn2 hown hgrow hat hlt3
      have hst2:=LS.push (E:=eTok) (x:=[59]) HB2.out HROW2.out hown hgrow
      clear hown hgrow hat hlt3
      go_wp2_with fail
      go_roundw
      case rel=>exact ⟨k+1,T2 ++ [[59]],[],by omega,by go_num,rfl,hst2,hidP fun _=>by rw [<- HE3.out,HF.out,<- HT2.out]; simp,hidP fun h=>absurd h (by omega),hidP (by have:=HK.out; have:=HT2l.out; simp at this ⊢; omega)⟩
      case measure=>first | (simp [intOf]; done) | (simp [intOf]; omega)
    ·have e59:((c.toNat:Int) == 59)=false:=by simp; omega
     have HE3:Hid ((T ++ flush W) ++ tokL [] (l.drop (k+1))=tokL [] l):=hidP <| by
      rw [<- HE2.out,decide_eq_false h59]; simp
     clear h59
     by_cases hWn:W=[]
     ·subst hWn
      go_wp2_with (go_at_call 96; refine (l4WordByte_any c _).mono ?_; rintro e w' ⟨rfl,rfl⟩)
      go_roundw
      case rel=>exact ⟨k+1,T,[],by omega,by go_num,rfl,hst,hidP fun _=>by rw [<- HE3.out]; simp [flush],hidP fun h=>absurd h (by omega),hidP (by have:=HK.out; simp at this ⊢; omega)⟩
      case measure=>first | (simp [intOf]; done) | (simp [intOf]; omega)
     ·have h0:0 < W.length:=List.length_pos_iff.2 hWn
      have HF:Hid (flush W=[W]):=hidP <| by unfold flush; rw [if_neg hWn]
      clear hWn
      obtain ⟨⟨gv1,cv1,rfl,hrow⟩,hbel⟩:=hst
      have hsz1:=hbel.size
      have HROW1:Hid _:=hrow
      have HB1:Hid (Below _ w _):=hbel
      have hln1:T.length<=30000:=by have:=HK.out; omega
      clear hrow hbel
      go_wp2_with (first | (go_at_call 96; refine (l4WordByte_any c _).mono ?_; rintro e w' ⟨rfl,rfl⟩) | (at_builtin; refine wpList_append_lies _ rfl (.tmp 33) (.tmp 36) 89 rfl w.heap.size 93 i0 _ 1 16 Tryz.underlying89 hi hz0 hz1 hz2 rfl (by omega) _ _ _ rfl (World.ownsRow.alloc HROW1.out _) ⟨_,0,none⟩ 1 1 [.string (bs W)] rfl rfl ?c1 ?c2 (by omega) ?c3 ?c4 ?c5 _ rfl ?_))
      case c1=>exact World.news_of_block (heap_alloc_new _ (.cells #[.string (bs W)] 93))
      case c2=>intro u hu; simp at hu; rcases hu with rfl; rfl
      case c3=>unfold maxLen; omega
      case c4=>omega
      case c5=>simp; omega
      intro g1 cap1 wn1 hown hgrow hat hlt3
      have hst1:=LS.push (E:=eTok) (x:=W) HB1.out HROW1.out hown hgrow
      clear hown hgrow hat hlt3
      go_wp2_with fail
      go_roundw
      case rel=>exact ⟨k+1,T ++ [W],[],by omega,by go_num,rfl,hst1,hidP fun _=>by rw [<- HE3.out,HF.out],hidP fun h=>absurd h (by omega),hidP (by have:=HK.out; simp at this ⊢; omega)⟩
      case measure=>first | (simp [intOf]; done) | (simp [intOf]; omega)
   ·have HE2:Hid (T ++ tokL (W ++ [c]) (l.drop (k+1))=tokL [] l):=hidP <| by
     rw [<- HE.out,tokL,hw]; simp
    go_wp2_with (go_at_call 96; refine (l4WordByte_any c _).mono ?_; rintro e w' ⟨rfl,rfl⟩)
    go_roundw
    case rel=>exact ⟨k+1,T,W ++ [c],by omega,by go_num,rfl,hst,hidP fun _=>HE2.out,hidP fun h=>absurd h (by omega),hidP (by have:=HK.out; simp; omega)⟩
    case measure=>first | (simp [intOf]; done) | (simp [intOf]; omega)
  ·by_cases hz:k=l.length
   ·have HE:Hid (T ++ flush W=tokL [] l):=hidP <| by
     have:=HT.out (by omega)
     rw [hz,List.drop_length,tokL] at this
     exact this
    subst hz
    have L1:(0:Int)<=(l.length:Int):=by omega
    by_cases hWn:W=[]
    ·subst hWn
     go_wp2_with fail
     go_roundw
     case rel=>exact ⟨l.length+1,T,[],by omega,by go_num,rfl,hst,hidP fun h=>absurd h (by omega),hidP fun _=>by rw [<- HE.out]; simp [flush],hidP (by have:=HK.out; simp at this ⊢; omega)⟩
     case measure=>first | (simp [intOf]; done) | (simp [intOf]; omega)
    ·have h0:0 < W.length:=List.length_pos_iff.2 hWn
     have HF:Hid (flush W=[W]):=hidP <| by unfold flush; rw [if_neg hWn]
     clear hWn
     obtain ⟨⟨gv1,cv1,rfl,hrow⟩,hbel⟩:=hst
     have hsz1:=hbel.size
     have HROW1:Hid _:=hrow
     have HB1:Hid (Below _ w _):=hbel
     have hln1:T.length<=30000:=by have:=HK.out; omega
     clear hrow hbel
     go_wp2_with (at_builtin; refine wpList_append_lies _ rfl (.tmp 33) (.tmp 36) 89 rfl w.heap.size 93 i0 _ 1 16 Tryz.underlying89 hi hz0 hz1 hz2 rfl (by omega) _ _ _ rfl (World.ownsRow.alloc HROW1.out _) ⟨_,0,none⟩ 1 1 [.string (bs W)] rfl rfl ?c1 ?c2 (by omega) ?c3 ?c4 ?c5 _ rfl ?_)
     case c1=>exact World.news_of_block (heap_alloc_new _ (.cells #[.string (bs W)] 93))
     case c2=>intro u hu; simp at hu; rcases hu with rfl; rfl
     case c3=>unfold maxLen; omega
     case c4=>omega
     case c5=>simp; omega
     intro g1 cap1 wn1 hown hgrow hat hlt3
     have hst1:=LS.push (E:=eTok) (x:=W) HB1.out HROW1.out hown hgrow
     clear hown hgrow hat hlt3
     go_wp2_with fail
     go_roundw
     case rel=>exact ⟨l.length+1,T ++ [W],[],by omega,by go_num,rfl,hst1,hidP fun h=>absurd h (by omega),hidP fun _=>by rw [<- HE.out,HF.out],hidP (by have:=HK.out; simp at this ⊢; omega)⟩
     case measure=>first | (simp [intOf]; done) | (simp [intOf]; omega)
   ·have hz2:k=l.length+1:=by omega
    have HE:Hid (T=tokL [] l):=hidP (HZ.out hz2)
    subst hz2
    go_wp2_with fail
    go_ret
    refine ⟨_,rfl,?_⟩
    rw [<- HE.out]
    exact hst
end Go.Proofs.YtnmhkgmmpkjjeaaGreat
namespace Go.Proofs.YtnmhkgmmpkjjeaaGreat
open Go.ChangeShapes Go.WideShapes Go.ChangeAt Go.RowKit
set_option linter.unusedVariables false
set_option maxRecDepth 100000
theorem stmtL_kind (ts:List Txt):(stmtL ts).kind=0\/(stmtL ts).kind=1\/(stmtL ts).kind=2\/(stmtL ts).kind=3:=by
 unfold stmtL objL regL grdL
 repeat' split
 all_goals simp [noSt]
theorem l4Code_any (a:Option Addr) (c:Nat) (all:List St) (s:St) (w:World) (hle:all.length<=1000) (hr:StR w a all) (hall:∀ t ∈ all,StOk t) (hs:StOk s) (hk:s.kind=0\/s.kind=1\/s.kind=2\/s.kind=3) :
  Calls Tryz.prog 37 #[.slice a all.length c,stV s] w fun e w'=>e=.returned (.int .i64 (codeL all s))/\Below w.heap.size w w':=by
 obtain ⟨K,M,A,B,P,X⟩:=s
 dsimp only at hk
 rcases hk with rfl | rfl | rfl | rfl
 ·have e:codeL all ⟨0,M,A,B,P,X⟩=4:=rfl
  rw [e]
  exact code_0 a c all M A B P X w
 ·exact code_1 a c all M A B P X w hle hr hall ⟨hs.a0,hs.a1⟩ ⟨hs.b0,hs.b1⟩
 ·exact code_2 a c all M A B P X w hle hr hall hs
 ·exact code_3 a c all M A B P X w hle hr hall hs
def endsTo (ts:List Txt) (k:Nat):List Nat:=(List.range k).filter (fun i=>tAt ts i == [59])
theorem endsTo_succ (ts:List Txt) (k:Nat):endsTo ts (k+1)=if tAt ts k == [59] then endsTo ts k ++ [k] else endsTo ts k:=by
 unfold endsTo
 rw [List.range_succ,List.filter_append,List.filter_cons]
 split <;> simp
theorem endsTo_len (ts:List Txt) (k:Nat):(endsTo ts k).length<=k:=by
 unfold endsTo
 exact Nat.le_trans (List.length_filter_le _ _) (by simp)
theorem endsTo_lt (ts:List Txt) (k:Nat):∀ e ∈ endsTo ts k,e < k:=fun e he=>List.mem_range.1 (List.mem_filter.1 he).1
theorem endsTo_sorted (ts:List Txt) (k:Nat):(endsTo ts k).Pairwise (fun a b=>a < b):=List.Pairwise.filter _ (List.pairwise_lt_range)
def enAt (es:List Nat) (k:Nat):Nat:=es.getD k 0
def fromAt (es:List Nat):Nat->Nat
 | 0=>0
 | k+1=>enAt es k+1
def subL (ts:List Txt) (i j:Nat):List Txt:=(ts.drop i).take (j - i)
def stK (ts:List Txt) (es:List Nat) (k:Nat):St:=stmtL (subL ts (fromAt es k) (enAt es k))
def allTo (ts:List Txt) (es:List Nat) (k:Nat):List St:=(List.range k).map (stK ts es)
def codeK (ts:List Txt) (es:List Nat) (k:Nat):Int:=codeL (allTo ts es k) (stK ts es k)
theorem allTo_succ (ts:List Txt) (es:List Nat) (k:Nat):allTo ts es (k+1)=allTo ts es k ++ [stK ts es k]:=by
 unfold allTo
 rw [List.range_succ,List.map_append]
 rfl
theorem allTo_len (ts:List Txt) (es:List Nat) (k:Nat):(allTo ts es k).length=k:=by unfold allTo; simp
theorem allTo_ok (ts:List Txt) (es:List Nat) (k:Nat):∀ s ∈ allTo ts es k,StOk s:=by
 intro s hs
 unfold allTo at hs
 obtain ⟨i,_,rfl⟩:=List.mem_map.1 hs
 exact stmtL_ok _
theorem from_le {ts:List Txt} {n k:Nat} (h:k < (endsTo ts n).length):fromAt (endsTo ts n) k<=enAt (endsTo ts n) k/\enAt (endsTo ts n) k < n:=by
 have hm:enAt (endsTo ts n) k ∈ endsTo ts n:=by
  unfold enAt
  rw [List.getD_eq_getElem?_getD,List.getElem?_eq_getElem h]
  exact List.getElem_mem h
 refine ⟨?_,endsTo_lt ts n _ hm⟩
 cases k with
 | zero=>exact Nat.zero_le _
 | succ k =>
  have:=List.pairwise_iff_getElem.1 (endsTo_sorted ts n) k (k+1) (by omega) h (by omega)
  show enAt _ k+1<=enAt _ (k+1)
  unfold enAt
  rw [List.getD_eq_getElem?_getD,List.getD_eq_getElem?_getD,List.getElem?_eq_getElem h,List.getElem?_eq_getElem (by omega)]
  exact this
theorem from_le2 {ts:List Txt} {n k:Nat} (h:k<=(endsTo ts n).length):fromAt (endsTo ts n) k<=n:=by
 cases k with
 | zero=>exact Nat.zero_le _
 | succ k =>
  have:=(from_le (ts:=ts) (n:=n) (k:=k) (by omega)).2
  show enAt _ k+1<=n
  omega
def polE (ts:List Txt) (es:List Nat):List SpanE × Int × Int :=
 match (List.range es.length).find? (fun k=>!(codeK ts es k == 0)) with
 | some k=>([],codeK ts es k,(k:Nat))
 | none=>if fromAt es es.length < ts.length then ([],4,(es.length:Nat)) else (spansTo (allTo ts es es.length) 4096,0,0)
def polT (ts:List Txt):List SpanE × Int × Int :=
 if 1000 < (endsTo ts ts.length).length then ([],3,1000) else polE ts (endsTo ts ts.length)
def polL (text:Txt):List SpanE × Int × Int :=
 if 20000 < text.length then ([],1,0)
 else if 0<=badL 0 (blankL false text) then ([],2,badL 0 (blankL false text))
 else polT (tokL [] (blankL false text))
theorem polE_bad {ts:List Txt} {es:List Nat} {k:Nat} (hk:k < es.length) (h:∀ j,j < k->codeK ts es j=0) (h2:codeK ts es k ≠ 0):polE ts es=([],codeK ts es k,((k:Nat):Int)):=by
 unfold polE
 have e:(List.range es.length).find? (fun k=>!(codeK ts es k == 0))=some k:=by
  have e1:es.length=k+((es.length - k - 1)+1):=by omega
  rw [e1,List.range_add,List.find?_append,List.range_succ_eq_map,List.map_cons,List.find?_cons_of_pos (by simpa using h2)]
  have:(List.range k).find? (fun k=>!(codeK ts es k == 0))=none:=by
   rw [List.find?_eq_none]
   intro x hx
   rw [h x (List.mem_range.1 hx)]; decide
  rw [this]
  rfl
 rw [e]
theorem polE_good {ts:List Txt} {es:List Nat} (h:∀ j,j < es.length->codeK ts es j=0):polE ts es=if fromAt es es.length < ts.length then ([],(4:Int),((es.length:Nat):Int)) else (spansTo (allTo ts es es.length) 4096,(0:Int),(0:Int)):=by
 unfold polE
 have:(List.range es.length).find? (fun k=>!(codeK ts es k == 0))=none:=by
  rw [List.find?_eq_none]
  intro x hx
  rw [h x (List.mem_range.1 hx)]; decide
 rw [this]
theorem blankL_len:∀ (b:Bool) (l:Txt),(blankL b l).length=l.length
 | _,[]=>rfl
 | b,c :: r=>by
  unfold blankL
  rw [List.length_cons,List.length_cons,blankL_len]
theorem tokL_bd:∀ (w l:Txt),(tokL w l).length<=w.length+l.length/\∀ t ∈ tokL w l,t.length<=w.length+l.length
 | w,[]=>by
  unfold tokL flush
  split
  ·simp
  ·rename_i h
   have:0 < w.length:=List.length_pos_iff.2 h
   refine ⟨by simp; omega,fun t ht=>?_⟩
   rw [List.mem_singleton] at ht
   subst ht
   simp
 | w,c :: r=>by
  unfold tokL
  split
  ·obtain ⟨h1,h2⟩:=tokL_bd (w ++ [c]) r
   rw [List.length_append,List.length_singleton] at h1 h2
   exact ⟨by rw [List.length_cons]; omega,fun t ht=>by have:=h2 t ht; rw [List.length_cons]; omega⟩
  ·obtain ⟨h1,h2⟩:=tokL_bd [] r
   simp only [List.length_nil,Nat.zero_add] at h1 h2
   have hf:(flush w).length<=w.length/\∀ t ∈ flush w,t.length<=w.length:=by
    unfold flush
    split
    ·simp
    ·rename_i h
     have:0 < w.length:=List.length_pos_iff.2 h
     exact ⟨by simp; omega,fun t ht=>by rw [List.mem_singleton] at ht; subst ht; exact Nat.le_refl _⟩
   refine ⟨?_,fun t ht=>?_⟩
   ·rw [List.length_append,List.length_append,List.length_cons]
    have:(if decide (c.toNat=59)=true then [[59]] else ([]:List Txt)).length<=1:=by split <;> simp
    omega
   ·rw [List.length_cons]
    rcases List.mem_append.1 ht with ht | ht
    ·have:=hf.2 t ht; omega
    ·rcases List.mem_append.1 ht with ht | ht
     ·split at ht
      ·rw [List.mem_singleton] at ht
       subst ht
       show 1<=_
       omega
      ·cases ht
     ·have:=h2 t ht; omega
theorem subL_at {ts:List Txt} {i j k:Nat} (hj:j<=ts.length) (hk:k < j - i):tAt (subL ts i j) k=tAt ts (i+k):=by
 unfold subL tAt
 rw [List.getD_eq_getElem?_getD,List.getD_eq_getElem?_getD,List.getElem?_take,if_pos hk,List.getElem?_drop]
theorem subL_len {ts:List Txt} {i j:Nat} (hij:i<=j) (hj:j<=ts.length):(subL ts i j).length=j - i:=by
 unfold subL
 rw [List.length_take,List.length_drop]
 omega
end Go.Proofs.YtnmhkgmmpkjjeaaGreat
