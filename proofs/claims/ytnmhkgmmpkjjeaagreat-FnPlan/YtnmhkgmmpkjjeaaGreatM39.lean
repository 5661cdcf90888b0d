import Derived.Test.YtnmhkgmmpkjjeaaGreatM37
import Derived.Test.YtnmhkgmmpkjjeaaGreatM38
namespace Go.Proofs.YtnmhkgmmpkjjeaaGreat
open ChangeShapes WideShapes ChangeAt RowKit Proofs.Tryz
set_option linter.all false
set_option maxRecDepth 100000
set_option maxHeartbeats 4000000
section
attribute [local go_sem ↓] wp_at_zero wp_at_succ
attribute [local go_sem] DU FG FM H5 FE Du
theorem NY(l:Az)(w:World)(hle:l.length<=20000):Calls prog 35 #[.string (bs l)] w fun e w'=>∃v,e=.returned v/\LS JI w w' v (E0 [] l):=by
 obtain⟨i0,hi,hz0,hz1,hz2⟩:=info_parts Wx;have HS:Hid (LS JI w (w.alloc (.cells #[] 93)) (.slice (some ⟨w.heap.size,0,none⟩) 0 0) []):=LS.new JI w;go_enter func35,ntmps35
 go_wp2_with fail
 go_loopw [3,4,5] (fun vv sv iv wr=>∃(k:Nat) (T:List Az) (W:Az),k<=l.length+1/\iv=.int .i64 k/\sv=.string (bs W)/\LS JI w wr vv T/\Hid (k<=l.length->T++E0 W (l.drop k)=E0 [] l)/\Hid (k=l.length+1->T=E0 [] l)/\Hid (T.length+W.length<=k)) (fun _ _ iv _=>l.length+1-(intOf iv).toNat)
 case atStart=>exact⟨0,[],[],Nat.zero_le _,rfl,rfl,HS.out,A6 fun _=>rfl,A6 fun h=>by simp at h,A6 (by simp)⟩
 case round =>
  obtain⟨k,T,W,hk,rfl,rfl,hst,HT,HZ,HK⟩:=hrel;by_cases hlt:k<l.length
  ·have HD:Hid _:=Kv hlt;have hcut:=Rt hlt;(obtain⟨c,hc⟩:∃c,KV l k=c:=⟨_,rfl⟩);rw[hc] at HD hcut;(have HE:Hid (T++E0 W (c :: l.drop (k+1))=E0 [] l):=A6 <| by rw[<- HD.out];exact HT.out (by omega));(have hW:W.length<9223372036854775807:=by have:=HK.out;omega);(have L1:(0:Int)<=(k:Int):=by omega);(have L2:(k:Int)<(l.length:Int):=by omega);(have L3:(0:Int)<=(k:Int)+1:=by omega);(have L4:(k:Int)+1<=(l.length:Int):=by omega);(have L5:(k:Int)<=(l.length:Int):=by omega);cases hw:T7 c
   ·have HE2:Hid ((T++(E9 W++(if decide (c.toNat=59) then [[59]] else [])))++E0 [] (l.drop (k+1))=E0 [] l):=A6 <| by
     rw[<- HE.out,E0,hw];simp
    by_cases h59:c.toNat=59
    ·(have e59:((c.toNat:Int)==59)=true:=by simp[h59]);have HE3:Hid ((T++(E9 W++[[59]]))++E0 [] (l.drop (k+1))=E0 [] l):=A6 <| by
      rw[<- HE2.out,decide_eq_true h59];rfl
     clear h59;by_cases hWn:W=[]
     ·subst hWn;obtain⟨⟨gv1,cv1,rfl,hrow⟩,hbel⟩:=hst;have hsz1:=hbel.size;have HROW1:=A5 hrow;have HB1:=A5 hbel;(have hln1:T.length<=30000:=by have:=HK.out;omega);clear hrow hbel;(go_wp2_with (first|(go_at_call 96;refine(BM c _).mono ?_;rintro e w' ⟨rfl,rfl⟩)|(at_builtin;refine wpList_append_lies _ rfl (.tmp 48) (.tmp 50) 89 rfl w.heap.size 93 i0 _ 1 16 underlying89 hi hz0 hz1 hz2 rfl (by omega) _ _ _ rfl (World.ownsRow.alloc HROW1.out _) ⟨_,0,none⟩ 1 1 [.string (bs [59])] rfl rfl ?c1 ?c2 (by omega) ?c3 ?c4 ?c5 _ rfl ?_)));(case c1=>exact World.news_of_block (heap_alloc_new _ (.cells #[.string (bs [59])] 93)));(case c2=>intro u hu;simp at hu;rcases hu with rfl;rfl);(case c3=>unfold maxLen;omega);(case c4=>omega);(case c5=>simp;omega);intro g1 cap1 wn1 hown hgrow hat hlt3;have hst1:=LS.push (E:=JI) (x:=[59]) HB1.out HROW1.out hown hgrow;clear hown hgrow hat hlt3;(go_wp2_with fail);go_roundw;(case rel=>exact⟨k+1,T++[[59]],[],by omega,by go_num,rfl,hst1,A6 fun _=>HE3.out,A6 fun h=>absurd h (by omega),A6 (by have:=HK.out;simp at this ⊢;omega)⟩);case measure=>first|(simp[intOf];done)|(simp[intOf];omega)
     ·have h0:0<W.length:=List.length_pos_iff.2 hWn;(have HF:Hid (E9 W=[W]):=A6 <| by unfold E9;rw[if_neg hWn]);clear hWn;obtain⟨⟨gv1,cv1,rfl,hrow⟩,hbel⟩:=hst;have hsz1:=hbel.size;have HROW1:=A5 hrow;have HB1:=A5 hbel;(have hln1:T.length<=30000:=by have:=HK.out;omega);clear hrow hbel;(go_wp2_with (first|(go_at_call 96;refine(BM c _).mono ?_;rintro e w' ⟨rfl,rfl⟩)|(at_builtin;refine wpList_append_lies _ rfl (.tmp 33) (.tmp 36) 89 rfl w.heap.size 93 i0 _ 1 16 underlying89 hi hz0 hz1 hz2 rfl (by omega) _ _ _ rfl (World.ownsRow.alloc HROW1.out _) ⟨_,0,none⟩ 1 1 [.string (bs W)] rfl rfl ?c1 ?c2 (by omega) ?c3 ?c4 ?c5 _ rfl ?_)));(case c1=>exact World.news_of_block (heap_alloc_new _ (.cells #[.string (bs W)] 93)));(case c2=>intro u hu;simp at hu;rcases hu with rfl;rfl);(case c3=>unfold maxLen;omega);(case c4=>omega);(case c5=>simp;omega);intro g1 cap1 wn1 hown hgrow hat hlt3;have hst1:=LS.push (E:=JI) (x:=W) HB1.out HROW1.out hown hgrow;clear hown hgrow hat hlt3;(obtain⟨T2,hT2⟩:∃T2,T++[W]=T2:=⟨_,rfl⟩);(have hT2l:T.length+1=T2.length:=by rw[<- hT2];simp);rw[hT2,hT2l] at hst1;rw[hT2l];have HT2:=A5 hT2;have HT2l:=A5 hT2l;clear hT2 hT2l;obtain⟨⟨gv2,cv2,eg2,hrow⟩,hbel⟩:=hst1;have hsz2:=hbel.size;have HROW2:=A5 hrow;have HB2:=A5 hbel;(have hln2:T2.length<=30000:=by have:=HK.out;have:=HT2l.out;omega);clear hrow hbel;simp only[Value.slice.injEq,Option.some.injEq,Addr.mk.injEq,and_true,true_and] at eg2;obtain⟨rfl,rfl⟩:=eg2;(go_wp2_with (at_builtin;refine wpList_append_lies _ rfl (.tmp 48) (.tmp 50) 89 rfl w.heap.size 93 i0 _ 1 16 underlying89 hi hz0 hz1 hz2 rfl (by omega) _ _ _ rfl (World.ownsRow.alloc HROW2.out _) ⟨_,0,none⟩ 1 1 [.string (bs [59])] rfl rfl ?c1 ?c2 (by omega) ?c3 ?c4 ?c5 _ rfl ?_));(case c1=>exact World.news_of_block (heap_alloc_new _ (.cells #[.string (bs [59])] 93)));(case c2=>intro u hu;simp at hu;rcases hu with rfl;rfl);(case c3=>unfold maxLen;omega);(case c4=>omega);(case c5=>simp;omega);intro g2 cap2 wn2 hown hgrow hat hlt3;have hst2:=LS.push (E:=JI) (x:=[59]) HB2.out HROW2.out hown hgrow;clear hown hgrow hat hlt3;(go_wp2_with fail);go_roundw;(case rel=>exact⟨k+1,T2++[[59]],[],by omega,by go_num,rfl,hst2,A6 fun _=>by rw[<- HE3.out,HF.out,<- HT2.out];simp,A6 fun h=>absurd h (by omega),A6 (by have:=HK.out;have:=HT2l.out;simp at this ⊢;omega)⟩);case measure=>first|(simp[intOf];done)|(simp[intOf];omega)
    ·(have e59:((c.toNat:Int)==59)=false:=by simp;omega);have HE3:Hid ((T++E9 W)++E0 [] (l.drop (k+1))=E0 [] l):=A6 <| by
      rw[<- HE2.out,decide_eq_false h59];simp
     clear h59;by_cases hWn:W=[]
     ·subst hWn;(go_wp2_with (go_at_call 96;refine(BM c _).mono ?_;rintro e w' ⟨rfl,rfl⟩));go_roundw;(case rel=>exact⟨k+1,T,[],by omega,by go_num,rfl,hst,A6 fun _=>by rw[<- HE3.out];simp[E9],A6 fun h=>absurd h (by omega),A6 (by have:=HK.out;simp at this ⊢;omega)⟩);case measure=>first|(simp[intOf];done)|(simp[intOf];omega)
     ·have h0:0<W.length:=List.length_pos_iff.2 hWn;(have HF:Hid (E9 W=[W]):=A6 <| by unfold E9;rw[if_neg hWn]);clear hWn;obtain⟨⟨gv1,cv1,rfl,hrow⟩,hbel⟩:=hst;have hsz1:=hbel.size;have HROW1:=A5 hrow;have HB1:=A5 hbel;(have hln1:T.length<=30000:=by have:=HK.out;omega);clear hrow hbel;(go_wp2_with (first|(go_at_call 96;refine(BM c _).mono ?_;rintro e w' ⟨rfl,rfl⟩)|(at_builtin;refine wpList_append_lies _ rfl (.tmp 33) (.tmp 36) 89 rfl w.heap.size 93 i0 _ 1 16 underlying89 hi hz0 hz1 hz2 rfl (by omega) _ _ _ rfl (World.ownsRow.alloc HROW1.out _) ⟨_,0,none⟩ 1 1 [.string (bs W)] rfl rfl ?c1 ?c2 (by omega) ?c3 ?c4 ?c5 _ rfl ?_)));(case c1=>exact World.news_of_block (heap_alloc_new _ (.cells #[.string (bs W)] 93)));(case c2=>intro u hu;simp at hu;rcases hu with rfl;rfl);(case c3=>unfold maxLen;omega);(case c4=>omega);(case c5=>simp;omega);intro g1 cap1 wn1 hown hgrow hat hlt3;have hst1:=LS.push (E:=JI) (x:=W) HB1.out HROW1.out hown hgrow;clear hown hgrow hat hlt3;(go_wp2_with fail);go_roundw;(case rel=>exact⟨k+1,T++[W],[],by omega,by go_num,rfl,hst1,A6 fun _=>by rw[<- HE3.out,HF.out],A6 fun h=>absurd h (by omega),A6 (by have:=HK.out;simp at this ⊢;omega)⟩);case measure=>first|(simp[intOf];done)|(simp[intOf];omega)
   ·have HE2:Hid (T++E0 (W++[c]) (l.drop (k+1))=E0 [] l):=A6 <| by
     rw[<- HE.out,E0,hw];simp
    (go_wp2_with (go_at_call 96;refine(BM c _).mono ?_;rintro e w' ⟨rfl,rfl⟩));go_roundw;(case rel=>exact⟨k+1,T,W++[c],by omega,by go_num,rfl,hst,A6 fun _=>HE2.out,A6 fun h=>absurd h (by omega),A6 (by have:=HK.out;simp;omega)⟩);case measure=>first|(simp[intOf];done)|(simp[intOf];omega)
  ·by_cases hz:k=l.length
   ·have HE:Hid (T++E9 W=E0 [] l):=A6 <| by
     have:=HT.out (by omega);rw[hz,List.drop_length,E0] at this;exact this
    subst hz;by_cases hWn:W=[]
    ·subst hWn;(go_wp2_with fail);go_roundw;(case rel=>exact⟨l.length+1,T,[],by omega,by go_num,rfl,hst,A6 fun h=>absurd h (by omega),A6 fun _=>by rw[<- HE.out];simp[E9],A6 (by have:=HK.out;simp at this ⊢;omega)⟩);case measure=>first|(simp[intOf];done)|(simp[intOf];omega)
    ·have h0:0<W.length:=List.length_pos_iff.2 hWn;(have HF:Hid (E9 W=[W]):=A6 <| by unfold E9;rw[if_neg hWn]);clear hWn;obtain⟨⟨gv1,cv1,rfl,hrow⟩,hbel⟩:=hst;have hsz1:=hbel.size;have HROW1:=A5 hrow;have HB1:=A5 hbel;(have hln1:T.length<=30000:=by have:=HK.out;omega);clear hrow hbel;(go_wp2_with (at_builtin;refine wpList_append_lies _ rfl (.tmp 33) (.tmp 36) 89 rfl w.heap.size 93 i0 _ 1 16 underlying89 hi hz0 hz1 hz2 rfl (by omega) _ _ _ rfl (World.ownsRow.alloc HROW1.out _) ⟨_,0,none⟩ 1 1 [.string (bs W)] rfl rfl ?c1 ?c2 (by omega) ?c3 ?c4 ?c5 _ rfl ?_));(case c1=>exact World.news_of_block (heap_alloc_new _ (.cells #[.string (bs W)] 93)));(case c2=>intro u hu;simp at hu;rcases hu with rfl;rfl);(case c3=>unfold maxLen;omega);(case c4=>omega);(case c5=>simp;omega);intro g1 cap1 wn1 hown hgrow hat hlt3;have hst1:=LS.push (E:=JI) (x:=W) HB1.out HROW1.out hown hgrow;clear hown hgrow hat hlt3;(go_wp2_with fail);go_roundw;(case rel=>exact⟨l.length+1,T++[W],[],by omega,by go_num,rfl,hst1,A6 fun h=>absurd h (by omega),A6 fun _=>by rw[<- HE.out,HF.out],A6 (by have:=HK.out;simp at this ⊢;omega)⟩);case measure=>first|(simp[intOf];done)|(simp[intOf];omega)
   ·(have hz2:k=l.length+1:=by omega);have HE:Hid (T=E0 [] l):=A6 (HZ.out hz2);subst hz2;(go_wp2_with fail);go_ret;refine⟨_,rfl,?_⟩;rw[<- HE.out];exact hst
end
theorem QJ(ts:List Az):(CV ts).kind=0\/(CV ts).kind=1\/(CV ts).kind=2\/(CV ts).kind=3:=by
 unfold CV TG Ta Uo;repeat' split
 all_goals simp[Aa]
theorem QT(a:Option Addr)(c:Nat)(all:List St)(s:St)(w:World)(hle:all.length<=1000)(hr:Q1 w a all)(hall:∀t∈all,Ev t)(hs:Ev s)(hk:s.kind=0\/s.kind=1\/s.kind=2\/s.kind=3):Calls prog 37 #[.slice a all.length c,CH s] w (AM w (.int .i64 (Bu all s))):=by
 obtain⟨K,M,A,B,P,X⟩:=s;dsimp only at hk;rcases hk with rfl|rfl|rfl|rfl
 ·have e:Bu all ⟨0,M,A,B,P,X⟩=4:=rfl;rw[e];exact Yq a c all M A B P X w
 ·exact YK a c all M A B P X w hle hr hall ⟨hs.a0,hs.a1⟩ ⟨hs.b0,hs.b1⟩
 ·exact Z6 a c all M A B P X w hle hr hall hs
 ·exact Yr a c all M A B P X w hle hr hall hs
def Bj (ts:List Az) (k:Nat):List Nat:=(List.range k).filter (fun i=>El ts i==[59])
theorem PT(ts:List Az)(k:Nat):Bj ts (k+1)=if El ts k==[59] then Bj ts k++[k] else Bj ts k:=by
 unfold Bj;rw[List.range_succ,List.filter_append,List.filter_cons];split<;>simp
theorem QM(ts:List Az)(k:Nat):(Bj ts k).length<=k:=by
 unfold Bj;exact Nat.le_trans (List.length_filter_le _ _) (by simp)
theorem TW(ts:List Az)(k:Nat):∀e∈Bj ts k,e<k:=fun e he=>List.mem_range.1 (List.mem_filter.1 he).1
theorem MS(ts:List Az)(k:Nat):(Bj ts k).Pairwise (fun a b=>a<b):=List.Pairwise.filter _ (List.pairwise_lt_range)
def G8 (es:List Nat) (k:Nat):Nat:=es.getD k 0
def DI (es:List Nat):Nat->Nat
 | 0=>0
 | k+1=>G8 es k+1
def Kh (ts:List Az) (i j:Nat):List Az:=(ts.drop i).take (j-i)
def Yb (ts:List Az) (es:List Nat) (k:Nat):St:=CV (Kh ts (DI es k) (G8 es k))
def Ej (ts:List Az) (es:List Nat) (k:Nat):List St:=(List.range k).map (Yb ts es)
def Ef (ts:List Az) (es:List Nat) (k:Nat):Int:=Bu (Ej ts es k) (Yb ts es k)
theorem RN(ts:List Az)(es:List Nat)(k:Nat):Ej ts es (k+1)=Ej ts es k++[Yb ts es k]:=by
 unfold Ej;rw[List.range_succ,List.map_append];rfl
theorem SU(ts:List Az)(es:List Nat)(k:Nat):(Ej ts es k).length=k:=by unfold Ej;simp
theorem Gl(ts:List Az)(es:List Nat)(k:Nat):∀s∈Ej ts es k,Ev s:=by
 intro s hs;unfold Ej at hs;obtain⟨i,_,rfl⟩:=List.mem_map.1 hs;exact PJ _
theorem Ri{ts:List Az}{n k:Nat}(h:k<(Bj ts n).length):DI (Bj ts n) k<=G8 (Bj ts n) k/\G8 (Bj ts n) k<n:=by
 have hm:G8 (Bj ts n) k∈Bj ts n:=by
  unfold G8;rw[List.getD_eq_getElem?_getD,List.getElem?_eq_getElem h];exact List.getElem_mem h
 refine⟨?_,TW ts n _ hm⟩;cases k with
 | zero=>exact Nat.zero_le _
 | succ k =>
  have:=List.pairwise_iff_getElem.1 (MS ts n) k (k+1) (by omega) h (by omega);show G8 _ k+1<=G8 _ (k+1);unfold G8;rw[List.getD_eq_getElem?_getD,List.getD_eq_getElem?_getD,List.getElem?_eq_getElem h,List.getElem?_eq_getElem (by omega)];exact this
theorem Uk{ts:List Az}{n k:Nat}(h:k<=(Bj ts n).length):DI (Bj ts n) k<=n:=by
 cases k with
 | zero=>exact Nat.zero_le _
 | succ k =>
  have:=(Ri (ts:=ts) (n:=n) (k:=k) (by omega)).2;show G8 _ k+1<=n;omega
def Jf (ts:List Az) (es:List Nat):List AE×Int×Int :=
 match (List.range es.length).find? (fun k=>!(Ef ts es k==0)) with
 | some k=>([],Ef ts es k,(k:Nat))
 | none=>if DI es es.length<ts.length then ([],4,(es.length:Nat)) else (Ah (Ej ts es es.length) 4096,0,0)
def KR (ts:List Az):List AE×Int×Int :=
 if 1000<(Bj ts ts.length).length then ([],3,1000) else Jf ts (Bj ts ts.length)
def J8 (text:Az):List AE×Int×Int :=
 if 20000<text.length then ([],1,0)
 else if 0<=GN 0 (C9 false text) then ([],2,GN 0 (C9 false text))
 else KR (E0 [] (C9 false text))
theorem VT{ts:List Az}{es:List Nat}{k:Nat}(hk:k<es.length)(h:∀j,j<k->Ef ts es j=0)(h2:Ef ts es k≠0):Jf ts es=([],Ef ts es k,((k:Nat):Int)):=by
 unfold Jf;have e:(List.range es.length).find? (fun k=>!(Ef ts es k==0))=some k:=by
  have e1:es.length=k+((es.length-k-1)+1):=by omega
  rw[e1,List.range_add,List.find?_append,List.range_succ_eq_map,List.map_cons,List.find?_cons_of_pos (by simpa using h2)];have:(List.range k).find? (fun k=>!(Ef ts es k==0))=none:=by
   rw[List.find?_eq_none];intro x hx;rw[h x (List.mem_range.1 hx)];decide
  rw[this];rfl
 rw[e]
theorem TZ{ts:List Az}{es:List Nat}(h:∀j,j<es.length->Ef ts es j=0):Jf ts es=if DI es es.length<ts.length then ([],(4:Int),((es.length:Nat):Int)) else (Ah (Ej ts es es.length) 4096,(0:Int),(0:Int)):=by
 unfold Jf;have:(List.range es.length).find? (fun k=>!(Ef ts es k==0))=none:=by
  rw[List.find?_eq_none];intro x hx;rw[h x (List.mem_range.1 hx)];decide
 rw[this]
theorem Ll:∀(b:Bool) (l:Az),(C9 b l).length=l.length
 | _,[]=>rfl
 | b,c :: r=>by
  unfold C9;rw[List.length_cons,List.length_cons,Ll]
theorem Oc:∀(w l:Az),(E0 w l).length<=w.length+l.length/\∀t∈E0 w l,t.length<=w.length+l.length
 | w,[]=>by
  unfold E0 E9;split
  ·simp
  ·rename_i h;have:0<w.length:=List.length_pos_iff.2 h;refine⟨by simp;omega,fun t ht=>?_⟩;rw[List.mem_singleton] at ht;subst ht;simp
 | w,c :: r=>by
  unfold E0;split
  ·obtain⟨h1,h2⟩:=Oc (w++[c]) r;rw[List.length_append,List.length_singleton] at h1 h2;exact⟨by rw[List.length_cons];omega,fun t ht=>by have:=h2 t ht;rw[List.length_cons];omega⟩
  ·obtain⟨h1,h2⟩:=Oc [] r;simp only[List.length_nil,Nat.zero_add] at h1 h2;have hf:(E9 w).length<=w.length/\∀t∈E9 w,t.length<=w.length:=by
    unfold E9;split
    ·simp
    ·rename_i h;have:0<w.length:=List.length_pos_iff.2 h;exact⟨by simp;omega,fun t ht=>by rw[List.mem_singleton] at ht;subst ht;exact Nat.le_refl _⟩
   refine⟨?_,fun t ht=>?_⟩
   ·rw[List.length_append,List.length_append,List.length_cons];(have:(if decide (c.toNat=59)=true then [[59]] else ([]:List Az)).length<=1:=by split<;>simp);omega
   ·rw[List.length_cons];rcases List.mem_append.1 ht with ht|ht
    ·have:=hf.2 t ht;omega
    ·rcases List.mem_append.1 ht with ht|ht
     ·split at ht
      ·rw[List.mem_singleton] at ht;subst ht;show 1<=_;omega
      ·cases ht
     ·have:=h2 t ht;omega
theorem Rw{ts:List Az}{i j k:Nat}(hj:j<=ts.length)(hk:k<j-i):El (Kh ts i j) k=El ts (i+k):=by
 unfold Kh El;rw[List.getD_eq_getElem?_getD,List.getD_eq_getElem?_getD,List.getElem?_take,if_pos hk,List.getElem?_drop]
theorem Il{ts:List Az}{i j:Nat}(hij:i<=j)(hj:j<=ts.length):(Kh ts i j).length=j-i:=by
 unfold Kh;rw[List.length_take,List.length_drop];omega
end Go.Proofs.YtnmhkgmmpkjjeaaGreat
