import Derived.Test.YtnmhkgmmpkjjeacGreatG41
import Derived.WalkMore
import Derived.WalkSmall
namespace Go.Proofs.YtnmhkgmmpkjjeacGreat
open Go.ChangeShapes Go.WideShapes Go.ChangeAt Go.RowKit
set_option linter.unusedVariables false
set_option linter.unusedSimpArgs false
set_option maxRecDepth 100000
attribute [local go_sem ↓] Go.wp_at_zero Go.wp_at_succ
attribute [local go_sem] bs_size bs_cAt bs_app bs_mk bs_cut bs_list
section
variable {st:List (List Txt)} {re:List Txt} {k:Nat} {c:UInt8} {r w:Txt}
theorem sc_blank (h:c.toNat=32\/c.toNat=10):sc [] false k st re (c :: r)=sc [] false (k+1) st re r:=by
 have nw:¬ isWd c=true:=fun hh=>by have:=wd_not hh; omega
 rw [sc,if_neg (by decide),if_neg nw,if_pos h,flush_nil,List.append_nil]
theorem sc_semi (h:c.toNat=59):sc [] false k st re (c :: r)=sc [] false (k+1) (st ++ [re]) [] r:=by
 have nw:¬ isWd c=true:=fun hh=>by have:=wd_not hh; omega
 rw [sc,if_neg (by decide),if_neg nw,if_neg (by omega),if_pos h,flush_nil,List.append_nil]
theorem sc_hash (h:c.toNat=35):sc [] false k st re (c :: r)=sc [] true (k+1) st re r:=by
 have nw:¬ isWd c=true:=fun hh=>by have:=wd_not hh; omega
 rw [sc,if_neg (by decide),if_neg nw,if_neg (by omega),if_neg (by omega),if_pos h,flush_nil,List.append_nil]
theorem sc_word (h:isWd c=true):sc w false k st re (c :: r)=sc (w ++ [c]) false (k+1) st re r:=by
 rw [sc,if_neg (by decide),if_pos h]
theorem sc_bad (h:¬ isWd c=true) (h2:c.toNat ≠ 32/\c.toNat ≠ 10/\c.toNat ≠ 59/\c.toNat ≠ 35):sc [] false k st re (c :: r)=.inl k:=by
 rw [sc,if_neg (by decide),if_neg h,if_neg (by omega),if_neg h2.2.2.1,if_neg h2.2.2.2]
theorem sc_end:sc [] false k st re []=.inr (st,re):=by rw [sc,flush_nil,List.append_nil]
theorem scm_end:sc [] true k st re []=.inr (st,re):=by rw [sc,flush_nil,List.append_nil]
theorem scm_nl (h:c.toNat=10):sc [] true k st re (c :: r)=sc [] false k st re (c :: r):=by
 rw [sc_blank (.inr h),sc,if_pos rfl,if_pos h]
theorem scm_on (h:c.toNat ≠ 10):sc [] true k st re (c :: r)=sc [] true (k+1) st re r:=by rw [sc,if_pos rfl,if_neg h]
theorem scw_off (hw:w ≠ []) (h:¬ isWd c=true):sc w false k st re (c :: r)=sc [] false k st (re ++ [w]) (c :: r):=by
 simp [sc,h,flush_ne hw,flush_nil]
theorem scw_end (hw:w ≠ []):sc w false k st re []=sc [] false k st (re ++ [w]) []:=by
 rw [sc,sc,flush_ne hw,flush_nil,List.append_nil]
end
theorem cut_snoc {l:Txt} {k m:Nat} (h:k<=m) (hm:m < l.length):cutL l k (m+1)=cutL l k m ++ [cAt l m]:=by
 unfold cutL cAt
 rw [List.take_add_one,List.getD_eq_getElem?_getD,List.getElem?_eq_getElem hm,List.drop_append_of_le_length (by rw [List.length_take]; omega)]
 rfl
def diagV (c k:Int):Value:=.iface 46 (.agg #[.int .i64 c,.int .i64 k])
def ScPost (w:World) (R:Cut) (e:Ending) (w':World):Prop:=match R with
 | .inl k=>e=.panicked [{ v:=diagV 2 (k:Nat),recovered:=false }]/\Below w.heap.size w w'
 | .inr (st,re)=>∃ vs vr sl,e=.returned (.tuple #[vs.v,vr.v])/\ScI w w' vs vr sl st re
set_option maxHeartbeats 8000000 in
theorem scan_any (l:Txt) (w:World) (hl:l.length<=20000):Calls Tryz.prog 144 #[.string (bs l)] w fun e w'=>ScPost w (sc [] false 0 [] [] l) e w':=by
 obtain ⟨iA,hiA,hz0,hz1,hz2⟩:=info_parts infoStr
 obtain ⟨iB,hiB,hy0,hy1,hy2⟩:=info_parts infoSl
 obtain ⟨R,hR⟩:∃ R,sc [] false 0 [] [] l=R:=⟨_,rfl⟩
 have HR0:Hid (sc [] false 0 [] [] (l.drop 0)=R):=hR
 rw [hR]
 clear hR
 refine calls_o 71 Tryz.func144 rfl (by rfl) (by simp) ?_
 intro tm hsz hla
 have s0:=hla 0 (by simp)
 clear hla
 simp only [List.getElem_toArray,List.getElem_cons_zero,List.getElem_cons_succ] at s0
 go_wp2_with fail
 go_step3
 go_wp2_with fail
 go_step3
 go_wp2_with fail
 refine wp_loop_o 71 (fun j tm wr=>∃ (k:Nat) (st:List (List Txt)) (re:List Txt) (vs vr:SlE) (sl:List SlE),j=l.length - k/\k<=l.length/\Fs tm [(0,.string (bs l)),(2,vs.v),(3,vr.v),(4,.int .i64 (k:Int))]/\ScI w wr vs vr sl st re/\st.length<=k/\re.length<=k/\sc [] false k st re (l.drop k)=R) l.length (by simp [hsz]) ⟨0,[],[],⟨none,0,0⟩,⟨none,0,0⟩,[],by omega,by omega,(by simp only [Fs]; and_intros <;> simp [hsz,s0]),ScI.new w,by simp,by simp,HR0.out⟩ ?_
 clear s0 hsz HR0
 clear tm
 intro j tm wr Jo Ko hsz hI hJo hKo
 obtain ⟨k,st,re,vs,vr,sl,hj,hk,hs,hi,hst,hre,hr⟩:=hI
 simp only [Fs] at hs
 obtain ⟨s0,s2,s3,s4,-⟩:=hs
 subst hj
 have HR:Hid (sc [] false k st re (l.drop k)=R):=hr
 have HI:Hid (ScI w wr vs vr sl st re):=hi
 clear hr hi
 by_cases hlt:k < l.length
 ·have K0:(0:Int)<=(k:Int):=by omega
  have K1:(k:Int) < (l.length:Int):=by omega
  have W1:IntKind.i64.wrap ((k:Int)+1)=(k:Int)+1:=by rw [IntKind.wrap_i64]; omega
  have HD:Hid (l.drop k=cAt l k :: l.drop (k+1)):=drop_cAt hlt
  go_upto_if 10 with fail
  refine wp_cond_true (by go_simp <;> omega) ?_
  by_cases h32:(cAt l k).toNat=32\/(cAt l k).toNat=10
  ·have hb:(((cAt l k).toNat:Int) == 32)=decide ((cAt l k).toNat=32):=by rw [Bool.eq_iff_iff]; simp; omega
   have hb2:(((cAt l k).toNat:Int) == 10)=decide ((cAt l k).toNat=10):=by rw [Bool.eq_iff_iff]; simp; omega
   have HN:Hid (sc [] false (k+1) st re (l.drop (k+1))=R):=hidP (by rw [<- HR.out,HD.out,sc_blank h32])
   rcases h32 with h32 | h10
   ·have e1:decide ((cAt l k).toNat=32)=true:=by simpa using h32
    rw [e1] at hb
    clear h32 hb2
    go_upto_if 20 with fail
    refine wp_cond_true (by go_simp <;> omega) ?_
    go_wp2_with fail
    refine Met.intro (hJo (l.length - (k+1)) _ _ (by simp [hsz]) ⟨(k+1),st,re,vs,vr,sl,rfl,by omega,(by simp only [Fs]; and_intros <;> simp [hsz,s0,s2,s3,s4]),HI.out,by omega,by omega,HN.out⟩ (by omega))
   ·have e1:decide ((cAt l k).toNat=32)=false:=by simp; omega
    have e2:decide ((cAt l k).toNat=10)=true:=by simpa using h10
    rw [e1] at hb
    rw [e2] at hb2
    clear h10
    go_upto_if 20 with fail
    refine wp_cond_true (by go_simp <;> omega) ?_
    go_wp2_with fail
    refine Met.intro (hJo (l.length - (k+1)) _ _ (by simp [hsz]) ⟨(k+1),st,re,vs,vr,sl,rfl,by omega,(by simp only [Fs]; and_intros <;> simp [hsz,s0,s2,s3,s4]),HI.out,by omega,by omega,HN.out⟩ (by omega))
  ·have b32:(((cAt l k).toNat:Int) == 32)=false:=by simp; omega
   have b10:(((cAt l k).toNat:Int) == 10)=false:=by simp; omega
   by_cases h59:(cAt l k).toNat=59
   ·have b59:(((cAt l k).toNat:Int) == 59)=true:=by simp; omega
    have HN:Hid (sc [] false (k+1) (st ++ [re]) [] (l.drop (k+1))=R):=hidP (by rw [<- HR.out,HD.out,sc_semi h59])
    have HRX:Hid (ERow eSl (wr.alloc (.cells #[vr.v] 179)) w.heap.size vs.v sl):=hidP (HI.out.rs.below bal)
    have hyw:w.heap.size<=wr.heap.size:=HI.out.bel.size
    have hsl:sl.length<=20000:=by have:=HI.out.ln; omega
    clear h59 h32
    go_upto_if 20 with fail
    refine wp_cond_false (by go_simp <;> omega) ?_
    go_upto_if 27 with fail
    refine wp_cond_true (by go_simp <;> omega) ?_
    go_wp2_with (at_builtin; refine wpList_append_lies _ rfl (.tmp 30) (.tmp 32) 201 rfl w.heap.size 179 iB _ 1 24 Tryz.underlying201 hiB hy0 hy1 hy2 rfl (by omega) vs.v _ _ (by go_simp) HRX.out ⟨wr.heap.size,0,none⟩ 1 1 [vr.v] (by go_simp) rfl (by exact World.news_of_block (heap_alloc_new _ _)) (by intro u hu; simp at hu; subst hu; rfl) (by omega) (by unfold maxLen; omega) (by omega) (by first | omega | (simp; omega)) _ rfl ?_)
    intro gn cn wn hown hgrow hat hlt3
    have HX2:Hid (ScI w wn ⟨some ⟨gn,0,none⟩,sl.length+1,cn⟩ ⟨none,0,0⟩ (sl ++ [vr]) (st ++ [re]) []):=hidP (HI.out.stmt hown hgrow hat)
    clear hown hgrow hat hlt3
    go_wp2_with fail
    refine Met.intro (hJo (l.length - (k+1)) _ _ (by simp [hsz]) ⟨(k+1),(st ++ [re]),[],⟨some ⟨gn,0,none⟩,sl.length+1,cn⟩,⟨none,0,0⟩,(sl ++ [vr]),rfl,by omega,(by simp only [Fs]; and_intros <;> simp [hsz,s0,s2,s3,s4]),HX2.out,by simp; omega,by simp,HN.out⟩ (by omega))
   ·have b59:(((cAt l k).toNat:Int) == 59)=false:=by simp; omega
    by_cases h35:(cAt l k).toNat=35
    ·have b35:(((cAt l k).toNat:Int) == 35)=true:=by simp; omega
     have HQ:Hid (sc [] true (k+1) st re (l.drop (k+1))=R):=hidP (by rw [<- HR.out,HD.out,sc_hash h35])
     go_upto_if 20 with fail
     refine wp_cond_false (by go_simp <;> omega) ?_
     go_upto_if 27 with fail
     refine wp_cond_false (by go_simp <;> omega) ?_
     go_upto_if 34 with fail
     refine wp_cond_true (by go_simp <;> omega) ?_
     go_wp2_with fail
     refine wp_loop_o 71 (fun j tm wq=>∃ m:Nat,j=l.length - m/\k+1<=m/\m<=l.length/\Fs tm [(0,.string (bs l)),(2,vs.v),(3,vr.v),(4,.int .i64 (m:Int))]/\wq=wr/\sc [] true m st re (l.drop m)=R) (l.length - (k+1)) (by simp [hsz]) ⟨k+1,rfl,by omega,by omega,(by simp only [Fs]; and_intros <;> simp [hsz,s0,s2,s3,s4]),rfl,HQ.out⟩ ?_
     clear s0 s2 s3 s4 hsz
     clear tm
     intro j2 tm wq J2 K2 hsz hI2 hJ2 hK2
     obtain ⟨m,hj2,hm0,hm1,hs,hwq,hm⟩:=hI2
     obtain rfl:wr=wq:=hwq.symm
     simp only [Fs] at hs
     obtain ⟨s0,s2,s3,s4,-⟩:=hs
     subst hj2
     have HM:Hid (sc [] true m st re (l.drop m)=R):=hm
     clear hm
     by_cases hmlt:m < l.length
     ·have M0:(0:Int)<=(m:Int):=by omega
      have M1:(m:Int) < (l.length:Int):=by omega
      have W2:IntKind.i64.wrap ((m:Int)+1)=(m:Int)+1:=by rw [IntKind.wrap_i64]; omega
      have HD2:Hid (l.drop m=cAt l m :: l.drop (m+1)):=drop_cAt hmlt
      by_cases h10:(cAt l m).toNat=10
      ·have h10b:(((cAt l m).toNat:Int) == 10)=true:=by simp; omega
       have HN:Hid (sc [] false m st re (l.drop m)=R):=hidP (by rw [<- HM.out,HD2.out,scm_nl h10])
       go_upto_if 40 with fail
       refine wp_cond_true (by go_simp <;> omega) ?_
       go_upto_if 46 with fail
       refine wp_cond_true (by go_simp <;> omega) ?_
       go_wp2_with fail
       refine Met.intro (hJo (l.length - m) _ _ (by simp [hsz]) ⟨m,st,re,vs,vr,sl,rfl,by omega,(by simp only [Fs]; and_intros <;> simp [hsz,s0,s2,s3,s4]),HI.out,by omega,by omega,HN.out⟩ (by omega))
      ·have h10b:(((cAt l m).toNat:Int) == 10)=false:=by simp; omega
       have HN:Hid (sc [] true (m+1) st re (l.drop (m+1))=R):=hidP (by rw [<- HM.out,HD2.out,scm_on h10])
       go_upto_if 40 with fail
       refine wp_cond_true (by go_simp <;> omega) ?_
       go_upto_if 46 with fail
       refine wp_cond_false (by go_simp <;> omega) ?_
       go_wp2_with fail
       refine Met.intro (hJ2 (l.length - (m+1)) _ _ (by simp [hsz]) ⟨m+1,rfl,by omega,by omega,(by simp only [Fs]; and_intros <;> simp [hsz,s0,s2,s3,s4]),rfl,HN.out⟩ (by omega))
     ·obtain rfl:m=l.length:=by omega
      have HE:Hid ((Sum.inr (st,re):Cut)=R):=hidP (by rw [<- HM.out,List.drop_length,scm_end])
      have hlim:¬ (l.length:Int) < (l.length:Int):=by omega
      go_upto_if 40 with fail
      refine wp_cond_false (by go_simp <;> omega) ?_
      obtain ⟨e1,e2⟩:st=st/\re=re:=⟨rfl,rfl⟩
      go_wp2_with fail
      try rw [Exit.noGoto_ret]
      exact bodyPost_ret (v:=.tuple #[vs.v,vr.v]) (by simp [results,Tryz.results144,go_sem,s2,s3,hsz]) rfl (by rw [<- HE.out]; exact ⟨vs,vr,sl,rfl,HI.out⟩)
    ·have b35:(((cAt l k).toNat:Int) == 35)=false:=by simp; omega
     by_cases hwd:isWd (cAt l k)=true
     ·skip
      have HQ:Hid (sc (cutL l k (k+1)) false (k+1) st re (l.drop (k+1))=R):=hidP (by rw [<- HR.out,HD.out,sc_word hwd,cut_cAt hlt]; rfl)
      have t1:=inWord_any (cAt l k) wr
      rw [hwd] at t1
      go_upto_if 20 with fail
      refine wp_cond_false (by go_simp <;> omega) ?_
      go_upto_if 27 with fail
      refine wp_cond_false (by go_simp <;> omega) ?_
      go_upto_if 34 with fail
      refine wp_cond_false (by go_simp <;> omega) ?_
      go_wp2_with fail
      refine t1.mono ?_
      rintro e wx ⟨rfl,ew⟩
      obtain rfl:wr=wx:=ew.symm
      clear t1
      go_upto_if 47 with fail
      refine wp_cond_true (by go_simp <;> omega) ?_
      go_wp2_with fail
      refine wp_loop_o 71 (fun j tm wq=>∃ m:Nat,j=l.length - m/\k+1<=m/\m<=l.length/\Fs tm [(0,.string (bs l)),(2,vs.v),(3,vr.v),(4,.int .i64 (m:Int)),(5,.int .i64 (k:Int))]/\wq=wr/\sc (cutL l k m) false m st re (l.drop m)=R) (l.length - (k+1)) (by simp [hsz]) ⟨k+1,rfl,by omega,by omega,(by simp only [Fs]; and_intros <;> simp [hsz,s0,s2,s3,s4]),rfl,HQ.out⟩ ?_
      clear s0 s2 s3 s4 hsz
      clear tm
      intro j2 tm wq J2 K2 hsz hI2 hJ2 hK2
      obtain ⟨m,hj2,hm0,hm1,hs,hwq,hm⟩:=hI2
      obtain rfl:wr=wq:=hwq.symm
      simp only [Fs] at hs
      obtain ⟨s0,s2,s3,s4,s5,-⟩:=hs
      subst hj2
      have HM:Hid (sc (cutL l k m) false m st re (l.drop m)=R):=hm
      have HNE:Hid (cutL l k m ≠ []):=hidP (fun e=>by have:=congrArg List.length e; unfold cutL at this; simp at this; omega)
      clear hm
      by_cases hmlt:m < l.length
      ·have M0:(0:Int)<=(m:Int):=by omega
       have M1:(m:Int) < (l.length:Int):=by omega
       have W2:IntKind.i64.wrap ((m:Int)+1)=(m:Int)+1:=by rw [IntKind.wrap_i64]; omega
       have HD2:Hid (l.drop m=cAt l m :: l.drop (m+1)):=drop_cAt hmlt
       have t2:=inWord_any (cAt l m) wr
       by_cases hw2:isWd (cAt l m)=true
       ·rw [hw2] at t2
        have HN:Hid (sc (cutL l k (m+1)) false (m+1) st re (l.drop (m+1))=R):=hidP (by rw [<- HM.out,HD2.out,sc_word hw2,cut_snoc (by omega) hmlt])
        go_wp2_with fail
        refine t2.mono ?_
        rintro e wx ⟨rfl,ew⟩
        obtain rfl:wr=wx:=ew.symm
        clear t2
        go_upto_if 59 with fail
        refine wp_cond_true (by go_simp <;> omega) ?_
        go_wp2_with fail
        refine Met.intro (hJ2 (l.length - (m+1)) _ _ (by simp [hsz]) ⟨m+1,rfl,by omega,by omega,(by simp only [Fs]; and_intros <;> simp [hsz,s0,s2,s3,s4,s5]),rfl,HN.out⟩ (by omega))
       ·have hw2f:isWd (cAt l m)=false:=by simpa using hw2
        rw [hw2f] at t2
        have HW:Hid (sc [] false m st (re ++ [cutL l k m]) (l.drop m)=R):=hidP (by rw [<- HM.out,HD2.out,scw_off HNE.out hw2])
        go_wp2_with fail
        refine t2.mono ?_
        rintro e wx ⟨rfl,ew⟩
        obtain rfl:wr=wx:=ew.symm
        clear t2
        go_upto_if 59 with fail
        refine wp_cond_false (by go_simp <;> omega) ?_
        have HRX:Hid (ERow eStr (wr.alloc (.cells #[.string (bs (cutL l k m))] 9)) w.heap.size vr.v re):=hidP (HI.out.rr.below bal)
        have hyw:w.heap.size<=wr.heap.size:=HI.out.bel.size
        have hrl:re.length<=20000:=by omega
        have S1:(k:Int)<=(m:Int):=by omega
        have S2:(m:Int)<=(l.length:Int):=by omega
        go_wp2_with (at_builtin; refine wpList_append_lies _ rfl (.tmp 62) (.tmp 67) 179 rfl w.heap.size 9 iA _ 1 16 Tryz.underlying179 hiA hz0 hz1 hz2 rfl (by omega) vr.v _ _ (by go_simp) HRX.out ⟨wr.heap.size,0,none⟩ 1 1 [.string (bs (cutL l k m))] (by go_simp) rfl (by exact World.news_of_block (heap_alloc_new _ _)) (by intro u hu; simp at hu; subst hu; rfl) (by omega) (by unfold maxLen; omega) (by omega) (by first | omega | (simp; omega)) _ rfl ?_)
        intro gn cn wn hown hgrow hat hlt3
        have HX2:Hid (ScI w wn vs ⟨some ⟨gn,0,none⟩,re.length+1,cn⟩ sl st (re ++ [cutL l k m])):=hidP (HI.out.word hown hgrow hat)
        clear hown hgrow hat hlt3
        go_wp2_with fail
        refine Met.intro (hJo (l.length - m) _ _ (by simp [hsz]) ⟨m,st,(re ++ [cutL l k m]),vs,⟨some ⟨gn,0,none⟩,re.length+1,cn⟩,sl,rfl,by omega,(by simp only [Fs]; and_intros <;> simp [hsz,s0,s2,s3,s4]),HX2.out,by omega,by simp; omega,HW.out⟩ (by omega))
      ·obtain rfl:m=l.length:=by omega
       have hlim:¬ (l.length:Int) < (l.length:Int):=by omega
       have HW:Hid (sc [] false l.length st (re ++ [cutL l k l.length]) (l.drop l.length)=R):=hidP (by rw [<- HM.out,List.drop_length,scw_end HNE.out])
       go_upto_if 59 with fail
       refine wp_cond_false (by go_simp <;> omega) ?_
       have HRX:Hid (ERow eStr (wr.alloc (.cells #[.string (bs (cutL l k l.length))] 9)) w.heap.size vr.v re):=hidP (HI.out.rr.below bal)
       have hyw:w.heap.size<=wr.heap.size:=HI.out.bel.size
       have hrl:re.length<=20000:=by omega
       have S1:(k:Int)<=(l.length:Int):=by omega
       have S2:(l.length:Int)<=(l.length:Int):=by omega
       go_wp2_with (at_builtin; refine wpList_append_lies _ rfl (.tmp 62) (.tmp 67) 179 rfl w.heap.size 9 iA _ 1 16 Tryz.underlying179 hiA hz0 hz1 hz2 rfl (by omega) vr.v _ _ (by go_simp) HRX.out ⟨wr.heap.size,0,none⟩ 1 1 [.string (bs (cutL l k l.length))] (by go_simp) rfl (by exact World.news_of_block (heap_alloc_new _ _)) (by intro u hu; simp at hu; subst hu; rfl) (by omega) (by unfold maxLen; omega) (by omega) (by first | omega | (simp; omega)) _ rfl ?_)
       intro gn cn wn hown hgrow hat hlt3
       have HX2:Hid (ScI w wn vs ⟨some ⟨gn,0,none⟩,re.length+1,cn⟩ sl st (re ++ [cutL l k l.length])):=hidP (HI.out.word hown hgrow hat)
       clear hown hgrow hat hlt3
       go_wp2_with fail
       refine Met.intro (hJo (l.length - l.length) _ _ (by simp [hsz]) ⟨l.length,st,(re ++ [cutL l k l.length]),vs,⟨some ⟨gn,0,none⟩,re.length+1,cn⟩,sl,rfl,by omega,(by simp only [Fs]; and_intros <;> simp [hsz,s0,s2,s3,s4]),HX2.out,by omega,by simp; omega,HW.out⟩ (by omega))
     ·have HE:Hid ((Sum.inl k:Cut)=R):=hidP (by rw [<- HR.out,HD.out,sc_bad hwd ⟨by omega,by omega,h59,h35⟩])
      have t1:=inWord_any (cAt l k) wr
      have hwf:isWd (cAt l k)=false:=by simpa using hwd
      rw [hwf] at t1
      clear hwd hwf h59 h35 h32
      go_upto_if 20 with fail
      refine wp_cond_false (by go_simp <;> omega) ?_
      go_upto_if 27 with fail
      refine wp_cond_false (by go_simp <;> omega) ?_
      go_upto_if 34 with fail
      refine wp_cond_false (by go_simp <;> omega) ?_
      go_wp2_with fail
      refine t1.mono ?_
      rintro e wx ⟨rfl,ew⟩
      obtain rfl:wr=wx:=ew.symm
      clear t1
      go_upto_if 47 with fail
      refine wp_cond_false (by go_simp <;> omega) ?_
      go_wp2_with fail
      refine ⟨rfl,?_⟩
      rw [<- HE.out]
      exact ⟨rfl,HI.out.bel⟩
 ·obtain rfl:k=l.length:=by omega
  have HE:Hid ((Sum.inr (st,re):Cut)=R):=hidP (by rw [<- HR.out,List.drop_length,sc_end])
  have hlim:¬ (l.length:Int) < (l.length:Int):=by omega
  go_upto_if 10 with fail
  refine wp_cond_false (by go_simp <;> omega) ?_
  obtain ⟨e1,e2⟩:st=st/\re=re:=⟨rfl,rfl⟩
  go_wp2_with fail
  try rw [Exit.noGoto_ret]
  exact bodyPost_ret (v:=.tuple #[vs.v,vr.v]) (by simp [results,Tryz.results144,go_sem,s2,s3,hsz]) rfl (by rw [<- HE.out]; exact ⟨vs,vr,sl,rfl,HI.out⟩)
end Go.Proofs.YtnmhkgmmpkjjeacGreat
