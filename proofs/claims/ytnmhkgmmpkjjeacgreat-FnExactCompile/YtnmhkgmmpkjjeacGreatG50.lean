import Derived.Test.YtnmhkgmmpkjjeacGreatG49
namespace Go.Proofs.YtnmhkgmmpkjjeacGreat
open Go.ChangeShapes Go.WideShapes Go.ChangeAt Go.RowKit
set_option linter.unusedVariables false
set_option linter.unusedSimpArgs false
set_option maxRecDepth 100000
attribute [local go_sem ↓] Go.wp_at_zero Go.wp_at_succ
attribute [local go_sem] bs_size bs_cAt bs_app bs_mk bs_cut bs_list
theorem readObj_any (b mb B at_:Nat) (v:PV) (all:List St) (ws:List Txt) (w0:World) (hg:Good all) (hl:all.length<=999) (hw:∀ x ∈ ws,0 < x.length/\x.length<=20000) (h:PS w0 b mb B at_ v (paOf all) ws) :
  Calls Tryz.prog 151 #[.pointer (some ⟨b,0,none⟩)] w0 fun e w'=>Touch (PT b mb B) w0 w'/\Ends (codeL all (prObj ws)) at_ e (∃ v',PI w' b mb B at_ v' (paOf (all ++ [prObj ws]))):=by
 rcases objBad (ws:=ws) with hb | ⟨n,c,f,sh,h1,h2,h3,rfl,e⟩
 ·exact readObj_bad b mb B at_ v all ws w0 hg hl hw h hb
 ·rw [e]
  exact readObj_ok b mb B at_ v all n c f sh w0 hg hl h1 h2 h3 hw h
theorem readReg_any (b mb B at_:Nat) (v:PV) (all:List St) (ws:List Txt) (w0:World) (hg:Good all) (hl:all.length<=999) (hw:∀ x ∈ ws,0 < x.length/\x.length<=20000) (h:PS w0 b mb B at_ v (paOf all) ws) :
  Calls Tryz.prog 152 #[.pointer (some ⟨b,0,none⟩)] w0 fun e w'=>Touch (PT b mb B) w0 w'/\Ends (codeL all (prReg ws)) at_ e (∃ v',PI w' b mb B at_ v' (paOf (all ++ [prReg ws]))):=by
 rcases regBad (ws:=ws) with hb | ⟨p,n,q,sh,h1,h2,h3,rfl,e⟩
 ·exact readReg_bad b mb B at_ v all ws w0 hg hl hw h hb
 ·rw [e]
  exact readReg_ok b mb B at_ v all p n q sh w0 hg hl h1 h2 h3 hw h
set_option maxHeartbeats 1000000 in
theorem readStmt_any (b mb B at_:Nat) (v:PV) (all:List St) (ws:List Txt) (w0:World) (hg:Good all) (hl:all.length<=999) (hw:∀ x ∈ ws,0 < x.length/\x.length<=20000) (h:PS w0 b mb B at_ v (paOf all) ws) :
  Calls Tryz.prog 145 #[.pointer (some ⟨b,0,none⟩)] w0 fun e w'=>Touch (PT b mb B) w0 w'/\Ends (codeL all (prSt ws)) at_ e (∃ v',PI w' b mb B at_ v' (paOf (all ++ [prSt ws]))):=by
 have HP0:Hid (PS w0 b mb B at_ v (paOf all) ws):=h
 have HT0:Hid (Touch (PT b mb B) w0 w0):=hidP (Touch.of_below (Below.refl _ _))
 have HW:Hid (∀ x ∈ ws,0 < x.length/\x.length<=20000):=hw
 clear h hw
 go_enter Tryz.func145,Tryz.ntmps145
 cases ws with
 | nil =>
  have HNO:Hid (codeL all (prSt [])=4):=hidP rfl
  obtain ⟨sx,hx⟩:=HP0.out.p
  have t1:=hidP (next_no b at_ sx w0 hx)
  clear hx
  go_wp2_with fail
  refine t1.out.mono ?_
  rintro e wz ⟨rfl,ew⟩
  obtain rfl:w0=wz:=ew.symm
  exact ⟨rfl,HT0.out,Ends.no HNO.out (by decide)⟩
 | cons h t =>
  obtain ⟨sx,hx⟩:=HP0.out.p
  have t1:=hidP (next_yes b at_ sx h t w0 hx)
  clear hx
  go_wp2_with fail
  refine t1.out.mono ?_
  rintro e w1 ⟨rfl,tb⟩
  have HP1:=hidP (HP0.out.took tb).1
  have HT1:=hidP (HT0.out.trans (HP0.out.took tb).2)
  clear tb t1 sx
  by_cases h1:h=kObj
  ·subst h1
   have hb1:(kObj == [111,98,106,101,99,116])=true:=rfl
   have HE:Hid (prSt (kObj :: t)=prObj t):=hidP rfl
   have t1:=hidP (readObj_any b mb B at_ v all t w1 hg hl (fun x hx=>HW.out x (List.mem_cons_of_mem _ hx)) HP1.out)
   go_wp2_with fail
   refine t1.out.mono ?_
   rintro e w2 ⟨ht,he⟩
   by_cases hz:codeL all (prObj t)=0
   ·obtain ⟨rfl,hv⟩:=he.1 hz
    have HV:=hidP hv
    have HT:=hidP (HT1.out.trans ht)
    clear hv ht he t1
    go_wp2_with fail
    refine bodyPost_end (v:=.tuple #[]) (by simp [results,Tryz.results145,go_sem]) rfl ⟨HT.out,?_⟩
    rw [HE.out]
    exact Ends.yes hz HV.out
   ·obtain rfl:=he.2 hz
    refine ⟨rfl,HT1.out.trans ht,?_⟩
    rw [HE.out]
    exact Ends.no rfl hz
  have hb1:(h == [111,98,106,101,99,116])=false:=beq_eq_false_iff_ne.2 h1
  by_cases h2:h=kReg
  ·subst h2
   have hb2:(kReg == [114,101,103,105,111,110])=true:=rfl
   have HE:Hid (prSt (kReg :: t)=prReg t):=hidP rfl
   have t1:=hidP (readReg_any b mb B at_ v all t w1 hg hl (fun x hx=>HW.out x (List.mem_cons_of_mem _ hx)) HP1.out)
   go_wp2_with fail
   refine t1.out.mono ?_
   rintro e w2 ⟨ht,he⟩
   by_cases hz:codeL all (prReg t)=0
   ·obtain ⟨rfl,hv⟩:=he.1 hz
    have HV:=hidP hv
    have HT:=hidP (HT1.out.trans ht)
    clear hv ht he t1
    go_wp2_with fail
    refine bodyPost_end (v:=.tuple #[]) (by simp [results,Tryz.results145,go_sem]) rfl ⟨HT.out,?_⟩
    rw [HE.out]
    exact Ends.yes hz HV.out
   ·obtain rfl:=he.2 hz
    refine ⟨rfl,HT1.out.trans ht,?_⟩
    rw [HE.out]
    exact Ends.no rfl hz
  have hb2:(h == [114,101,103,105,111,110])=false:=beq_eq_false_iff_ne.2 h2
  by_cases h3:h=kGrd
  ·subst h3
   have hb3:(kGrd == [103,117,97,114,100])=true:=rfl
   have HE:Hid (prSt (kGrd :: t)=prGrd t):=hidP rfl
   have t1:=hidP (readGuard_any b mb B at_ v all t w1 hg hl (fun x hx=>HW.out x (List.mem_cons_of_mem _ hx)) HP1.out)
   go_wp2_with fail
   refine t1.out.mono ?_
   rintro e w2 ⟨ht,he⟩
   by_cases hz:codeL all (prGrd t)=0
   ·obtain ⟨rfl,hv⟩:=he.1 hz
    have HV:=hidP hv
    have HT:=hidP (HT1.out.trans ht)
    clear hv ht he t1
    go_wp2_with fail
    refine bodyPost_end (v:=.tuple #[]) (by simp [results,Tryz.results145,go_sem]) rfl ⟨HT.out,?_⟩
    rw [HE.out]
    exact Ends.yes hz HV.out
   ·obtain rfl:=he.2 hz
    refine ⟨rfl,HT1.out.trans ht,?_⟩
    rw [HE.out]
    exact Ends.no rfl hz
  have hb3:(h == [103,117,97,114,100])=false:=beq_eq_false_iff_ne.2 h3
  have HNO:Hid (codeL all (prSt (h :: t))=4):=hidP (by
   have:prSt (h :: t)=noSt:=by show (if h=kObj then _ else if h=kReg then _ else if h=kGrd then _ else noSt)=noSt; rw [if_neg h1,if_neg h2,if_neg h3]
   rw [this]; rfl)
  clear h1 h2 h3
  have t1:=hidP (refuse_yes b 4 at_ w1 HP1.out.i.c4)
  go_wp2_with fail
  refine t1.out.mono ?_
  rintro e wz ⟨rfl,ew⟩
  obtain rfl:w1=wz:=ew.symm
  exact ⟨rfl,HT1.out,Ends.no HNO.out (by decide)⟩
theorem allOf_succ (st:List (List Txt)) (k:Nat):allOf st (k+1)=allOf st k ++ [stOf st k]:=by
 unfold allOf
 rw [List.range_succ,List.map_append]
 rfl
theorem allOf_len (st:List (List Txt)) (k:Nat):(allOf st k).length=k:=by unfold allOf; simp
theorem polS_bad {st:List (List Txt)} {re:List Txt} {k:Nat} (hk:k < st.length) (hl:¬ 1000 < st.length) (h:∀ j,j < k->codeOf st j=0) (h2:codeOf st k ≠ 0):polS st re=([],codeOf st k,((k:Nat):Int)):=by
 unfold polS
 have e:(List.range st.length).find? (fun k=>!(codeOf st k == 0))=some k:=by
  have e1:st.length=k+((st.length - k - 1)+1):=by omega
  rw [e1,List.range_add,List.find?_append,List.range_succ_eq_map,List.map_cons,List.find?_cons_of_pos (by simpa using h2)]
  have:(List.range k).find? (fun k=>!(codeOf st k == 0))=none:=by
   rw [List.find?_eq_none]
   intro x hx
   rw [h x (List.mem_range.1 hx)]; decide
  rw [this]
  rfl
 rw [if_neg hl,e]
theorem polS_good {st:List (List Txt)} {re:List Txt} (hl:¬ 1000 < st.length) (h:∀ j,j < st.length->codeOf st j=0):polS st re=if re ≠ [] then ([],(4:Int),((st.length:Nat):Int)) else (spansTo (allOf st st.length) 4096,(0:Int),(0:Int)):=by
 unfold polS
 have:(List.range st.length).find? (fun k=>!(codeOf st k == 0))=none:=by
  rw [List.find?_eq_none]
  intro x hx
  rw [h x (List.mem_range.1 hx)]; decide
 rw [if_neg hl,this]
theorem prGrd_kind (t:List Txt):(prGrd t).kind ≠ 2:=by
 match t with
 | []=>exact (by decide:noSt.kind ≠ 2)
 | [_]=>exact (by decide:noSt.kind ≠ 2)
 | [p,c] =>
  show (if numOk p=true/\numOk c=true then (⟨3,[],valL p,valL c,0,false⟩:St) else noSt).kind ≠ 2
  split <;> simp [noSt]
 | _ :: _ :: _ :: _=>exact (by decide:noSt.kind ≠ 2)
theorem stmtL_perm (ts:List Txt) (h:(stmtL ts).kind=2):1<=(stmtL ts).perm:=by
 rw [<- prSt_eq] at h ⊢
 have hr:∀ t,(prReg t).kind=2->1<=(prReg t).perm:=by
  intro t ht
  rcases regBad (ws:=t) with hb | ⟨p,n,q,sh,h1,h2,h3,rfl,e⟩
  ·rw [hb] at ht; cases ht
  ·rw [e]
   have:=permL_ok q
   show 1<=permL q
   omega
 cases ts with
 | nil=>cases h
 | cons x t =>
  have e:prSt (x :: t)=if x=kObj then prObj t else if x=kReg then prReg t else if x=kGrd then prGrd t else noSt:=rfl
  rw [e] at h ⊢
  by_cases hx:x=kObj
  ·rw [if_pos hx] at h
   rcases objBad (ws:=t) with hb | ⟨n,c,f,sh,h1,h2,h3,rfl,e⟩
   ·rw [hb] at h; cases h
   ·rw [e] at h; cases h
  ·rw [if_neg hx] at h ⊢
   by_cases hx2:x=kReg
   ·rw [if_pos hx2] at h ⊢
    exact hr t h
   ·rw [if_neg hx2] at h ⊢
    by_cases hx3:x=kGrd
    ·rw [if_pos hx3] at h
     exact absurd h (prGrd_kind t)
    ·rw [if_neg hx3] at h
     cases h
theorem flat_bd:∀ (st:List (List Txt)) (re:List Txt),st.length<=(flatS st re).length/\re.length<=(flatS st re).length/\(∀ s ∈ st,s.length<=(flatS st re).length/\∀ x ∈ s,x ∈ flatS st re)
 | [],re=>⟨Nat.zero_le _,Nat.le_refl _,fun s hs=>by cases hs⟩
 | s :: st,re=>by
  obtain ⟨h1,h2,h3⟩:=flat_bd st re
  have e:flatS (s :: st) re=(s ++ [[59]]) ++ flatS st re:=by unfold flatS; simp
  rw [e]
  simp only [List.length_append,List.length_cons,List.length_nil]
  refine ⟨by omega,by omega,fun t ht=>?_⟩
  rcases List.mem_cons.1 ht with rfl | ht
  ·exact ⟨by omega,fun x hx=>List.mem_append_left _ (List.mem_append_left _ hx)⟩
  ·obtain ⟨a,b⟩:=h3 t ht
   exact ⟨by omega,fun x hx=>List.mem_append_right _ (b x hx)⟩
theorem words_bd {l:Txt} {st:List (List Txt)} {re:List Txt} (h:sc [] false 0 [] [] l=.inr (st,re)):st.length<=l.length/\re.length<=l.length/\∀ k,(st.getD k []).length<=l.length/\∀ x ∈ st.getD k [],0 < x.length/\x.length<=l.length:=by
 have hs:=sc_spec l [] false 0 [] [] (fun h=>by cases h)
 rw [h] at hs
 have hf:flatS st re=tokL [] (blankL false l):=hs.2
 have htb:=tokL_bd [] (blankL false l)
 simp only [List.length_nil,Nat.zero_add] at htb
 rw [<- hf,blankL_len] at htb
 obtain ⟨b1,b2,b3⟩:=flat_bd st re
 have hne:=(sc_ne l [] false 0 [] [] st re (fun s hs=>by cases hs) (fun x hx=>by cases hx) h).1
 refine ⟨by omega,by omega,fun k=>?_⟩
 by_cases hk:k < st.length
 ·have hm:st.getD k [] ∈ st:=by
   rw [List.getD_eq_getElem?_getD,List.getElem?_eq_getElem hk]
   exact List.getElem_mem hk
  obtain ⟨c1,c2⟩:=b3 _ hm
  refine ⟨by omega,fun x hx=>⟨List.length_pos_iff.2 (hne _ hm x hx),htb.2 x (c2 x hx)⟩⟩
 ·rw [List.getD_eq_getElem?_getD,List.getElem?_eq_none (by omega)]
  exact ⟨Nat.zero_le _,fun x hx=>by cases hx⟩
structure PB (w:World) (b mb:Nat):Prop where
 c0:w.cell? ⟨b,0,none⟩=some (.map (some mb))
 c1:w.cell? ⟨b,1,none⟩=some (.slice none 0 0)
 c2:w.cell? ⟨b,2,none⟩=some (.slice none 0 0)
 c3:w.cell? ⟨b,3,none⟩=some (.slice none 0 0)
 c4:w.cell? ⟨b,4,none⟩=some (.int .i64 0)
 c5:w.cell? ⟨b,5,none⟩=some (.slice none 0 0)
 fz:∀ i,w.frozen? ⟨b,i,none⟩=false
 mp:MapO w mb (fun _=>none)
 bl:b < w.heap.size
 ml:mb < w.heap.size
 bm:b ≠ mb
theorem PB.start {w w1:World} {b mb:Nat} (h:PB w b mb) (hb:Below w.heap.size w w1):PI w1 b mb w1.heap.size 0 ⟨none,0,none,0,none,0⟩ (paOf []):=by
 have c:∀ i,w1.cell? ⟨b,i,none⟩=w.cell? ⟨b,i,none⟩:=fun i=>hb.cell (p:=⟨b,i,none⟩) h.bl
 have hs:=hb.size
 have e:seeAll []=fun _=>none:=by funext n; rfl
 refine ⟨(c 0).trans h.c0,(c 1).trans h.c1,(c 2).trans h.c2,(c 3).trans h.c3,(c 4).trans h.c4,⟨_,(c 5).trans h.c5⟩,fun i=>(hb.frozen (p:=⟨b,i,none⟩) h.bl).trans (h.fz i),?_,⟨by simp [ecells,paOf,framesOf],.inl ⟨rfl,rfl⟩⟩,⟨by simp [ecells,paOf,pagesOf],.inl ⟨rfl,rfl⟩⟩,⟨by simp [ecells,paOf,regsOf],.inl ⟨rfl,rfl⟩⟩,fun k hk=>(by cases hk),fun k hk=>(by cases hk),Nat.lt_of_lt_of_le h.bl hs,Nat.lt_of_lt_of_le h.ml hs,h.bm,Nat.le_refl _⟩
 show MapO w1 mb (seeAll [])
 rw [e]
 exact h.mp.of_block (hb.block mb h.ml)
def RdPost (w:World) (b mb:Nat) (r:List SpanE × Int × Int) (e:Ending) (w':World):Prop:=Touch (fun k=>k=b\/k=mb) w w'/\(r.2.1 ≠ 0->e=.panicked [{ v:=diagV r.2.1 r.2.2,recovered:=false }])/\(r.2.1=0->e=.returned (.tuple #[])/\∃ all at_ B v,Good all/\r=(spansTo all 4096,0,0)/\w.heap.size<=B/\PI w' b mb B at_ v (paOf all)/\all.length<=1000)
theorem RdPost.no {w w':World} {b mb:Nat} {c d:Int} {r:List SpanE × Int × Int} (hr:r=([],c,d)) (hc:c ≠ 0) (ht:Touch (fun k=>k=b\/k=mb) w w'):RdPost w b mb r (.panicked [{ v:=diagV c d,recovered:=false }]) w':=by
 subst hr
 exact ⟨ht,fun _=>rfl,fun h=>absurd h hc⟩
theorem tUp {b mb:Nat} {w w1 w2:World} (h:Below w.heap.size w w1) (ht:Touch (PT b mb w1.heap.size) w1 w2):Touch (fun k=>k=b\/k=mb) w w2 :=
 ⟨ht.os.trans h.os,ht.tape.trans h.tape,ht.output.trans h.output,Nat.le_trans h.size ht.size,fun k hk hn=>(ht.block k (Nat.lt_of_lt_of_le hk h.size) (fun hp=>by
  rcases hp with e | e | e
  ·exact hn (.inl e)
  ·exact hn (.inr e)
  ·have:=h.size; omega)).trans (h.block k hk)⟩
theorem slCell {w:World} {B c:Nat} {a:Option Addr} {sl:List SlE} (h:ERow eSl w B (.slice a sl.length c) sl) (k:Nat) (hk:k < sl.length):∃ g,a=some ⟨g,0,none⟩/\B<=g/\g < w.heap.size/\w.cell? ⟨g,k,none⟩=some (eAt eSl sl k).v:=by
 obtain ⟨a',c',e,hf⟩:=h.form
 simp only [Value.slice.injEq] at e
 obtain ⟨g,N,f,hag,hbg,hr,hN,hc⟩:=hf (by omega)
 refine ⟨g,e.1.trans hag,hbg,hr.lt,?_⟩
 have hi':k * 1+0 < sl.length * 1:=by omega
 have:=hr.cell (Nat.lt_of_lt_of_le hi' hN)
 have hc0:f (k * 1+0)=eCell eSl sl k 0:=hc k hk 0 (by decide)
 rw [hc0,show k * 1+0=k by omega] at this
 exact this
set_option maxHeartbeats 4000000 in
theorem read_any (l:Txt) (b mb:Nat) (w:World) (hl:l.length<=9223372036854775807) (h:PB w b mb):Calls Tryz.prog 133 #[.pointer (some ⟨b,0,none⟩),.string (bs l)] w (RdPost w b mb (polL l)):=by
 have hbl:=h.bl
 have hml:=h.ml
 have HBM:Hid (b ≠ mb):=h.bm
 have HB:Hid (PB w b mb):=h
 clear h
 refine calls_o 48 Tryz.func133 rfl (by rfl) (by simp) ?_
 intro tm hsz hla
 have s0:=hla 0 (by simp)
 have s1:=hla 1 (by simp)
 clear hla
 simp only [List.getElem_toArray,List.getElem_cons_zero,List.getElem_cons_succ] at s0 s1
 by_cases h1:20000 < l.length
 ·have HR:Hid (polL l=([],1,0)):=hidP (by unfold polL; rw [if_pos h1])
  have h1':(20000:Int) < (l.length:Int):=by omega
  clear h1
  go_upto_if 10 with fail
  refine wp_cond_true (by go_simp) ?_
  go_wp2_with fail
  exact ⟨rfl,RdPost.no HR.out (by decide) (Touch.of_below (Below.refl _ _))⟩
 have h1':¬ (20000:Int) < (l.length:Int):=by omega
 have HCUT:=hidP (polL_cut h1)
 have t1:=hidP (scan_any l w (by omega))
 have HL:Hid (l.length<=20000):=hidP (by omega)
 clear h1
 go_upto_if 10 with fail
 refine wp_cond_false (by go_simp) ?_
 go_wp2_with fail
 refine t1.out.mono ?_
 rintro e w1 hsc
 cases hR:sc [] false 0 [] [] l with
 | inl k =>
  rw [hR] at hsc
  obtain ⟨rfl,hb⟩:=hsc
  have HR:Hid (polL l=([],2,((k:Nat):Int))):=hidP (by rw [HCUT.out,hR])
  exact ⟨rfl,RdPost.no HR.out (by decide) (Touch.of_below hb)⟩
 | inr zz =>
  obtain ⟨st,re⟩:=zz
  rw [hR] at hsc
  obtain ⟨vs,vr,sl,rfl,hi⟩:=hsc
  have HPL:Hid (polL l=polS st re):=hidP (by rw [HCUT.out,hR])
  obtain ⟨wb1,wb2,wb3⟩:=words_bd hR
  have HWB:Hid (∀ k,(st.getD k []).length<=20000/\∀ x ∈ st.getD k [],0 < x.length/\x.length<=20000):=hidP (fun k=>⟨by have:=(wb3 k).1; have:=HL.out; omega,fun x hx=>⟨((wb3 k).2 x hx).1,by have:=((wb3 k).2 x hx).2; have:=HL.out; omega⟩⟩)
  have hsl:=hi.ln
  have hst:st.length<=20000:=by have:=HL.out; omega
  have hre:re.length<=20000:=by have:=HL.out; omega
  have HBEL:Hid (Below w.heap.size w w1):=hi.bel
  have HPI:Hid (PI w1 b mb w1.heap.size 0 ⟨none,0,none,0,none,0⟩ (paOf [])):=hidP (HB.out.start hi.bel)
  obtain ⟨va,vn,vc⟩:=vs
  obtain ⟨ra,rn,rc⟩:=vr
  obtain rfl:vn=st.length:=by
   obtain ⟨a',c',e,_⟩:=hi.rs.form
   simp only [SlE.v,Value.slice.injEq] at e
   omega
  obtain rfl:rn=re.length:=by
   obtain ⟨a',c',e,_⟩:=hi.rr.form
   simp only [SlE.v,Value.slice.injEq] at e
   omega
  have hw1s:w.heap.size<=w1.heap.size:=hi.bel.size
  have HSK:Hid (∀ k,k < st.length->∀ wr,Touch (PT b mb w1.heap.size) w1 wr->∃ g sk,va=some ⟨g,0,none⟩/\wr.cell? ⟨g,k,none⟩=some (SlE.v sk)/\g ≠ b/\∀ wX,Touch (fun k=>k=b) wr wX->WSub wX b sk (st.getD k [])):=hidP (fun k hk wr ht=>by
   have hrs:ERow eSl w1 w.heap.size (.slice va sl.length vc) sl:=by rw [hsl]; exact hi.rs
   obtain ⟨g,hg,hgb,hgl,hc⟩:=slCell hrs k (by omega)
   have hkeep:∀ g i,w.heap.size<=g->g < w1.heap.size->wr.cell? ⟨g,i,none⟩=w1.cell? ⟨g,i,none⟩:=fun g i h1 h2=>World.cell?_of_block (a:=⟨g,i,none⟩) (ht.block g h2 (fun hp=>by rcases hp with e | e | e <;> omega))
   refine ⟨g,eAt eSl sl k,hg,(hkeep g k hgb hgl).trans hc,by omega,fun wX hX=>?_⟩
   obtain ⟨w1',w2',w3',w4'⟩:=hi.ws k hk
   refine ⟨w1',(HWB.out k).1,w3',w4',fun h0=>?_⟩
   obtain ⟨g',e1,e2,e3,e4⟩:=w2' h0
   refine ⟨g',0,e1,by omega,fun i hi'=>?_⟩
   rw [Nat.zero_add]
   have:wX.cell? ⟨g',i,none⟩=wr.cell? ⟨g',i,none⟩:=World.cell?_of_block (a:=⟨g',i,none⟩) (hX.block g' (Nat.lt_of_lt_of_le e3 ht.size) (by show ¬ g'=b; omega))
   rw [this,hkeep g' i e2 e3]
   exact e4 i hi')
  clear hi hsl hR wb1 wb2 wb3 t1 HCUT
  dsimp only [SlE.v]
  by_cases h3:1000 < st.length
  ·have HR:Hid (polL l=([],3,1000)):=hidP (by rw [HPL.out]; unfold polS; rw [if_pos h3])
   have h3':(1000:Int) < (st.length:Int):=by omega
   clear h3
   go_upto_if 20 with fail
   refine wp_cond_true (by go_simp) ?_
   go_wp2_with fail
   exact ⟨rfl,RdPost.no HR.out (by decide) (Touch.of_below HBEL.out)⟩
  have h3':¬ (1000:Int) < (st.length:Int):=by omega
  have HST:Hid (¬ 1000 < st.length):=h3
  have hst3:st.length<=1000:=by omega
  clear h3
  go_upto_if 20 with fail
  refine wp_cond_false (by go_simp) ?_
  go_wp2_with fail
  refine wp_loop_o 48 (fun j tm wr=>∃ k:Nat,j=st.length - k/\k<=st.length/\Fs tm [(0,.pointer (some ⟨b,0,none⟩)),(4,.slice va st.length vc),(5,.slice ra re.length rc),(23,.slice va st.length vc),(24,.int .i64 (st.length:Int)),(25,.int .i64 (k:Int))]/\(∀ i,i < k->codeOf st i=0)/\Good (allOf st k)/\Touch (PT b mb w1.heap.size) w1 wr/\∃ at_ v,PI wr b mb w1.heap.size at_ v (paOf (allOf st k))) st.length (by simp [hsz]) ⟨0,by omega,by omega,by simp only [Fs]; and_intros <;> simp [hsz,s0,s1],fun i hi=>absurd hi (Nat.not_lt_zero _),Good.nil,Touch.of_below (Below.refl _ _),0,_,HPI.out⟩ ?_
  clear s0 s1 hsz
  clear tm
  intro j tm wr J K hsz hI hJ hK
  obtain ⟨k,hj,hk,hs,hz,hgd,ht,at0,v,hp⟩:=hI
  simp only [Fs] at hs
  obtain ⟨s0,s4,s5,s23,s24,s25,-⟩:=hs
  subst hj
  have HZ:Hid (∀ i,i < k->codeOf st i=0):=hz
  have HGD:Hid (Good (allOf st k)):=hgd
  have HT:Hid (Touch (PT b mb w1.heap.size) w1 wr):=ht
  have HP:Hid (PI wr b mb w1.heap.size at0 v (paOf (allOf st k))):=hp
  clear hz hgd ht hp
  by_cases hlt:k < st.length
  ·have K0:(0:Int)<=(k:Int):=by omega
   have K1:(k:Int) < (st.length:Int):=by omega
   have W5:IntKind.i64.wrap ((k:Int)+1)=(k:Int)+1:=by rw [IntKind.wrap_i64]; omega
   obtain ⟨g,sk,rfl,hck,hgb,hws⟩:=HSK.out k hlt wr HT.out
   have x4:=HP.out.c4
   obtain ⟨u5,x5⟩:=HP.out.c5
   have f4:=HP.out.fz 4
   have f5:=HP.out.fz 5
   obtain ⟨w2,hw2⟩:∃ w2,w2=(wr.setCell ⟨b,4,none⟩ (.int .i64 (k:Int))).setCell ⟨b,5,none⟩ (.slice sk.a sk.n sk.c):=⟨_,rfl⟩
   have HW2:Hid (w2=_):=hw2
   have b2:Touch (fun k=>k=b) wr w2:=by rw [hw2]; exact (pset (a:=⟨b,4,none⟩)).trans (pset (a:=⟨b,5,none⟩))
   have HPS:Hid (PS w2 b mb w1.heap.size k v (paOf (allOf st k)) (st.getD k [])):=hidP (by
    have hwx:=hws w2 b2
    rw [hw2] at hwx ⊢
    have hpi:=(HP.out.set4 k).set5 (.slice sk.a sk.n sk.c)
    refine ⟨hpi,sk,hpi.c4,World.cell?_setCell_same _ _ _ ((pcell (by omega)).trans x5),hpi.fz 5,hwx⟩)
   have HT2:=hidP (HT.out.trans (b2.up (S':=PT b mb w1.heap.size) (fun k hk=>.inl hk)))
   have t2:=hidP (readStmt_any b mb w1.heap.size k v (allOf st k) (st.getD k []) w2 HGD.out (by rw [allOf_len]; omega) (HWB.out k).2 HPS.out)
   have HCE:Hid (codeL (allOf st k) (prSt (st.getD k []))=codeOf st k/\allOf st k ++ [prSt (st.getD k [])]=allOf st (k+1)):=hidP (by rw [prSt_eq,allOf_succ]; exact ⟨rfl,rfl⟩)
   clear hws hw2 b2
   dsimp only [SlE.v] at hck
   go_upto_if 26 with fail
   refine wp_cond_true (by go_simp <;> omega) ?_
   go_wp2_with fail
   rw [<- HW2.out]
   refine t2.out.mono ?_
   rintro e w3 ⟨ht3,he3⟩
   rw [HCE.out.1] at he3
   by_cases hc:codeOf st k=0
   ·obtain ⟨rfl,v',hv'⟩:=he3.1 hc
    rw [HCE.out.2] at hv'
    have HP3:=hidP hv'
    have HT3:=hidP (HT2.out.trans ht3)
    have HGN:Hid (Good (allOf st (k+1))):=hidP (by rw [allOf_succ]; exact HGD.out.snoc _ (stmtL_ok _) (stmtL_perm _) (stmtL_kind _) hc)
    have HZN:Hid (∀ i,i < k+1->codeOf st i=0):=hidP (fun i hi=>by
     rcases Nat.lt_or_ge i k with h | h
     ·exact HZ.out i h
     ·obtain rfl:i=k:=by omega
      exact hc)
    clear hv' ht3 he3 hc t2
    go_wp2_with fail
    refine Met.intro (hJ (st.length - (k+1)) _ _ (by simp [hsz]) ⟨k+1,rfl,by omega,by rw [show ((k+1:Nat):Int)=(k:Int)+1 by omega]; simp only [Fs]; and_intros <;> simp [hsz,s0,s4,s5,s23,s24,s25],HZN.out,HGN.out,HT3.out,_,v',HP3.out⟩ (by omega))
   ·obtain rfl:=he3.2 hc
    have HR:Hid (polL l=([],codeOf st k,((k:Nat):Int))):=hidP (by rw [HPL.out]; exact polS_bad hlt HST.out HZ.out hc)
    exact ⟨rfl,RdPost.no HR.out hc (tUp HBEL.out (HT2.out.trans ht3))⟩
  ·obtain rfl:k=st.length:=by omega
   have K2:¬ (st.length:Int) < (st.length:Int):=by omega
   have HPG:=hidP (polS_good (re:=re) HST.out HZ.out)
   go_upto_if 26 with fail
   refine wp_cond_false (by go_simp <;> omega) ?_
   by_cases hr0:re=[]
   ·have HR:Hid (polL l=(spansTo (allOf st st.length) 4096,0,0)):=hidP (by rw [HPL.out,HPG.out,if_neg (fun h=>h hr0)])
    subst hr0
    go_upto_if 43 with fail
    refine wp_cond_false (by go_simp) ?_
    go_wp2_with fail
    refine bodyPost_end (v:=.tuple #[]) (by simp [results,Tryz.results133,go_sem,hsz]) rfl ?_
    rw [HR.out]
    exact ⟨tUp HBEL.out HT.out,fun h=>absurd rfl h,fun _=>⟨rfl,allOf st st.length,at0,w1.heap.size,v,HGD.out,rfl,hw1s,HP.out,by rw [allOf_len]; omega⟩⟩
   ·have hr1:0 < re.length:=List.length_pos_iff.2 hr0
    have HR:Hid (polL l=([],4,((st.length:Nat):Int))):=hidP (by rw [HPL.out,HPG.out,if_pos hr0])
    have K3:(0:Int) < (re.length:Int):=by omega
    clear hr0
    go_upto_if 43 with fail
    refine wp_cond_true (by go_simp <;> omega) ?_
    go_wp2_with fail
    exact ⟨rfl,RdPost.no HR.out (by decide) (tUp HBEL.out HT.out)⟩
end Go.Proofs.YtnmhkgmmpkjjeacGreat
