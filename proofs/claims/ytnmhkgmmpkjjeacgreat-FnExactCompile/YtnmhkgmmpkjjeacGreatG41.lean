import Derived.Test.YtnmhkgmmpkjjeacGreatG21
import Derived.Test.YtnmhkgmmpkjjeacGreatG00
import Derived.Deep.DeepCutAuto
import Derived.Test.YtnmhkgmmpkjjeacGreatG05
import Derived.Deep.AppendLies
namespace Go.Proofs.YtnmhkgmmpkjjeacGreat
set_option linter.unusedVariables false
set_option maxRecDepth 100000
abbrev Cut:Type:=Nat ⊕ (List (List Txt) × List Txt)
def sc:Txt->Bool->Nat->List (List Txt)->List Txt->Txt->Cut
 | w,_,_,st,re,[]=>.inr (st,re ++ flush w)
 | w,cm,i,st,re,c :: r =>
  if cm=true then (if c.toNat=10 then sc [] false (i+1) st re r else sc [] true (i+1) st re r)
  else if isWd c=true then sc (w ++ [c]) false (i+1) st re r
  else if c.toNat=32\/c.toNat=10 then sc [] false (i+1) st (re ++ flush w) r
  else if c.toNat=59 then sc [] false (i+1) (st ++ [re ++ flush w]) [] r
  else if c.toNat=35 then sc [] true (i+1) st (re ++ flush w) r
  else .inl i
def flatS (st:List (List Txt)) (re:List Txt):List Txt:=(st.map fun s=>s ++ [[59]]).flatten ++ re
theorem flatS_snoc (st:List (List Txt)) (s re:List Txt):flatS (st ++ [s]) re=flatS st s ++ [[59]] ++ re:=by
 unfold flatS
 simp
theorem flatS_re (st:List (List Txt)) (a b:List Txt):flatS st (a ++ b)=flatS st a ++ b:=by
 unfold flatS
 simp
theorem wd_not {c:UInt8} (h:isWd c=true):c.toNat ≠ 32/\c.toNat ≠ 10/\c.toNat ≠ 59/\c.toNat ≠ 35:=by
 unfold isWd isLow isDig at h
 simp at h
 omega
theorem flush_ne {w:Txt} (h:w ≠ []):flush w=[w]:=by unfold flush; rw [if_neg h]
theorem flush_nil:flush []=[]:=rfl
theorem sc_spec:∀ (r:Txt) (w:Txt) (cm:Bool) (i:Nat) (st:List (List Txt)) (re:List Txt),(cm=true->w=[]) ->
  match sc w cm i st re r with
  | .inl k=>badL i (blankL cm r)=(k:Nat)
  | .inr (st',re')=>badL i (blankL cm r)=-1/\flatS st' re'=flatS st re ++ tokL w (blankL cm r)
 | [],w,cm,i,st,re,_=>by
  unfold sc
  refine ⟨rfl,?_⟩
  rw [flatS_re]
  rfl
 | c :: r,w,cm,i,st,re,hw=>by
  unfold sc
  by_cases hcm:cm=true
  ·obtain rfl:=hw hcm
   subst hcm
   rw [if_pos rfl]
   by_cases h10:c.toNat=10
   ·rw [if_pos h10]
    have e:insN true c=false:=by unfold insN; simp [h10]
    have ih:=sc_spec r [] false (i+1) st re (fun h=>by cases h)
    have ok:okB c=true:=by unfold okB; simp [h10]
    have nw:isWd c=false:=by
     cases hh:isWd c
     ·rfl
     ·exact absurd h10 (wd_not hh).2.1
    unfold blankL
    rw [e]
    simp only [Bool.false_eq_true,if_false]
    unfold badL tokL
    rw [ok,nw]
    simp only [if_true,Bool.false_eq_true,if_false]
    have n59:¬ c.toNat=59:=by omega
    simpa [n59,flush] using ih
   ·rw [if_neg h10]
    have e:insN true c=true:=by unfold insN; simp [h10]
    have ih:=sc_spec r [] true (i+1) st re (fun _=>rfl)
    unfold blankL
    rw [e]
    simp only [if_true]
    unfold badL tokL
    have ok:okB 32=true:=by decide
    have nw:isWd 32=false:=by decide
    rw [ok,nw]
    simp only [if_true,Bool.false_eq_true,if_false]
    have n59:¬ (32:UInt8).toNat=59:=by decide
    simpa [n59,flush] using ih
  ·have hcm':cm=false:=by simpa using hcm
   subst hcm'
   rw [if_neg (by decide)]
   by_cases h35:c.toNat=35
   ·have e:insN false c=true:=by unfold insN; simp [h35]
    have nw:isWd c=false:=by
     cases hh:isWd c
     ·rfl
     ·exact absurd h35 (wd_not hh).2.2.2
    rw [nw,if_neg (by decide),if_neg (by omega),if_neg (by omega),if_pos h35]
    have ih:=sc_spec r [] true (i+1) st (re ++ flush w) (fun _=>rfl)
    unfold blankL
    rw [e]
    simp only [if_true]
    unfold badL tokL
    have ok:okB 32=true:=by decide
    have nw:isWd 32=false:=by decide
    rw [ok,nw]
    simp only [if_true,Bool.false_eq_true,if_false]
    have n59:¬ (32:UInt8).toNat=59:=by decide
    rw [flatS_re] at ih
    simpa [n59] using ih
   ·have e:insN false c=false:=by unfold insN; simp [h35]
    unfold blankL
    rw [e]
    simp only [Bool.false_eq_true,if_false]
    unfold badL tokL
    by_cases hwd:isWd c=true
    ·have ok:okB c=true:=by unfold okB; simp [hwd]
     rw [if_pos hwd,if_pos ok,if_pos hwd]
     exact sc_spec r (w ++ [c]) false (i+1) st re (fun h=>by cases h)
    ·rw [if_neg hwd,if_neg hwd]
     by_cases hb:c.toNat=32\/c.toNat=10
     ·have ok:okB c=true:=by unfold okB; rcases hb with h | h <;> simp [h]
      rw [if_pos hb,if_pos ok]
      have ih:=sc_spec r [] false (i+1) st (re ++ flush w) (fun h=>by cases h)
      have n59:¬ c.toNat=59:=by omega
      rw [flatS_re] at ih
      simpa [n59] using ih
     ·rw [if_neg hb]
      by_cases h59:c.toNat=59
      ·have ok:okB c=true:=by unfold okB; simp [h59]
       rw [if_pos h59,if_pos ok]
       have ih:=sc_spec r [] false (i+1) (st ++ [re ++ flush w]) [] (fun h=>by cases h)
       rw [flatS_snoc,flatS_re] at ih
       simpa [h59] using ih
      ·have ok:¬ okB c=true:=by
        unfold okB
        have:isWd c=false:=by simpa using hwd
        simp [this,h59]
        omega
       rw [if_neg h59,if_neg h35,if_neg ok]
def WdL (l:List Txt):Prop:=∀ x ∈ l,x ≠ [59]
theorem sc_wd:∀ (r:Txt) (w:Txt) (cm:Bool) (i:Nat) (st:List (List Txt)) (re:List Txt) (st':List (List Txt)) (re':List Txt),(∀ c ∈ w,isWd c=true)->(∀ s ∈ st,WdL s)->WdL re->sc w cm i st re r=.inr (st',re')->(∀ s ∈ st',WdL s)/\WdL re'
 | [],w,cm,i,st,re,st',re',hw,hs,hr,h=>by
  unfold sc at h
  cases h
  refine ⟨hs,fun x hx=>?_⟩
  rcases List.mem_append.1 hx with h | h
  ·exact hr x h
  ·unfold flush at h
   split at h
   ·cases h
   ·rw [List.mem_singleton.1 h]
    intro e
    have:=hw 59 (by rw [e]; simp)
    revert this; decide
 | c :: r,w,cm,i,st,re,st',re',hw,hs,hr,h=>by
  have hrf:WdL (re ++ flush w):=by
   intro x hx
   rcases List.mem_append.1 hx with h | h
   ·exact hr x h
   ·unfold flush at h
    split at h
    ·cases h
    ·rw [List.mem_singleton.1 h]
     intro e
     have:=hw 59 (by rw [e]; simp)
     revert this; decide
  have nl:∀ c ∈ ([]:Txt),isWd c=true:=fun c hc=>by cases hc
  unfold sc at h
  split at h
  ·split at h
   ·exact sc_wd r _ _ _ _ _ _ _ nl hs hr h
   ·exact sc_wd r _ _ _ _ _ _ _ nl hs hr h
  ·split at h
   ·rename_i hc
    refine sc_wd r _ _ _ _ _ _ _ (fun x hx=>?_) hs hr h
    rcases List.mem_append.1 hx with h' | h'
    ·exact hw x h'
    ·rw [List.mem_singleton.1 h']; exact hc
   ·split at h
    ·exact sc_wd r _ _ _ _ _ _ _ nl hs hrf h
    ·split at h
     ·refine sc_wd r _ _ _ _ _ _ _ nl (fun s hs'=>?_) (fun x hx=>by cases hx) h
      rcases List.mem_append.1 hs' with h' | h'
      ·exact hs s h'
      ·rw [List.mem_singleton.1 h']; exact hrf
     ·split at h
      ·exact sc_wd r _ _ _ _ _ _ _ nl hs hrf h
      ·cases h
theorem tAt_app_l {A B:List Txt} {i:Nat} (h:i < A.length):tAt (A ++ B) i=tAt A i:=by
 unfold tAt
 rw [List.getD_eq_getElem?_getD,List.getD_eq_getElem?_getD,List.getElem?_append_left h]
theorem tAt_app_r {A B:List Txt} (i:Nat):tAt (A ++ B) (A.length+i)=tAt B i:=by
 unfold tAt
 rw [List.getD_eq_getElem?_getD,List.getD_eq_getElem?_getD,List.getElem?_append_right (by omega),Nat.add_sub_cancel_left]
theorem ends_none {s:List Txt} (h:WdL s):endsTo s s.length=[]:=by
 unfold endsTo
 rw [List.filter_eq_nil_iff]
 intro i hi
 have hi:=List.mem_range.1 hi
 have:tAt s i ∈ s:=by
  unfold tAt
  rw [List.getD_eq_getElem?_getD,List.getElem?_eq_getElem hi]
  exact List.getElem_mem _
 simpa using h _ this
theorem ends_app (A B:List Txt):endsTo (A ++ B) (A ++ B).length=endsTo A A.length ++ (endsTo B B.length).map (·+A.length):=by
 unfold endsTo
 rw [List.length_append,List.range_add,List.filter_append]
 congr 1
 ·refine List.filter_congr (fun i hi=>?_)
  rw [tAt_app_l (List.mem_range.1 hi)]
 ·rw [List.filter_map,List.map_congr_left (fun a _=>Nat.add_comm _ _)]
  congr 1
  refine List.filter_congr (fun i hi=>?_)
  simp only [Function.comp]
  rw [tAt_app_r]
theorem ends_one:endsTo [[59]] 1=[0]:=by decide
theorem subL_app (A B:List Txt) (i j:Nat):subL (A ++ B) (i+A.length) (j+A.length)=subL B i j:=by
 unfold subL
 rw [List.drop_append,List.drop_eq_nil_of_le (by omega),List.nil_append,show i+A.length - A.length=i by omega,show j+A.length - (i+A.length)=j - i by omega]
theorem ends_flat:∀ (st:List (List Txt)) (re:List Txt),(∀ s ∈ st,WdL s)->WdL re ->
  (endsTo (flatS st re) (flatS st re).length).length=st.length/\(∀ k,k < st.length->subL (flatS st re) (fromAt (endsTo (flatS st re) (flatS st re).length) k) (enAt (endsTo (flatS st re) (flatS st re).length) k)=st.getD k [])/\fromAt (endsTo (flatS st re) (flatS st re).length) st.length+re.length=(flatS st re).length
 | [],re,_,hr=>by
  have e:flatS [] re=re:=rfl
  rw [e,ends_none hr]
  exact ⟨rfl,fun k hk=>absurd hk (Nat.not_lt_zero _),by simp [fromAt]⟩
 | s :: st,re,hs,hr=>by
  obtain ⟨i1,i2,i3⟩:=ends_flat st re (fun x hx=>hs x (List.mem_cons_of_mem _ hx)) hr
  have hsw:=hs s List.mem_cons_self
  have e:flatS (s :: st) re=(s ++ [[59]]) ++ flatS st re:=by unfold flatS; simp
  have e1:endsTo (s ++ [[59]]) (s ++ [[59]]).length=[s.length]:=by
   rw [ends_app,ends_none hsw,List.nil_append]
   have:endsTo [[59]] [([59]:Txt)].length=[0]:=ends_one
   rw [this]
   simp
  have hl:(s ++ [[59]]).length=s.length+1:=by simp
  have e2:endsTo (flatS (s :: st) re) (flatS (s :: st) re).length=s.length :: (endsTo (flatS st re) (flatS st re).length).map (·+(s.length+1)):=by
   rw [e,ends_app,e1,hl]
   rfl
  rw [e2]
  have len2:(flatS (s :: st) re).length=s.length+1+(flatS st re).length:=by rw [e,List.length_append,hl]
  generalize endsTo (flatS st re) (flatS st re).length=es at *
  have en:∀ k,k < es.length->enAt (s.length :: es.map (·+(s.length+1))) (k+1)=enAt es k+(s.length+1):=by
   intro k hk
   unfold enAt
   rw [List.getD_eq_getElem?_getD,List.getD_eq_getElem?_getD,List.getElem?_cons_succ,List.getElem?_map,List.getElem?_eq_getElem hk]
   rfl
  have fr:∀ k,k<=es.length->fromAt (s.length :: es.map (·+(s.length+1))) (k+1)=fromAt es k+(s.length+1):=by
   intro k hk
   cases k with
   | zero =>
    show enAt _ 0+1=_
    unfold enAt fromAt
    simp
   | succ k =>
    show enAt _ (k+1)+1=(enAt es k+1)+(s.length+1)
    rw [en k (by omega)]
    omega
  refine ⟨by simp [i1],fun k hk=>?_,?_⟩
  ·cases k with
   | zero =>
    show subL _ 0 (enAt _ 0)=s
    have:enAt (s.length :: es.map (·+(s.length+1))) 0=s.length:=rfl
    rw [this,e]
    unfold subL
    simp
   | succ k =>
    have hk':k < st.length:=by simpa using hk
    rw [en k (by omega),fr k (by omega),e]
    have:=subL_app (s ++ [[59]]) (flatS st re) (fromAt es k) (enAt es k)
    rw [hl] at this
    rw [this,i2 k hk']
    rfl
  ·show fromAt _ (st.length+1)+re.length=_
   rw [fr st.length (by omega),len2]
   omega
def stOf (st:List (List Txt)) (k:Nat):St:=stmtL (st.getD k [])
def allOf (st:List (List Txt)) (k:Nat):List St:=(List.range k).map (stOf st)
def codeOf (st:List (List Txt)) (k:Nat):Int:=codeL (allOf st k) (stOf st k)
def polS (st:List (List Txt)) (re:List Txt):List SpanE × Int × Int :=
 if 1000 < st.length then ([],3,1000)
 else match (List.range st.length).find? (fun k=>!(codeOf st k == 0)) with
 | some k=>([],codeOf st k,(k:Nat))
 | none=>if re ≠ [] then ([],4,(st.length:Nat)) else (spansTo (allOf st st.length) 4096,0,0)
theorem polT_flat {st:List (List Txt)} {re:List Txt} (hs:∀ s ∈ st,WdL s) (hr:WdL re):polT (flatS st re)=polS st re:=by
 obtain ⟨h1,h2,h3⟩:=ends_flat st re hs hr
 unfold polT polS
 generalize hes:endsTo (flatS st re) (flatS st re).length=es at *
 rw [h1]
 split
 ·rfl
 ·have e1:∀ k,k < st.length->stK (flatS st re) es k=stOf st k:=fun k hk=>by unfold stK stOf; rw [h2 k hk]
  have e2:∀ k,k<=st.length->allTo (flatS st re) es k=allOf st k:=fun k hk=>by
   unfold allTo allOf
   exact List.map_congr_left (fun i hi=>e1 i (by have:=List.mem_range.1 hi; omega))
  have e3:∀ k,k < st.length->codeK (flatS st re) es k=codeOf st k:=fun k hk=>by unfold codeK codeOf; rw [e1 k hk,e2 k (by omega)]
  unfold polE
  rw [h1]
  have ef:(List.range st.length).find? (fun k=>!(codeK (flatS st re) es k == 0))=(List.range st.length).find? (fun k=>!(codeOf st k == 0)):=by
   rw [<- List.head?_filter,<- List.head?_filter]
   congr 1
   exact List.filter_congr (fun k hk=>by rw [e3 k (List.mem_range.1 hk)])
  rw [ef]
  cases hf:(List.range st.length).find? (fun k=>!(codeOf st k == 0)) with
  | some k =>
   have hk:=List.mem_range.1 (List.mem_of_find?_eq_some hf)
   dsimp only
   rw [e3 k hk]
  | none =>
   dsimp only
   rw [e2 _ (Nat.le_refl _)]
   by_cases hre:re=[]
   ·subst hre
    rw [if_neg (by simp at h3; omega),if_neg (by simp)]
   ·have:0 < re.length:=List.length_pos_iff.2 hre
    rw [if_pos (by omega),if_pos hre]
theorem polL_cut {text:Txt} (hl:¬ 20000 < text.length):polL text=match sc [] false 0 [] [] text with
  | .inl k=>([],2,(k:Nat))
  | .inr (st,re)=>polS st re:=by
 have h:=sc_spec text [] false 0 [] [] (fun h=>by cases h)
 have hwd:=sc_wd text [] false 0 [] []
 unfold polL
 rw [if_neg hl]
 cases hc:sc [] false 0 [] [] text with
 | inl k =>
  rw [hc] at h
  dsimp only at h ⊢
  rw [if_pos (by rw [h]; omega),h]
 | inr zz =>
  obtain ⟨st,re⟩:=zz
  rw [hc] at h
  dsimp only at h ⊢
  obtain ⟨w1,w2⟩:=hwd st re (fun c hc=>by cases hc) (fun s hs=>by cases hs) (fun x hx=>by cases hx) hc
  rw [if_neg (by rw [h.1]; decide),<- polT_flat w1 w2,h.2]
  rfl
end Go.Proofs.YtnmhkgmmpkjjeacGreat
namespace Go.Proofs.YtnmhkgmmpkjjeacGreat
open Go.ChangeShapes Go.WideShapes Go.ChangeAt Go.RowKit
def Fs (tm:Array Value):List (Nat × Value)->Prop
 | []=>True
 | q :: l=>(∀ h:q.1 < tm.size,tm[q.1]'h=q.2)/\Fs tm l
theorem calls_o {P:Program} {f:FuncId} {fn:Func} {c:Code} {args:Array Value} {w:World} {R:Ending->World->Prop} (n:Nat) (hf:P.funcs[f]?=some fn) (hb:fn.body=some c) (hn:fn.ntmps=n) (ha:args.size<=n)
  (h:∀ tm:Array Value,tm.size=n->(∀ i (hi:i < args.size) (h:i < tm.size),tm[i]'h=args[i]'hi)->c.wp P (bodyPost P fn R) ⟨tm,[]⟩ w):Calls P f args w R:=by
 refine calls_of_wp hf hb (h _ ?_ ?_)
 ·simp; omega
 ·intro i hi h
  exact Array.getElem_append_left hi
theorem wp_mid {P:Program} {s:Code} {K:Act->World->Prop} {Q':Exit->Act->World->Prop} {a:Act} {w:World} (n:Nat) (l:List (Nat × Value)) (R:World->Prop)
  (first:∀ (J K':Act->World->Prop),(∀ tm w',tm.size=n->Fs tm l->R w'->J ⟨tm,[]⟩ w')->(∀ a' w',Met J a' w'->K' a' w')->s.wp P (Exit.then K' Q') a w)
  (rest:∀ tm w',tm.size=n->Fs tm l->R w'->K ⟨tm,[]⟩ w'):s.wp P (Exit.then K Q') a w:=by
 refine wp_cut (fun a' w'=>a'.defers=[]/\a'.tmps.size=n/\Fs a'.tmps l/\R w') ?_ ?_
 ·rintro ⟨tm,ds⟩ w' ⟨rfl,hz,hr,h2⟩
  exact rest tm w' hz hr h2
 ·intro J K' hJ hK
  exact first J K' (fun tm w' hz hr h2=>hJ _ _ ⟨rfl,hz,hr,h2⟩) hK
theorem least_of {p:Nat->Prop} (h:∃ n,p n):∃ n,p n/\∀ m,p m->n<=m:=by
 obtain ⟨n,hn⟩:=h
 induction n using Nat.strongRecOn with
 | _ n ih =>
  by_cases hc:∃ m,m < n/\p m
  ·obtain ⟨m,hm,hp⟩:=hc
   exact ih m hm hp
  ·exact ⟨n,hn,fun m hm=>by
    rcases Nat.lt_or_ge m n with h | h
    ·exact absurd ⟨m,h,hm⟩ hc
    ·exact h⟩
theorem wp_loop_o {P:Program} {c:Code} {Q:Exit->Act->World->Prop} {tm:Array Value} {w:World} (n:Nat) (I:Nat->Array Value->World->Prop) (k:Nat) (hz:tm.size=n) (h0:I k tm w)
  (round:∀ k tm w (J K:Act->World->Prop),tm.size=n->I k tm w->(∀ k' tm' w',tm'.size=n->I k' tm' w'->k' < k->J ⟨tm',[]⟩ w')->(∀ a' w',Met J a' w'->K a' w')->c.wp P (Exit.then K Q) ⟨tm,[]⟩ w):(Code.loop c).wp P Q ⟨tm,[]⟩ w:=by
 classical
 refine wp_loop (fun a w=>a.defers=[]/\a.tmps.size=n/\∃ k,I k a.tmps w) (fun a w=>if h:∃ k,I k a.tmps w then (least_of h).choose else 0) ⟨rfl,hz,k,h0⟩ ?_
 rintro ⟨tm,ds⟩ w ⟨hd,hz,hk⟩
 obtain rfl:ds=[]:=hd
 rw [dif_pos hk]
 refine round (least_of hk).choose tm w _ _ hz (least_of hk).choose_spec.1 ?_ (fun a' w' h=>h)
 intro k' tm' w' hz' hi' hlt
 have he:∃ k,I k tm' w':=⟨k',hi'⟩
 refine ⟨⟨rfl,hz',he⟩,?_⟩
 rw [dif_pos he]
 exact Nat.lt_of_le_of_lt ((least_of he).choose_spec.2 k' hi') hlt
end Go.Proofs.YtnmhkgmmpkjjeacGreat
namespace Go.Proofs.YtnmhkgmmpkjjeacGreat
open Go.ChangeShapes Go.WideShapes Go.ChangeAt Go.RowKit
set_option linter.unusedVariables false
attribute [local go_sem ↓] Go.wp_at_zero Go.wp_at_succ
structure WriteE where
 addr:Int
 word:Int
def markWrite (s:Int) (i j:Nat):Value :=
 match j with
 | 0=>.int .i64 (s+i * 2)
 | 1=>.int .u64 (s+i * 2+1)
 | _=>.bool false
structure TlbE where
 page:Int
 size:Int
 out:Int
 perm:Int
 doom:Bool
def markTlb (s:Int) (i j:Nat):Value :=
 match j with
 | 0=>.int .i64 (s+i * 5)
 | 1=>.int .i64 (s+i * 5+1)
 | 2=>.int .i64 (s+i * 5+1+1)
 | 3=>.int .i64 (s+i * 5+1+1+1)
 | 4=>.bool ((s+i * 5+1+1+1+1) % 3 == 0)
 | _=>.bool false
structure WcE where
 level:Int
 page:Int
 table:Int
 doom:Bool
def markWc (s:Int) (i j:Nat):Value :=
 match j with
 | 0=>.int .i64 (s+i * 4)
 | 1=>.int .i64 (s+i * 4+1)
 | 2=>.int .i64 (s+i * 4+1+1)
 | 3=>.bool ((s+i * 4+1+1+1) % 3 == 0)
 | _=>.bool false
structure Mach where
 mem:List Int
 pend:List WriteE
 tlb:List TlbE
 wc:List WcE
structure MV where
 w:Value
 p:Value
 t:Value
 c:Value
def MV.agg (m:MV):Value:=.agg #[m.w,m.p,m.t,m.c]
def MV.owns (m:MV) (k:Nat):Prop:=m.w.ownBlock=some k\/m.p.ownBlock=some k\/m.t.ownBlock=some k\/m.c.ownBlock=some k
def MV.apart (m:MV):Prop:=∀ k,(m.w.ownBlock=some k->m.p.ownBlock ≠ some k/\m.t.ownBlock ≠ some k/\m.c.ownBlock ≠ some k)/\(m.p.ownBlock=some k->m.t.ownBlock ≠ some k/\m.c.ownBlock ≠ some k)/\(m.t.ownBlock=some k->m.c.ownBlock ≠ some k)
structure Mach.Small (M:Mach):Prop where
 w:M.mem.length<=1048576
 p:M.pend.length<=1048576
 t:M.tlb.length<=1048576
 c:M.wc.length<=1048576
structure Touch (S:Nat->Prop) (w w':World):Prop where
 os:w'.os=w.os
 tape:w'.tape=w.tape
 output:w'.output=w.output
 size:w.heap.size<=w'.heap.size
 block:∀ k,k < w.heap.size->¬ S k->w'.heap[k]?=w.heap[k]?
theorem Touch.trans {S:Nat->Prop} {a b c:World} (h:Touch S a b) (k:Touch S b c):Touch S a c :=
 ⟨k.os.trans h.os,k.tape.trans h.tape,k.output.trans h.output,Nat.le_trans h.size k.size,fun i hi hn=>(k.block i (Nat.lt_of_lt_of_le hi h.size) hn).trans (h.block i hi hn)⟩
theorem Touch.of_below {S:Nat->Prop} {a b:World} (h:Below a.heap.size a b):Touch S a b:=⟨h.os,h.tape,h.output,h.size,fun i hi _=>h.block i hi⟩
theorem Touch.of_grown {S:Nat->Prop} {a b:World} {row:Option Nat} (h:a.grownBy b row) (hS:∀ k,row=some k->S k):Touch S a b :=
 ⟨h.os,h.tape,h.output,h.size,fun i hi hn=>h.block i hi (fun e=>hn (hS i e.symm))⟩
theorem Touch.below {S:Nat->Prop} {B:Nat} {w a b:World} (h:Below B w a) (k:Touch S a b) (hB:B<=a.heap.size) (hS:∀ k,S k->B<=k):Below B w b :=
 ⟨k.os.trans h.os,k.tape.trans h.tape,k.output.trans h.output,Nat.le_trans h.size k.size,fun i hi=>(k.block i (by omega) (fun hs=>by have:=hS i hs; omega)).trans (h.block i hi)⟩
theorem ERow.touch {α:Type} {E:Elt α} {w w':World} {base:Nat} {v:Value} {xs:List α} {S:Nat->Prop} (h:ERow E w base v xs) (hg:Touch S w w') (hne:∀ k,v.ownBlock=some k->¬ S k):ERow E w' base v xs:=by
 refine ⟨h.1,?_⟩
 rcases h.2 with hh | ⟨g,cap,cur,e,hb,hgg,r⟩
 ·exact .inl hh
 ·refine .inr ⟨g,cap,cur,e,hb,?_,r⟩
  rw [hg.block g (Array.getElem?_eq_some_iff.1 hgg).1 (hne g (by rw [e]; rfl))]
  exact hgg
theorem EHas.touch {α:Type} {E:Elt α} {w w':World} {v:Value} {n:Nat} {c:Nat->Nat->Value} {S:Nat->Prop} (h:EHas E w v n c) (hg:Touch S w w') (hne:∀ k,v.ownBlock=some k->¬ S k):EHas E w' v n c:=by
 obtain ⟨a,cap,e,h1⟩:=h
 refine ⟨a,cap,e,fun h0=>?_⟩
 obtain ⟨g,N,f,p,q,r,s⟩:=h1 h0
 subst e p
 exact ⟨g,N,f,rfl,q.of_block (hg.block g q.lt (hne g rfl)),r,s⟩
end Go.Proofs.YtnmhkgmmpkjjeacGreat
namespace Go.Proofs.YtnmhkgmmpkjjeacGreat
open Go.ChangeShapes Go.WideShapes Go.ChangeAt Go.RowKit
set_option linter.unusedVariables false
set_option linter.unusedSimpArgs false
set_option maxRecDepth 100000
attribute [local go_sem ↓] Go.wp_at_zero Go.wp_at_succ
theorem isLetter_any (c:UInt8) (w:World):Calls Tryz.prog 165 #[.int .u8 c.toNat] w fun e w'=>e=.returned (.bool (isLow c))/\w'=w:=by
 unfold isLow
 obtain ⟨n,hn⟩:∃ n:Nat,c.toNat=n:=⟨_,rfl⟩
 rw [hn]
 clear hn
 go_enter Tryz.func165,Tryz.ntmps165
 go_wp2
 all_goals
  go_ret
  refine ⟨congrArg (fun b=>Ending.returned (Value.bool b)) ?_,rfl⟩
  rw [Bool.eq_iff_iff]
  simp
  omega
theorem isDigit_any (c:UInt8) (w:World):Calls Tryz.prog 166 #[.int .u8 c.toNat] w fun e w'=>e=.returned (.bool (isDig c))/\w'=w:=by
 unfold isDig
 obtain ⟨n,hn⟩:∃ n:Nat,c.toNat=n:=⟨_,rfl⟩
 rw [hn]
 clear hn
 go_enter Tryz.func166,Tryz.ntmps166
 go_wp2
 all_goals
  go_ret
  refine ⟨congrArg (fun b=>Ending.returned (Value.bool b)) ?_,rfl⟩
  rw [Bool.eq_iff_iff]
  simp
  omega
theorem inWord_any (c:UInt8) (w:World):Calls Tryz.prog 149 #[.int .u8 c.toNat] w fun e w'=>e=.returned (.bool (isWd c))/\w'=w:=by
 have t1:=isLetter_any c w
 have t2:=isDigit_any c w
 have hw:isWd c=(isLow c || isDig c || decide (c.toNat=95)):=rfl
 rw [hw]
 clear hw
 obtain ⟨n,hn⟩:∃ n:Nat,c.toNat=n:=⟨_,rfl⟩
 rw [hn] at t1 t2 ⊢
 clear hn
 generalize isLow c=L at *
 generalize isDig c=D at *
 go_enter Tryz.func149,Tryz.ntmps149
 go_wp2_with fail
 refine t1.mono ?_
 rintro e w1 ⟨rfl,rfl⟩
 cases L
 ·go_wp2_with fail
  refine t2.mono ?_
  rintro e w2 ⟨rfl,rfl⟩
  cases D
  ·go_wp2_with fail
   all_goals
    go_ret
    refine ⟨congrArg (fun b=>Ending.returned (Value.bool b)) ?_,rfl⟩
    rw [Bool.eq_iff_iff]
    simp
    try omega
  ·go_wp2_with fail
   go_ret
   exact ⟨rfl,rfl⟩
 ·go_wp2_with fail
  go_ret
  exact ⟨rfl,rfl⟩
def eStr:Elt Txt:=⟨9,1,fun x=>[.string (bs x)],[],by omega,fun _=>rfl⟩
structure SlE where
 a:Option Addr
 n:Nat
 c:Nat
abbrev SlE.v (s:SlE):Value:=.slice s.a s.n s.c
def eSl:Elt SlE:=⟨179,1,fun x=>[x.v],⟨none,0,0⟩,by omega,fun _=>rfl⟩
theorem infoStr:(Tryz.prog.info? 9).map (fun i=>(i.zero,i.size,i.bytes))=some (some (.string ⟨#[]⟩),1,16):=by kernel_rfl
theorem infoSl:(Tryz.prog.info? 179).map (fun i=>(i.zero,i.size,i.bytes))=some (some (.slice none 0 0),1,24):=by kernel_rfl
end Go.Proofs.YtnmhkgmmpkjjeacGreat
namespace Go.Proofs.YtnmhkgmmpkjjeacGreat
open Go.ChangeShapes Go.WideShapes Go.ChangeAt Go.RowKit
set_option linter.unusedVariables false
set_option maxRecDepth 100000
def WdAt (B:Nat) (w:World) (s:SlE) (ws:List Txt):Prop:=s.n=ws.length/\(0 < ws.length->∃ g,s.a=some ⟨g,0,none⟩/\B<=g/\g < w.heap.size/\∀ i,i < ws.length->w.cell? ⟨g,i,none⟩=some (.string (bs (tAt ws i))))/\s.n<=s.c/\s.c<=maxLen
theorem WdAt.cells {B:Nat} {w w':World} {s:SlE} {ws:List Txt} (h:WdAt B w s ws) (hz:w.heap.size<=w'.heap.size) (hc:∀ g i,0 < ws.length->s.a=some ⟨g,0,none⟩->g < w.heap.size->w'.cell? ⟨g,i,none⟩=w.cell? ⟨g,i,none⟩):WdAt B w' s ws:=by
 refine ⟨h.1,fun h0=>?_,h.2.2⟩
 obtain ⟨g,e,hb,hg,hcl⟩:=h.2.1 h0
 exact ⟨g,e,hb,by omega,fun i hi=>(hc g i h0 e hg).trans (hcl i hi)⟩
structure ScI (w wr:World) (vs vr:SlE) (sl:List SlE) (st:List (List Txt)) (re:List Txt):Prop where
 rs:ERow eSl wr w.heap.size vs.v sl
 rr:ERow eStr wr w.heap.size vr.v re
 ln:sl.length=st.length
 ws:∀ k,k < st.length->WdAt w.heap.size wr (eAt eSl sl k) (st.getD k [])
 s1:∀ k g,k < st.length->0 < (st.getD k []).length->(eAt eSl sl k).a=some ⟨g,0,none⟩->vs.v.ownBlock ≠ some g/\vr.v.ownBlock ≠ some g
 s2:∀ g,vs.v.ownBlock=some g->vr.v.ownBlock ≠ some g
 bel:Below w.heap.size w wr
theorem eStr_nil (w:World) (B:Nat):ERow eStr w B (.slice none 0 0) []:=⟨by simp [ecells],.inl ⟨rfl,rfl⟩⟩
theorem eSl_nil (w:World) (B:Nat):ERow eSl w B (.slice none 0 0) []:=⟨by simp [ecells],.inl ⟨rfl,rfl⟩⟩
theorem ScI.new (w:World):ScI w w ⟨none,0,0⟩ ⟨none,0,0⟩ [] [] [] :=
 ⟨eSl_nil _ _,eStr_nil _ _,rfl,fun k hk=>absurd hk (Nat.not_lt_zero _),fun k g hk=>absurd hk (Nat.not_lt_zero _),fun g h=>(by cases h),Below.refl _ _⟩
theorem WdAt.of_row {w:World} {B:Nat} {s:SlE} {ws:List Txt} (h:ERow eStr w B s.v ws):WdAt B w s ws:=by
 obtain ⟨a',c',e,hf⟩:=h.form
 simp only [Value.slice.injEq] at e
 obtain ⟨e1,e2,e3⟩:=e
 refine ⟨e2,fun h0=>?_,?_⟩
 rotate_left
 ·rcases h.2 with ⟨e,h0⟩ | ⟨g,cap,cur,e,hb,hgg,hn,hm,r⟩
  ·simp only [SlE.v,Value.slice.injEq] at e
   rw [e.2.1,e.2.2]
   exact ⟨Nat.le_refl _,by unfold maxLen; omega⟩
  ·simp only [SlE.v,Value.slice.injEq] at e
   rw [e.2.1,e.2.2]
   exact ⟨hn,hm⟩
 obtain ⟨g,N,f,hag,hbg,hr,hN,hc⟩:=hf h0
 refine ⟨g,e1.trans hag,hbg,hr.lt,fun i hi=>?_⟩
 have hi':i * 1+0 < ws.length * 1:=by omega
 have:=hr.cell (Nat.lt_of_lt_of_le hi' hN)
 have hc0:f (i * 1+0)=eCell eStr ws i 0:=hc i hi 0 (by decide)
 rw [hc0] at this
 rw [show i * 1+0=i by omega] at this
 rw [this]
 unfold eCell eAt tAt
 rfl
theorem own_at {s:SlE} {g:Nat} (h:s.a=some ⟨g,0,none⟩):s.v.ownBlock=some g:=by
 show (Value.slice s.a s.n s.c).ownBlock=some g
 rw [h]
 rfl
theorem ScI.word {w wr wn:World} {vs vr:SlE} {sl:List SlE} {st:List (List Txt)} {re:List Txt} {x:Txt} {o:Obj} {g1 c1:Nat} (h:ScI w wr vs vr sl st re)
  (hown:wn.ownsRow w.heap.size eStr.T eStr.sz (.slice (some ⟨g1,0,none⟩) (re.length+1) c1) (re.length+1) (ecells eStr re ++ eStr.enc x)) (hgrow:(wr.alloc o).grownBy wn vr.v.ownBlock) (hat:vr.v.ownBlock=some g1\/g1=wr.heap.size+1) :
  ScI w wn vs ⟨some ⟨g1,0,none⟩,re.length+1,c1⟩ sl st (re ++ [x]):=by
 have hz:wr.heap.size < (wr.alloc o).heap.size:=by simp
 have hzn:=hgrow.size
 have cl:∀ g i,g < wr.heap.size->vr.v.ownBlock ≠ some g->wn.cell? ⟨g,i,none⟩=wr.cell? ⟨g,i,none⟩:=fun g i hg hn=>(hgrow.cell_far ⟨g,i,none⟩ (by show g < _; omega) (fun e=>hn e.symm)).trans (bal.cell (p:=⟨g,i,none⟩) hg)
 refine ⟨(h.rs.below bal).kept hgrow (fun k hk e=>h.s2 k hk e.symm),?_,h.ln,fun k hk=>?_,fun k g hk h0 ha=>⟨(h.s1 k g hk h0 ha).1,?_⟩,fun g hg=>?_,?_⟩
 ·have:=erow_push rfl hown
  have e:(re ++ [x]).length=re.length+1:=by simp
  exact this
 ·exact (h.ws k hk).cells (by omega) (fun g i h0 ha hg=>cl g i hg (h.s1 k g hk h0 ha).2)
 ·intro e
  rw [own_at (s:=⟨some ⟨g1,0,none⟩,re.length+1,c1⟩) rfl] at e
  injection e with e
  subst e
  obtain ⟨g2,e2,_,hg2,_⟩:=(h.ws k hk).2.1 h0
  rw [ha] at e2
  injection e2 with e2
  injection e2 with e2
  rcases hat with e | e
  ·exact (h.s1 k g1 hk h0 ha).2 e
  ·omega
 ·intro e
  rw [own_at (s:=⟨some ⟨g1,0,none⟩,re.length+1,c1⟩) rfl] at e
  injection e with e
  subst e
  rcases hat with e | e
  ·exact h.s2 g1 hg e
  ·have:=(h.rs.own g1 hg).2; omega
 ·exact (h.bel.alloc h.bel.size _).grown hgrow (by have:=h.bel.size; simp; omega) (fun q hq=>(h.rr.own q hq).1)
theorem ScI.stmt {w wr wn:World} {vs vr:SlE} {sl:List SlE} {st:List (List Txt)} {re:List Txt} {o:Obj} {g1 c1:Nat} (h:ScI w wr vs vr sl st re)
  (hown:wn.ownsRow w.heap.size eSl.T eSl.sz (.slice (some ⟨g1,0,none⟩) (sl.length+1) c1) (sl.length+1) (ecells eSl sl ++ eSl.enc vr)) (hgrow:(wr.alloc o).grownBy wn vs.v.ownBlock) (hat:vs.v.ownBlock=some g1\/g1=wr.heap.size+1) :
  ScI w wn ⟨some ⟨g1,0,none⟩,sl.length+1,c1⟩ ⟨none,0,0⟩ (sl ++ [vr]) (st ++ [re]) []:=by
 have hz:wr.heap.size < (wr.alloc o).heap.size:=by simp
 have hzn:=hgrow.size
 have cl:∀ g i,g < wr.heap.size->vs.v.ownBlock ≠ some g->wn.cell? ⟨g,i,none⟩=wr.cell? ⟨g,i,none⟩:=fun g i hg hn=>(hgrow.cell_far ⟨g,i,none⟩ (by show g < _; omega) (fun e=>hn e.symm)).trans (bal.cell (p:=⟨g,i,none⟩) hg)
 have hlen:(st ++ [re]).length=st.length+1:=by simp
 have eS:∀ k,k < st.length->eAt eSl (sl ++ [vr]) k=eAt eSl sl k/\(st ++ [re]).getD k []=st.getD k []:=by
  intro k hk
  have:=h.ln
  unfold eAt
  rw [List.getD_eq_getElem?_getD,List.getD_eq_getElem?_getD,List.getElem?_append_left (by omega),List.getD_eq_getElem?_getD,List.getElem?_append_left hk,List.getD_eq_getElem?_getD]
  exact ⟨rfl,rfl⟩
 have eL:eAt eSl (sl ++ [vr]) st.length=vr/\(st ++ [re]).getD st.length []=re:=by
  unfold eAt
  rw [<- h.ln]
  constructor
  ·rw [List.getD_eq_getElem?_getD,List.getElem?_append_right (Nat.le_refl _),Nat.sub_self]
   rfl
  ·rw [h.ln,List.getD_eq_getElem?_getD,List.getElem?_append_right (Nat.le_refl _),Nat.sub_self]
   rfl
 have hwr:=WdAt.of_row h.rr
 refine ⟨?_,eStr_nil _ _,by simp [h.ln],fun k hk=>?_,fun k g hk h0 ha=>⟨?_,fun e=>(by cases e)⟩,fun g hg e=>(by cases e),?_⟩
 ·exact erow_push rfl hown
 ·by_cases hk':k < st.length
  ·rw [(eS k hk').1,(eS k hk').2]
   exact (h.ws k hk').cells (by omega) (fun g i h0 ha hg=>cl g i hg (h.s1 k g hk' h0 ha).1)
  ·obtain rfl:k=st.length:=by omega
   rw [eL.1,eL.2]
   exact hwr.cells (by omega) (fun g i h0 ha hg=>cl g i hg (fun e=>h.s2 g e (own_at ha)))
 ·intro e
  rw [own_at (s:=⟨some ⟨g1,0,none⟩,sl.length+1,c1⟩) rfl] at e
  injection e with e
  subst e
  by_cases hk':k < st.length
  ·rw [(eS k hk').1] at ha
   rw [(eS k hk').2] at h0
   rcases hat with e | e
   ·exact (h.s1 k g1 hk' h0 ha).1 e
   ·obtain ⟨g2,e2,_,hg2,_⟩:=(h.ws k hk').2.1 h0
    rw [ha] at e2
    injection e2 with e2
    injection e2 with e2
    omega
  ·obtain rfl:k=st.length:=by omega
   rw [eL.1] at ha
   rcases hat with e | e
   ·exact h.s2 g1 e (own_at ha)
   ·have:=(h.rr.own g1 (own_at ha)).2; omega
 ·exact (h.bel.alloc h.bel.size _).grown hgrow (by have:=h.bel.size; simp; omega) (fun q hq=>(h.rs.own q hq).1)
end Go.Proofs.YtnmhkgmmpkjjeacGreat
