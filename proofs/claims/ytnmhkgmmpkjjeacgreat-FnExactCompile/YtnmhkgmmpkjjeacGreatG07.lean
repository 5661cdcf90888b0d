import Derived.Test.YtnmhkgmmpkjjeacGreatG05
import Derived.Test.YtnmhkgmmpkjjeacGreatG03
namespace Go.Proofs.YtnmhkgmmpkjjeacGreat
set_option linter.unusedVariables false
def hB (H:Nat->Ht) (lv p:Nat):Bool:=decide ((H p).k=1/\(lv ≠ 3\/(H p).s=1))
def tpg (lv:Nat):Nat:=if lv=1 then 4096 else if lv=2 then 256 else 16
def epg (lv:Nat):Nat:=if lv=1 then 256 else if lv=2 then 16 else 1
def nd (H:Nat->Ht) (lv p:Nat):Bool:=decide (lv=1) || (List.range (tpg lv)).any (fun k=>hB H lv (p+k))
theorem nd_one (H:Nat->Ht) (p:Nat):nd H 1 p=true:=by unfold nd; rfl
theorem nd_hit {H:Nat->Ht} {lv p k:Nat} (hk:k < tpg lv) (h:hB H lv (p+k)=true):nd H lv p=true:=by
 unfold nd
 rw [Bool.or_eq_true]
 exact .inr (List.any_eq_true.2 ⟨k,List.mem_range.2 hk,h⟩)
theorem nd_none {H:Nat->Ht} {lv p:Nat} (hl:lv ≠ 1) (h:∀ k,k < tpg lv->hB H lv (p+k)=false):nd H lv p=false:=by
 unfold nd
 rw [Bool.or_eq_false_iff]
 refine ⟨decide_eq_false hl,?_⟩
 rw [List.any_eq_false]
 intro k hk
 rw [h k (List.mem_range.1 hk)]; decide
theorem nd_ex {H:Nat->Ht} {lv p:Nat} (hl:lv ≠ 1) (h:nd H lv p=true):∃ k,k < tpg lv/\hB H lv (p+k)=true:=by
 unfold nd at h
 rw [Bool.or_eq_true] at h
 rcases h with h | h
 ·exact absurd (of_decide_eq_true h) hl
 ·obtain ⟨k,hk,h⟩:=List.any_eq_true.1 h
  exact ⟨k,List.mem_range.1 hk,h⟩
theorem nd_up {H:Nat->Ht} {p j:Nat} (hj:j < 16) (h:nd H 3 (p+j * 16)=true):nd H 2 p=true:=by
 obtain ⟨k,hk,hb⟩:=nd_ex (by decide) h
 have hk':k < 16:=hk
 refine nd_hit (k:=j * 16+k) (show j * 16+k < 256 by omega) ?_
 unfold hB at hb ⊢
 simp only [decide_eq_true_eq] at hb ⊢
 rw [<- Nat.add_assoc]
 exact ⟨hb.1,.inl (by decide)⟩
def st (H:Nat->Ht):Nat->Nat->List (Nat × Nat)
 | 0,p=>if nd H 3 p then [(3,p)] else []
 | f+1,p=>if nd H (2 - f) p then (2 - f,p) :: (List.range 16).flatMap (fun i=>st H f (p+i * epg (2 - f))) else []
theorem st_zero (H:Nat->Ht) (p:Nat):st H 0 p=if nd H 3 p=true then [(3,p)] else []:=by unfold st; rfl
def wOne (H:Nat->Ht) (g:Nat):List (Nat × Nat):=(if g % 16=0/\nd H 2 (g * 16)=true then [(2,g * 16)] else []) ++ st H 0 (g * 16)
def wPre (H:Nat->Ht) (g:Nat):List (Nat × Nat):=(1,0) :: (List.range g).flatMap (wOne H)
theorem wPre_succ (H:Nat->Ht) (g:Nat):wPre H (g+1)=wPre H g ++ wOne H g:=by
 unfold wPre
 rw [List.range_succ,List.flatMap_append]
 simp
theorem st0_len (H:Nat->Ht) (p:Nat):(st H 0 p).length<=1:=by unfold st; split <;> simp
theorem wOne_len (H:Nat->Ht) (g:Nat):(wOne H g).length<=2:=by
 unfold wOne
 rw [List.length_append]
 have:=st0_len H (g * 16)
 split <;> simp <;> omega
theorem wPre_len (H:Nat->Ht):∀ g,(wPre H g).length<=1+g * 2
 | 0=>by simp [wPre]
 | g+1=>by
  rw [wPre_succ,List.length_append]
  have:=wPre_len H g
  have:=wOne_len H g
  omega
theorem flat16 {α:Type} (f:Nat->List α):∀ n,(List.range (n * 16)).flatMap f=(List.range n).flatMap (fun i=>(List.range 16).flatMap (fun j=>f (i * 16+j)))
 | 0=>by simp
 | n+1=>by
  rw [Nat.add_mul,Nat.one_mul,List.range_add,List.flatMap_append,flat16 f n,@List.range_succ n,List.flatMap_append,List.flatMap_map]
  simp
theorem flat_congr {α:Type} {f g:Nat->List α} {n:Nat} (h:∀ i,i < n->f i=g i):(List.range n).flatMap f=(List.range n).flatMap g:=by
 induction n with
 | zero=>rfl
 | succ n ih=>rw [List.range_succ,List.flatMap_append,List.flatMap_append,ih (fun i hi=>h i (by omega))]; simp [h n (by omega)]
theorem st1_eq (H:Nat->Ht) (i:Nat):st H 1 (i * 256)=(List.range 16).flatMap (fun j=>wOne H (i * 16+j)):=by
 have e1:st H 1 (i * 256)=if nd H 2 (i * 256) then (2,i * 256) :: (List.range 16).flatMap (fun j=>st H 0 (i * 256+j * 16)) else []:=rfl
 rw [e1]
 cases h2:nd H 2 (i * 256)
 ·symm
  rw [if_neg (by decide)]
  have:(List.range 16).flatMap (fun j=>wOne H (i * 16+j))=(List.range 16).flatMap (fun _=>([]:List (Nat × Nat))):=by
   refine flat_congr (fun j hj=>?_)
   unfold wOne
   have n3:nd H 3 ((i * 16+j) * 16)=false:=by
    cases h3:nd H 3 ((i * 16+j) * 16)
    ·rfl
    ·rw [show (i * 16+j) * 16=i * 256+j * 16 by omega] at h3
     rw [nd_up hj h3] at h2
     cases h2
   rw [if_neg (by
    rintro ⟨hm,hn⟩
    have:j=0:=by omega
    subst this
    rw [show (i * 16+0) * 16=i * 256 by omega,h2] at hn
    cases hn)]
   unfold st
   rw [n3]
   rfl
  rw [this]
  simp
 ·rw [if_pos (by rfl)]
  have e2:(2,i * 256) :: (List.range 16).flatMap (fun j=>st H 0 (i * 256+j * 16))=(List.range 16).flatMap (fun j=>(if j=0 then [(2,i * 256)] else []) ++ st H 0 (i * 256+j * 16)):=by
   rw [show (16:Nat)=15+1 from rfl,List.range_succ_eq_map,List.flatMap_cons,List.flatMap_cons,List.flatMap_map,List.flatMap_map]
   simp
  rw [e2]
  refine flat_congr (fun j hj=>?_)
  unfold wOne
  rw [show (i * 16+j) * 16=i * 256+j * 16 by omega]
  by_cases hj0:j=0
  ·subst hj0
   rw [if_pos rfl,if_pos ⟨by omega,by simpa using h2⟩]
   simp
  ·rw [if_neg hj0,if_neg (fun h=>hj0 (by omega))]
theorem seats_eq (H:Nat->Ht):st H 2 0=wPre H 256:=by
 have e1:st H 2 0=if nd H 1 0 then (1,0) :: (List.range 16).flatMap (fun i=>st H 1 (0+i * 256)) else []:=rfl
 rw [e1,nd_one,if_pos rfl]
 unfold wPre
 rw [show (256:Nat)=16 * 16 from rfl,flat16]
 congr 1
 refine flat_congr (fun i hi=>?_)
 rw [<- st1_eq,Nat.zero_add]
theorem st_len1 (H:Nat->Ht) (p:Nat):(st H 1 p).length<=17:=by
 have e1:st H 1 p=if nd H 2 p then (2,p) :: (List.range 16).flatMap (fun j=>st H 0 (p+j * 16)) else []:=rfl
 have hl:∀ n,((List.range n).flatMap (fun j=>st H 0 (p+j * 16))).length<=n:=by
  intro n
  induction n with
  | zero=>simp
  | succ n ih =>
   rw [List.range_succ,List.flatMap_append,List.length_append]
   have:=st0_len H (p+n * 16)
   simp at ih ⊢
   omega
 rw [e1]
 split
 ·have:=hl 16
  rw [List.length_cons]
  omega
 ·simp
def ndP (H:Nat->Ht) (p:P3):Bool:=nd H p.lv.toNat p.pg.toNat
def sameS (lv pg:Int) (q:P3):Bool:=decide (q.lv=lv/\q.pg=pg)
def frOf (qs:List P3) (lv pg:Int):Int:=match qs.find? (sameS lv pg) with
 | some q=>q.fr
 | none=>-1
def hasFr (qs:List P3) (f:Int):Bool:=qs.any fun q=>decide (q.fr=f)
theorem hasFr_iff {qs:List P3} {f:Int}:hasFr qs f=true ↔ ∃ q ∈ qs,q.fr=f:=by
 unfold hasFr
 rw [List.any_eq_true]
 exact ⟨fun ⟨q,h,e⟩=>⟨q,h,of_decide_eq_true e⟩,fun ⟨q,h,e⟩=>⟨q,h,decide_eq_true e⟩⟩
theorem hasFr_append (a b:List P3) (f:Int):hasFr (a ++ b) f=(hasFr a f || hasFr b f):=by unfold hasFr; rw [List.any_append]
theorem len_of_has:∀ (f:Nat) (L:List Int),(∀ g:Nat,g < f->(g:Int) ∈ L)->f<=L.length
 | 0,L,_=>Nat.zero_le _
 | f+1,L,h=>by
  have h1:(f:Int) ∈ L:=h f (by omega)
  have:=len_of_has f (L.erase (f:Int)) (fun g hg=>(List.mem_erase_of_ne (by omega)).2 (h g (by omega)))
  rw [List.length_erase_of_mem h1] at this
  have hp:0 < L.length:=List.length_pos_of_mem h1
  omega
theorem low_le {qs:List P3} {f:Nat} (h:∀ g:Nat,g < f->hasFr qs g=true):f<=qs.length:=by
 have:=len_of_has f (qs.map (·.fr)) (fun g hg=>by
  obtain ⟨q,hq,e⟩:=hasFr_iff.1 (h g hg)
  exact List.mem_map.2 ⟨q,hq,e⟩)
 rwa [List.length_map] at this
def lowF (qs:List P3):Nat:=((List.range (qs.length+1)).find? (fun f=>!hasFr qs (f:Nat))).getD 0
theorem find_range_first {p:Nat->Bool}:∀ {n f:Nat},f < n->(∀ g,g < f->p g=false)->p f=true->(List.range n).find? p=some f
 | n,f,hf,h1,h2=>by
  have e:n=f+((n - f - 1)+1):=by omega
  rw [e,List.range_add,List.find?_append,List.range_succ_eq_map,List.map_cons,List.find?_cons_of_pos (by simpa using h2)]
  have:(List.range f).find? p=none:=by
   rw [List.find?_eq_none]
   intro x hx
   rw [h1 x (List.mem_range.1 hx)]; decide
  rw [this]
  rfl
theorem lowF_eq {qs:List P3} {f:Nat} (h1:∀ g:Nat,g < f->hasFr qs g=true) (h2:hasFr qs f=false):lowF qs=f:=by
 unfold lowF
 rw [find_range_first (f:=f) (by have:=low_le h1; omega) (fun g hg=>by rw [h1 g hg]; rfl) (by rw [h2]; rfl)]
 rfl
theorem lowF_ex (qs:List P3):∃ f:Nat,f<=qs.length/\(∀ g:Nat,g < f->hasFr qs g=true)/\hasFr qs f=false:=by
 by_cases h:∃ f:Nat,hasFr qs f=false
 ·obtain ⟨f,hf⟩:=h
  have:∀ n f:Nat,f<=n->hasFr qs f=false->∃ f:Nat,(∀ g:Nat,g < f->hasFr qs g=true)/\hasFr qs f=false:=by
   intro n
   induction n with
   | zero=>intro f h0 h1; exact ⟨f,fun g hg=>absurd hg (by omega),h1⟩
   | succ n ih =>
    intro f h0 h1
    by_cases hh:∃ g:Nat,g < f/\hasFr qs g=false
    ·obtain ⟨g,hg,hg2⟩:=hh
     exact ih g (by omega) hg2
    ·refine ⟨f,fun g hg=>?_,h1⟩
     cases hc:hasFr qs g
     ·exact absurd ⟨g,hg,hc⟩ hh
     ·rfl
  obtain ⟨f,h1,h2⟩:=this f f (Nat.le_refl _) hf
  exact ⟨f,low_le h1,h1,h2⟩
 ·have:qs.length+1<=qs.length:=low_le (fun g _=>by
   cases hc:hasFr qs g
   ·exact absurd ⟨g,hc⟩ h
   ·rfl)
  omega
theorem lowF_spec (qs:List P3):lowF qs<=qs.length/\(∀ g:Nat,g < lowF qs->hasFr qs g=true)/\hasFr qs (lowF qs:Nat)=false:=by
 obtain ⟨f,h0,h1,h2⟩:=lowF_ex qs
 rw [lowF_eq h1 h2]
 exact ⟨h0,h1,h2⟩
def frStep (kept fs:List P3) (s:Nat × Nat):List P3:=if frOf kept s.1 s.2 < 0 then fs ++ [⟨(lowF (kept ++ fs):Nat),s.1,s.2⟩] else fs
def frTo (kept:List P3) (ws:List (Nat × Nat)) (k:Nat):List P3:=(ws.take k).foldl (frStep kept) []
theorem frTo_zero (kept:List P3) (ws:List (Nat × Nat)):frTo kept ws 0=[]:=by unfold frTo; simp
theorem frTo_succ (kept:List P3) (ws:List (Nat × Nat)) (k:Nat) (h:k < ws.length):frTo kept ws (k+1)=frStep kept (frTo kept ws k) ws[k]:=by
 unfold frTo
 rw [List.take_succ_eq_append_getElem h,List.foldl_append]
 rfl
theorem frTo_len (kept:List P3) (ws:List (Nat × Nat)):∀ k,k<=ws.length->(frTo kept ws k).length<=k
 | 0,_=>by rw [frTo_zero]; simp
 | k+1,h=>by
  have:=frTo_len kept ws k (by omega)
  rw [frTo_succ kept ws k (by omega)]
  unfold frStep
  split <;> simp <;> omega
theorem frOf_neg {qs:List P3} {lv pg:Int} (h:∀ q ∈ qs,¬ (q.lv=lv/\q.pg=pg)):frOf qs lv pg=-1:=by
 unfold frOf
 have:qs.find? (sameS lv pg)=none:=by
  rw [List.find?_eq_none]
  intro q hq
  unfold sameS
  rw [decide_eq_false (h q hq)]; decide
 rw [this]
theorem frOf_mem {qs:List P3} {lv pg:Int} (h:0<=frOf qs lv pg):∃ q ∈ qs,q.lv=lv/\q.pg=pg/\q.fr=frOf qs lv pg:=by
 unfold frOf at h ⊢
 cases hf:qs.find? (sameS lv pg) with
 | none=>rw [hf] at h; simp at h
 | some q =>
  have:=List.find?_some hf
  unfold sameS at this
  have h2:=of_decide_eq_true this
  exact ⟨q,List.mem_of_find?_eq_some hf,h2.1,h2.2,rfl⟩
structure En where
 lv:Int
 pg:Int
 ad:Int
def enOf (t:P3) (i:Nat):En:=⟨t.lv,t.pg+i * cov t.lv,t.fr * 16+i⟩
def enUnd (kept:List P3) (t:P3) (i:Nat):P3:=⟨frOf kept (t.lv+1) (t.pg+i * cov t.lv),t.lv+1,t.pg+i * cov t.lv⟩
def enV (kept:List P3):Nat->P3->List En
 | 0,_=>[]
 | f+1,t=>(List.range 16).flatMap fun i=>enOf t i :: (if 0<=(enUnd kept t i).fr then enV kept f (enUnd kept t i) else [])
def eOne (kept:List P3) (page lv:Nat):List En:=if page % epg lv=0/\0<=frOf kept lv (page - page % (epg lv * 16):Nat) then [⟨lv,page,frOf kept lv (page - page % (epg lv * 16):Nat) * 16+(page / epg lv % 16:Nat)⟩] else []
def eAll (kept:List P3) (page:Nat):List En:=eOne kept page 1 ++ (eOne kept page 2 ++ eOne kept page 3)
def enTo (kept:List P3) (n:Nat):List En:=(List.range n).flatMap (eAll kept)
theorem enTo_succ (kept:List P3) (n:Nat):enTo kept (n+1)=enTo kept n ++ eAll kept n:=by
 unfold enTo
 rw [List.range_succ,List.flatMap_append]
 simp
theorem eOne_len (kept:List P3) (page lv:Nat):(eOne kept page lv).length<=1:=by unfold eOne; split <;> simp
theorem enTo_len (kept:List P3):∀ n,(enTo kept n).length<=n * 3
 | 0=>by simp [enTo]
 | n+1=>by
  rw [enTo_succ,List.length_append]
  have:=enTo_len kept n
  have h1:=eOne_len kept n 1
  have h2:=eOne_len kept n 2
  have h3:=eOne_len kept n 3
  unfold eAll
  rw [List.length_append,List.length_append]
  omega
theorem pull {α:Type} (A:List α) (f:Nat->List α):(List.range 16).flatMap (fun j=>(if j=0 then A else []) ++ f j)=A ++ (List.range 16).flatMap f:=by
 rw [show (16:Nat)=15+1 from rfl,List.range_succ_eq_map,List.flatMap_cons,List.flatMap_cons,List.flatMap_map,List.flatMap_map]
 simp
structure KeptOk (kept:List P3):Prop where
 root:frOf kept 1 0=0
 up:∀ i j:Nat,j < 16->0<=frOf kept 3 (i * 256+j * 16:Nat)->0<=frOf kept 2 (i * 256:Nat)
 no4:∀ p:Int,frOf kept 4 p < 0
theorem eAll3 (kept:List P3) (i j:Nat) (hj:j < 16):(List.range 16).flatMap (fun k=>eOne kept ((i * 16+j) * 16+k) 3)=if 0<=frOf kept 3 ((i * 16+j) * 16:Nat) then (List.range 16).flatMap (fun k=>[(⟨3,((i * 16+j) * 16+k:Nat),frOf kept 3 ((i * 16+j) * 16:Nat) * 16+k⟩:En)]) else []:=by
 have e:(List.range 16).flatMap (fun k=>eOne kept ((i * 16+j) * 16+k) 3)=(List.range 16).flatMap (fun k=>if 0<=frOf kept 3 ((i * 16+j) * 16:Nat) then [(⟨3,((i * 16+j) * 16+k:Nat),frOf kept 3 ((i * 16+j) * 16:Nat) * 16+k⟩:En)] else []):=by
  refine flat_congr (fun k hk=>?_)
  unfold eOne
  have e1:epg 3=1:=rfl
  have e2:(i * 16+j) * 16+k - ((i * 16+j) * 16+k) % (1 * 16)=(i * 16+j) * 16:=by omega
  have e3:((i * 16+j) * 16+k) / 1 % 16=k:=by omega
  rw [e1,e2,e3]
  by_cases h:0<=frOf kept 3 ((i * 16+j) * 16:Nat)
  ·rw [if_pos ⟨Nat.mod_one _,h⟩,if_pos h]; rfl
  ·rw [if_neg (fun hh=>h hh.2),if_neg h]
 rw [e]
 split
 ·rfl
 ·simp
theorem eAll2 (kept:List P3) (i j k:Nat) (hj:j < 16) (hk:k < 16):eOne kept ((i * 16+j) * 16+k) 2=if k=0 then (if 0<=frOf kept 2 (i * 256:Nat) then [(⟨2,(i * 256+j * 16:Nat),frOf kept 2 (i * 256:Nat) * 16+j⟩:En)] else []) else []:=by
 unfold eOne
 have e1:epg 2=16:=rfl
 have e2:(i * 16+j) * 16+k - ((i * 16+j) * 16+k) % (16 * 16)=i * 256:=by omega
 have e3:((i * 16+j) * 16+k) / 16 % 16=j:=by omega
 have e4:((i * 16+j) * 16+k) % 16=k:=by omega
 rw [e1,e2,e3,e4]
 by_cases h0:k=0
 ·subst h0
  rw [if_pos rfl]
  by_cases h:0<=frOf kept 2 (i * 256:Nat)
  ·rw [if_pos ⟨rfl,h⟩,if_pos h,show (i * 16+j) * 16+0=i * 256+j * 16 by omega]; rfl
  ·rw [if_neg (fun hh=>h hh.2),if_neg h]
 ·rw [if_neg (fun hh=>h0 hh.1),if_neg h0]
theorem eAll1 (kept:List P3) (hr:frOf kept 1 0=0) (i j k:Nat) (hi:i < 16) (hj:j < 16) (hk:k < 16):eOne kept ((i * 16+j) * 16+k) 1=if k=0 then (if j=0 then [(⟨1,(i * 256:Nat),i⟩:En)] else []) else []:=by
 unfold eOne
 have e1:epg 1=256:=rfl
 have e2:(i * 16+j) * 16+k - ((i * 16+j) * 16+k) % (256 * 16)=0:=by omega
 have e3:((i * 16+j) * 16+k) / 256 % 16=i:=by omega
 have hr':frOf kept ((1:Nat):Int) ((0:Nat):Int)=0:=hr
 rw [e1,e2,e3,hr']
 by_cases h:k=0/\j=0
 ·obtain ⟨rfl,rfl⟩:=h
  rw [if_pos ⟨by omega,by omega⟩,if_pos rfl,if_pos rfl,show (i * 16+0) * 16+0=i * 256 by omega]
  simp
 ·rw [if_neg (fun hh=>h (by omega))]
  by_cases h0:k=0
  ·rw [if_pos h0,if_neg (fun hh=>h ⟨h0,hh⟩)]
  ·rw [if_neg h0]
theorem enV3 (kept:List P3) (hk:KeptOk kept) (f:Int) (p:Nat):enV kept 1 ⟨f,3,p⟩=(List.range 16).flatMap (fun k=>[(⟨3,(p+k:Nat),f * 16+k⟩:En)]):=by
 have e:enV kept 1 ⟨f,3,p⟩=(List.range 16).flatMap fun i=>enOf ⟨f,3,p⟩ i :: (if 0<=(enUnd kept ⟨f,3,p⟩ i).fr then enV kept 0 (enUnd kept ⟨f,3,p⟩ i) else []):=rfl
 rw [e]
 refine flat_congr (fun i hi=>?_)
 have h4:¬ 0<=(enUnd kept ⟨f,3,p⟩ i).fr:=by
  have:=hk.no4 (p+i * cov 3)
  show ¬ 0<=frOf kept (3+1) (p+i * cov 3)
  have e:(3+1:Int)=4:=rfl
  rw [e]
  omega
 rw [if_neg h4]
 unfold enOf
 have:cov 3=1:=rfl
 simp [this]
theorem enV2 (kept:List P3) (hk:KeptOk kept) (f:Int) (p:Nat):enV kept 2 ⟨f,2,p⟩=(List.range 16).flatMap (fun j=>⟨2,(p+j * 16:Nat),f * 16+j⟩ :: (if 0<=frOf kept 3 (p+j * 16:Nat) then (List.range 16).flatMap (fun k=>[(⟨3,(p+j * 16+k:Nat),frOf kept 3 (p+j * 16:Nat) * 16+k⟩:En)]) else [])):=by
 have e:enV kept 2 ⟨f,2,p⟩=(List.range 16).flatMap fun i=>enOf ⟨f,2,p⟩ i :: (if 0<=(enUnd kept ⟨f,2,p⟩ i).fr then enV kept 1 (enUnd kept ⟨f,2,p⟩ i) else []):=rfl
 rw [e]
 refine flat_congr (fun j hj=>?_)
 have c2:cov 2=16:=rfl
 have ep:(p:Int)+j * cov 2=((p+j * 16:Nat):Int):=by rw [c2]; omega
 have eu:enUnd kept ⟨f,2,p⟩ j=⟨frOf kept 3 (p+j * 16:Nat),3,(p+j * 16:Nat)⟩:=by
  unfold enUnd
  dsimp only
  rw [ep]
  rfl
 have eo:enOf ⟨f,2,p⟩ j=⟨2,(p+j * 16:Nat),f * 16+j⟩:=by unfold enOf; dsimp only; rw [ep]
 rw [eu,eo,enV3 kept hk]
theorem entries_eq (kept:List P3) (hk:KeptOk kept):enV kept 3 ⟨0,1,0⟩=enTo kept 4096:=by
 have e:enV kept 3 ⟨0,1,0⟩=(List.range 16).flatMap fun i=>enOf ⟨0,1,0⟩ i :: (if 0<=(enUnd kept ⟨0,1,0⟩ i).fr then enV kept 2 (enUnd kept ⟨0,1,0⟩ i) else []):=rfl
 rw [e]
 unfold enTo
 rw [show (4096:Nat)=256 * 16 from rfl,flat16,show (256:Nat)=16 * 16 from rfl,flat16]
 refine flat_congr (fun i hi=>?_)
 have c1:cov 1=256:=rfl
 have ep:(0:Int)+i * cov 1=((i * 256:Nat):Int):=by rw [c1]; omega
 have eu:enUnd kept ⟨0,1,0⟩ i=⟨frOf kept 2 (i * 256:Nat),2,(i * 256:Nat)⟩:=by
  unfold enUnd
  dsimp only
  rw [ep]
  rfl
 have eo:enOf ⟨0,1,0⟩ i=⟨1,(i * 256:Nat),i⟩:=by unfold enOf; dsimp only; rw [ep]; simp
 rw [eu,eo,enV2 kept hk]
 have hroot:=hk.root
 have step:∀ j,j < 16->(List.range 16).flatMap (fun k=>eAll kept ((i * 16+j) * 16+k))=(if j=0 then [(⟨1,(i * 256:Nat),i⟩:En)] else []) ++ ((if 0<=frOf kept 2 (i * 256:Nat) then [(⟨2,(i * 256+j * 16:Nat),frOf kept 2 (i * 256:Nat) * 16+j⟩:En)] else []) ++ (List.range 16).flatMap (fun k=>eOne kept ((i * 16+j) * 16+k) 3)):=by
  intro j hj
  rw [<- pull,<- pull]
  refine flat_congr (fun k hk=>?_)
  unfold eAll
  rw [eAll1 kept hroot i j k hi hj hk,eAll2 kept i j k hj hk]
 rw [flat_congr step,pull]
 rw [List.singleton_append]
 congr 1
 by_cases h2:0<=frOf kept 2 (i * 256:Nat)
 ·rw [if_pos h2]
  refine flat_congr (fun j hj=>?_)
  rw [if_pos h2,eAll3 kept i j hj,List.singleton_append,show (i * 16+j) * 16=i * 256+j * 16 by omega]
 ·rw [if_neg h2]
  have:(List.range 16).flatMap (fun j=>(if 0<=frOf kept 2 (i * 256:Nat) then [(⟨2,(i * 256+j * 16:Nat),frOf kept 2 (i * 256:Nat) * 16+j⟩:En)] else []) ++ (List.range 16).flatMap (fun k=>eOne kept ((i * 16+j) * 16+k) 3))=(List.range 16).flatMap (fun _=>([]:List En)):=by
   refine flat_congr (fun j hj=>?_)
   rw [if_neg h2,eAll3 kept i j hj,if_neg (fun h3=>h2 (hk.up i j hj (by rw [show i * 256+j * 16=(i * 16+j) * 16 by omega]; exact h3)))]
   rfl
  rw [this]
  simp
def runLen (mk:Nat->Bool) (m p:Nat):Nat:=((List.range (m - p)).takeWhile (fun k=>mk (p+k))).length
def starts (mk:Nat->Bool) (p:Nat):Bool:=mk p && (decide (p=0) || !mk (p - 1))
def runsL (mk:Nat->Bool) (m n:Nat):List (Nat × Nat):=(List.range n).flatMap (fun p=>if starts mk p then [(p,runLen mk m p)] else [])
def runPut (rs:List (Nat × Nat)) (n:Nat):List (Nat × Nat):=match rs.getLast? with
 | some r=>if r.1+r.2=n then rs.dropLast ++ [(r.1,r.2+1)] else rs ++ [(n,1)]
 | none=>[(n,1)]
theorem takeWhile_all {α:Type} {p:α->Bool}:∀ {l:List α},(∀ x ∈ l,p x=true)->l.takeWhile p=l
 | [],_=>rfl
 | x :: r,h=>by rw [List.takeWhile_cons_of_pos (h x (List.mem_cons_self ..)),takeWhile_all (fun y hy=>h y (List.mem_cons_of_mem _ hy))]
theorem takeWhile_snoc {α:Type} {p:α->Bool} (l:List α) (x:α):(l ++ [x]).takeWhile p=if l.all p then l ++ [x].takeWhile p else l.takeWhile p:=by
 induction l with
 | nil=>simp
 | cons y r ih =>
  cases hy:p y
  ·simp [hy]
  ·rw [List.cons_append,List.takeWhile_cons_of_pos hy,ih,List.all_cons,hy,Bool.true_and]
   split
   ·rfl
   ·rw [List.takeWhile_cons_of_pos hy]
theorem runLen_succ (mk:Nat->Bool) (m p:Nat) (hp:p<=m):runLen mk (m+1) p=if (∀ k,k < m - p->mk (p+k)=true)/\mk m=true then m+1 - p else runLen mk m p:=by
 unfold runLen
 rw [show m+1 - p=(m - p)+1 by omega,List.range_succ,takeWhile_snoc]
 have ha:((List.range (m - p)).all fun k=>mk (p+k))=true ↔ ∀ k,k < m - p->mk (p+k)=true:=by
  rw [List.all_eq_true]
  exact ⟨fun h k hk=>h k (List.mem_range.2 hk),fun h k hk=>h k (List.mem_range.1 hk)⟩
 by_cases h1:∀ k,k < m - p->mk (p+k)=true
 ·rw [if_pos (ha.2 h1)]
  have e:p+(m - p)=m:=by omega
  cases h2:mk m
  ·rw [if_neg (fun h=>by cases h.2),List.takeWhile_cons_of_neg (by rw [e,h2]; decide),List.append_nil,takeWhile_all (fun k hk=>h1 k (List.mem_range.1 hk))]
  ·rw [if_pos ⟨h1,rfl⟩,List.takeWhile_cons_of_pos (by rw [e,h2])]
   simp
 ·rw [if_neg (fun h=>h1 (ha.1 h)),if_neg (fun h=>h1 h.1)]
theorem runLen_full (mk:Nat->Bool) (m p:Nat) (h:∀ k,k < m - p->mk (p+k)=true):runLen mk m p=m - p:=by
 unfold runLen
 rw [takeWhile_all (fun k hk=>h k (List.mem_range.1 hk)),List.length_range]
theorem takeWhile_short {α:Type} {p:α->Bool}:∀ {l:List α},(∃ x ∈ l,p x=false)->(l.takeWhile p).length < l.length
 | [],h=>by obtain ⟨x,hx,_⟩:=h; cases hx
 | y :: r,h=>by
  cases hy:p y
  ·rw [List.takeWhile_cons_of_neg (by rw [hy]; decide)]; simp
  ·rw [List.takeWhile_cons_of_pos hy,List.length_cons,List.length_cons]
   have:∃ x ∈ r,p x=false:=by
    obtain ⟨x,hx,hp⟩:=h
    rcases List.mem_cons.1 hx with e | e
    ·rw [e,hy] at hp; cases hp
    ·exact ⟨x,e,hp⟩
   have:=takeWhile_short this
   omega
theorem runLen_short (mk:Nat->Bool) (m p:Nat) (h:¬ ∀ k,k < m - p->mk (p+k)=true):runLen mk m p < m - p:=by
 unfold runLen
 have:∃ k ∈ List.range (m - p),mk (p+k)=false:=by
  refine Classical.byContradiction fun hc=>h fun k hk=>?_
  cases hv:mk (p+k)
  ·exact absurd ⟨k,List.mem_range.2 hk,hv⟩ hc
  ·rfl
 have:=takeWhile_short (p:=fun k=>mk (p+k)) this
 rwa [List.length_range] at this
theorem runsL_succ (mk:Nat->Bool) (m n:Nat):runsL mk m (n+1)=runsL mk m n ++ (if starts mk n then [(n,runLen mk m n)] else []):=by
 unfold runsL
 rw [List.range_succ,List.flatMap_append]
 simp
theorem last_start (mk:Nat->Bool):∀ m,mk m=true->∃ p,p<=m/\starts mk p=true/\(∀ k,k < m+1 - p->mk (p+k)=true)/\∀ q,p < q->q<=m->starts mk q=false
 | 0,h=>⟨0,Nat.le_refl _,by unfold starts; rw [h]; rfl,fun k hk=>by rw [show 0+k=0 by omega]; exact h,fun q h1 h2=>by omega⟩
 | m+1,h=>by
  cases hm:mk m
  ·refine ⟨m+1,Nat.le_refl _,by unfold starts; rw [h,Nat.add_sub_cancel,hm]; simp,fun k hk=>by rw [show m+1+k=m+1 by omega]; exact h,fun q h1 h2=>by omega⟩
  ·obtain ⟨p,h1,h2,h3,h4⟩:=last_start mk m hm
   refine ⟨p,by omega,h2,fun k hk=>?_,fun q hq1 hq2=>?_⟩
   ·by_cases e:k < m+1 - p
    ·exact h3 k e
    ·rw [show p+k=m+1 by omega]; exact h
   ·by_cases e:q<=m
    ·exact h4 q hq1 e
    ·rw [show q=m+1 by omega]
     unfold starts
     rw [Nat.add_sub_cancel,hm]; simp
theorem flat_split {α:Type} (f:Nat->List α) (m p:Nat) (hp:p < m) (h:∀ q,p < q->q < m->f q=[]):(List.range m).flatMap f=(List.range p).flatMap f ++ f p:=by
 have e:m=p+1+(m - p - 1):=by omega
 rw [e,List.range_add,List.flatMap_append,List.range_succ,List.flatMap_append]
 have:(List.map (fun x=>p+1+x) (List.range (m - p - 1))).flatMap f=[]:=by
  rw [List.flatMap_map]
  have:(List.range (m - p - 1)).flatMap (fun x=>f (p+1+x))=(List.range (m - p - 1)).flatMap (fun _=>([]:List α)):=flat_congr (fun i hi=>h _ (by omega) (by omega))
  rw [this]
  simp
 rw [this]
 simp
theorem runsL_grow (mk:Nat->Bool) (m:Nat):runsL mk (m+1) (m+1)=if mk m then runPut (runsL mk m m) m else runsL mk m m:=by
 cases hm:mk m
 ·rw [if_neg (by decide),runsL_succ,if_neg (by unfold starts; rw [hm]; simp),List.append_nil]
  unfold runsL
  refine flat_congr (fun p hp=>?_)
  have rl:runLen mk (m+1) p=runLen mk m p:=by rw [runLen_succ mk m p (by omega),if_neg (fun h=>by rw [hm] at h; cases h.2)]
  rw [rl]
 ·rw [if_pos rfl,runsL_succ]
  rcases Nat.eq_zero_or_pos m with h0 | h0
  ·subst h0
   rw [if_pos (by unfold starts; rw [hm]; rfl)]
   have:runLen mk (0+1) 0=1:=by rw [runLen_full mk (0+1) 0 (fun k hk=>by rw [show 0+k=0 by omega]; exact hm)]
   rw [this]
   rfl
  ·cases hm1:mk (m - 1)
   ·rw [if_pos (by unfold starts; rw [hm,hm1]; simp)]
    have e1:runLen mk (m+1) m=1:=by rw [runLen_full mk (m+1) m (fun k hk=>by rw [show m+k=m by omega]; exact hm)]; omega
    have nf:∀ p,p < m->¬ ∀ k,k < m - p->mk (p+k)=true:=fun p hp h=>by
     have:=h (m - 1 - p) (by omega)
     rw [show p+(m - 1 - p)=m - 1 by omega,hm1] at this
     cases this
    have e2:runsL mk (m+1) m=runsL mk m m:=by
     unfold runsL
     refine flat_congr (fun p hp=>?_)
     have rl:runLen mk (m+1) p=runLen mk m p:=by rw [runLen_succ mk m p (by omega),if_neg (fun h=>nf p hp h.1)]
     rw [rl]
    rw [e1,e2]
    unfold runPut
    cases hl:(runsL mk m m).getLast? with
    | none=>rw [List.getLast?_eq_none_iff] at hl; rw [hl]; rfl
    | some r =>
     have hr:r ∈ runsL mk m m:=List.mem_of_getLast? hl
     unfold runsL at hr
     obtain ⟨p,hp,hr⟩:=List.mem_flatMap.1 hr
     have hp':=List.mem_range.1 hp
     split at hr
     ·rw [List.mem_singleton] at hr
      have:=runLen_short mk m p (nf p hp')
      subst hr
      dsimp only
      rw [if_neg (by omega)]
     ·cases hr
   ·rw [if_neg (by unfold starts; rw [hm,hm1]; simp; omega),List.append_nil]
    obtain ⟨p,h1,h2,h3,h4⟩:=last_start mk (m - 1) hm1
    have h3':∀ k,k < m - p->mk (p+k)=true:=fun k hk=>h3 k (by omega)
    have hsp:∀ M,runsL mk M m=runsL mk M p ++ [(p,runLen mk M p)]:=fun M=>by
     unfold runsL
     rw [flat_split _ m p (by omega) (fun q hq1 hq2=>by rw [h4 q hq1 (by omega)]; rfl),if_pos h2]
    have e2:runsL mk (m+1) p=runsL mk m p:=by
     unfold runsL
     refine flat_congr (fun q hq=>?_)
     have rl:runLen mk (m+1) q=runLen mk m q:=by
      rw [runLen_succ mk m q (by omega),if_neg (fun h=>?_)]
      have hq1:=h.1 (p - 1 - q) (by omega)
      rw [show q+(p - 1 - q)=p - 1 by omega] at hq1
      unfold starts at h2
      rw [hq1] at h2
      simp at h2
      omega
     rw [rl]
    rw [hsp (m+1),hsp m,e2,runLen_full mk m p h3',runLen_succ mk m p (by omega),if_pos ⟨h3',hm⟩]
    unfold runPut
    rw [List.getLast?_append]
    simp only [List.getLast?_singleton,Option.some_or]
    rw [if_pos (by omega),List.dropLast_concat,show m - p+1=m+1 - p by omega]
theorem runs_eq (mk:Nat->Bool):∀ m,((List.range m).filter mk).foldl runPut []=runsL mk m m
 | 0=>rfl
 | m+1=>by
  rw [runsL_grow,List.range_succ,List.filter_append,List.foldl_append,runs_eq mk m]
  cases hm:mk m
  ·simp [hm]
  ·simp [hm]
end Go.Proofs.YtnmhkgmmpkjjeacGreat
