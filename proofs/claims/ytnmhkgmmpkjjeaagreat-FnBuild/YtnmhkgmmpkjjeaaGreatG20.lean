import Derived.WalkKit
import Derived.ProofKit
import Derived.Below
import Derived.Test.YtnmhkgmmpkjjeaaGreatG00
import Derived.Test.YtnmhkgmmpkjjeaaGreatG01
import Derived.Deep.AppendLies
import Derived.Deep.RegionHeld3
import Derived.Deep.DrawnRows
import Derived.Test.YtnmhkgmmpkjjeaaGreatG19
namespace Go.Proofs.YtnmhkgmmpkjjeaaGreat
open Go.ChangeShapes Go.WideShapes Go.ChangeAt Go.RowKit
theorem hidOf {p:Prop} (h:p):Hid p:=h
end Go.Proofs.YtnmhkgmmpkjjeaaGreat
namespace Go.Proofs.YtnmhkgmmpkjjeaaGreat
set_option linter.unusedVariables false
def hB (H:Nat->Ht) (lv p:Nat):Bool:=decide ((H p).k=1/\(lv ≠ 3\/(H p).s=1))
def tpg (lv:Nat):Nat:=if lv=1 then 4096 else if lv=2 then 256 else 16
def epg (lv:Nat):Nat:=if lv=1 then 256 else if lv=2 then 16 else 1
def nd (H:Nat->Ht) (lv p:Nat):Bool:=decide (lv=1) || (List.range (tpg lv)).any (fun k=>hB H lv (p+k))
theorem nd_one (H:Nat->Ht) (p:Nat):nd H 1 p=true:=by unfold nd; rfl
theorem nd_hit {H:Nat->Ht} {lv p k:Nat} (hk:k < tpg lv) (h:hB H lv (p+k)=true):nd H lv p=true:=by
 unfold nd
 rw [Bool.or_eq_true]
 exact .inr (List.any_eq_true.2 ⟨k,List.mem_range.2 hk,h⟩)
theorem nd_none {H:Nat->Ht} {lv p:Nat} (hl:lv ≠ 1) (h:∀ k,k < tpg lv->hB H lv (p+k)=false):nd H lv p=false:=by
 unfold nd
 rw [Bool.or_eq_false_iff]
 refine ⟨decide_eq_false hl,?_⟩
 rw [List.any_eq_false]
 intro k hk
 rw [h k (List.mem_range.1 hk)]; decide
theorem nd_ex {H:Nat->Ht} {lv p:Nat} (hl:lv ≠ 1) (h:nd H lv p=true):∃ k,k < tpg lv/\hB H lv (p+k)=true:=by
 unfold nd at h
 rw [Bool.or_eq_true] at h
 rcases h with h | h
 ·exact absurd (of_decide_eq_true h) hl
 ·obtain ⟨k,hk,h⟩:=List.any_eq_true.1 h
  exact ⟨k,List.mem_range.1 hk,h⟩
theorem nd_up {H:Nat->Ht} {p j:Nat} (hj:j < 16) (h:nd H 3 (p+j * 16)=true):nd H 2 p=true:=by
 obtain ⟨k,hk,hb⟩:=nd_ex (by decide) h
 have hk':k < 16:=hk
 refine nd_hit (k:=j * 16+k) (show j * 16+k < 256 by omega) ?_
 unfold hB at hb ⊢
 simp only [decide_eq_true_eq] at hb ⊢
 rw [<- Nat.add_assoc]
 exact ⟨hb.1,.inl (by decide)⟩
def st (H:Nat->Ht):Nat->Nat->List (Nat × Nat)
 | 0,p=>if nd H 3 p then [(3,p)] else []
 | f+1,p=>if nd H (2 - f) p then (2 - f,p) :: (List.range 16).flatMap (fun i=>st H f (p+i * epg (2 - f))) else []
theorem st_zero (H:Nat->Ht) (p:Nat):st H 0 p=if nd H 3 p=true then [(3,p)] else []:=by unfold st; rfl
def wOne (H:Nat->Ht) (g:Nat):List (Nat × Nat):=(if g % 16=0/\nd H 2 (g * 16)=true then [(2,g * 16)] else []) ++ st H 0 (g * 16)
def wPre (H:Nat->Ht) (g:Nat):List (Nat × Nat):=(1,0) :: (List.range g).flatMap (wOne H)
theorem wPre_succ (H:Nat->Ht) (g:Nat):wPre H (g+1)=wPre H g ++ wOne H g:=by
 unfold wPre
 rw [List.range_succ,List.flatMap_append]
 simp
theorem st0_len (H:Nat->Ht) (p:Nat):(st H 0 p).length<=1:=by unfold st; split <;> simp
theorem wOne_len (H:Nat->Ht) (g:Nat):(wOne H g).length<=2:=by
 unfold wOne
 rw [List.length_append]
 have:=st0_len H (g * 16)
 split <;> simp <;> omega
theorem wPre_len (H:Nat->Ht):∀ g,(wPre H g).length<=1+g * 2
 | 0=>by simp [wPre]
 | g+1=>by
  rw [wPre_succ,List.length_append]
  have:=wPre_len H g
  have:=wOne_len H g
  omega
theorem flat16 {α:Type} (f:Nat->List α):∀ n,(List.range (n * 16)).flatMap f=(List.range n).flatMap (fun i=>(List.range 16).flatMap (fun j=>f (i * 16+j)))
 | 0=>by simp
 | n+1=>by
  rw [Nat.add_mul,Nat.one_mul,List.range_add,List.flatMap_append,flat16 f n,@List.range_succ n,List.flatMap_append,List.flatMap_map]
  simp
theorem flat_congr {α:Type} {f g:Nat->List α} {n:Nat} (h:∀ i,i < n->f i=g i):(List.range n).flatMap f=(List.range n).flatMap g:=by
 induction n with
 | zero=>rfl
 | succ n ih=>rw [List.range_succ,List.flatMap_append,List.flatMap_append,ih (fun i hi=>h i (by omega))]; simp [h n (by omega)]
theorem st1_eq (H:Nat->Ht) (i:Nat):st H 1 (i * 256)=(List.range 16).flatMap (fun j=>wOne H (i * 16+j)):=by
 have e1:st H 1 (i * 256)=if nd H 2 (i * 256) then (2,i * 256) :: (List.range 16).flatMap (fun j=>st H 0 (i * 256+j * 16)) else []:=rfl
 rw [e1]
 cases h2:nd H 2 (i * 256)
 ·symm
  rw [if_neg (by decide)]
  have:(List.range 16).flatMap (fun j=>wOne H (i * 16+j))=(List.range 16).flatMap (fun _=>([]:List (Nat × Nat))):=by
   refine flat_congr (fun j hj=>?_)
   unfold wOne
   have n3:nd H 3 ((i * 16+j) * 16)=false:=by
    cases h3:nd H 3 ((i * 16+j) * 16)
    ·rfl
    ·rw [show (i * 16+j) * 16=i * 256+j * 16 by omega] at h3
     rw [nd_up hj h3] at h2
     cases h2
   rw [if_neg (by
    rintro ⟨hm,hn⟩
    have:j=0:=by omega
    subst this
    rw [show (i * 16+0) * 16=i * 256 by omega,h2] at hn
    cases hn)]
   unfold st
   rw [n3]
   rfl
  rw [this]
  simp
 ·rw [if_pos (by rfl)]
  have e2:(2,i * 256) :: (List.range 16).flatMap (fun j=>st H 0 (i * 256+j * 16))=(List.range 16).flatMap (fun j=>(if j=0 then [(2,i * 256)] else []) ++ st H 0 (i * 256+j * 16)):=by
   rw [show (16:Nat)=15+1 from rfl,List.range_succ_eq_map,List.flatMap_cons,List.flatMap_cons,List.flatMap_map,List.flatMap_map]
   simp
  rw [e2]
  refine flat_congr (fun j hj=>?_)
  unfold wOne
  rw [show (i * 16+j) * 16=i * 256+j * 16 by omega]
  by_cases hj0:j=0
  ·subst hj0
   rw [if_pos rfl,if_pos ⟨by omega,by simpa using h2⟩]
   simp
  ·rw [if_neg hj0,if_neg (fun h=>hj0 (by omega))]
theorem seats_eq (H:Nat->Ht):st H 2 0=wPre H 256:=by
 have e1:st H 2 0=if nd H 1 0 then (1,0) :: (List.range 16).flatMap (fun i=>st H 1 (0+i * 256)) else []:=rfl
 rw [e1,nd_one,if_pos rfl]
 unfold wPre
 rw [show (256:Nat)=16 * 16 from rfl,flat16]
 congr 1
 refine flat_congr (fun i hi=>?_)
 rw [<- st1_eq,Nat.zero_add]
theorem st_len1 (H:Nat->Ht) (p:Nat):(st H 1 p).length<=17:=by
 have e1:st H 1 p=if nd H 2 p then (2,p) :: (List.range 16).flatMap (fun j=>st H 0 (p+j * 16)) else []:=rfl
 have hl:∀ n,((List.range n).flatMap (fun j=>st H 0 (p+j * 16))).length<=n:=by
  intro n
  induction n with
  | zero=>simp
  | succ n ih =>
   rw [List.range_succ,List.flatMap_append,List.length_append]
   have:=st0_len H (p+n * 16)
   simp at ih ⊢
   omega
 rw [e1]
 split
 ·have:=hl 16
  rw [List.length_cons]
  omega
 ·simp
end Go.Proofs.YtnmhkgmmpkjjeaaGreat
namespace Go.Proofs.YtnmhkgmmpkjjeaaGreat
open Go.ChangeShapes Go.WideShapes Go.ChangeAt Go.RowKit
set_option linter.unusedVariables false
attribute [local go_sem ↓] Go.wp_at_zero Go.wp_at_succ
structure P3 where
 fr:Int
 lv:Int
 pg:Int
def P3.val (p:P3):Value:=.agg #[.int .i64 p.fr,.int .i64 p.lv,.int .i64 p.pg]
def pcells (ps:List P3):List Value:=ps.flatMap fun p=>[.int .i64 p.fr,.int .i64 p.lv,.int .i64 p.pg]
def pAt (ps:List P3) (i:Nat):P3:=ps.getD i ⟨0,0,0⟩
theorem pcells_append (a b:List P3):pcells (a ++ b)=pcells a ++ pcells b:=by simp [pcells]
theorem pcells_at (ps:List P3):∀ i,i < ps.length->(pcells ps)[i * 3]?=some (.int .i64 (pAt ps i).fr)/\(pcells ps)[i * 3+1]?=some (.int .i64 (pAt ps i).lv)/\(pcells ps)[i * 3+2]?=some (.int .i64 (pAt ps i).pg):=by
 induction ps with
 | nil=>intro i hi; simp at hi
 | cons p r ih =>
  intro i hi
  cases i with
  | zero=>exact ⟨rfl,rfl,rfl⟩
  | succ i =>
   have h:=ih i (by simpa using hi)
   have e:pcells (p :: r)=[.int .i64 p.fr,.int .i64 p.lv,.int .i64 p.pg] ++ pcells r:=rfl
   have e2:pAt (p :: r) (i+1)=pAt r i:=by simp [pAt]
   rw [e,e2]
   refine ⟨?_,?_,?_⟩
   ·rw [List.getElem?_append_right (by simp; omega),show (i+1) * 3 - List.length [Value.int .i64 p.fr,.int .i64 p.lv,.int .i64 p.pg]=i * 3 by simp; omega]; exact h.1
   ·rw [List.getElem?_append_right (by simp; omega),show (i+1) * 3+1 - List.length [Value.int .i64 p.fr,.int .i64 p.lv,.int .i64 p.pg]=i * 3+1 by simp; omega]; exact h.2.1
   ·rw [List.getElem?_append_right (by simp; omega),show (i+1) * 3+2 - List.length [Value.int .i64 p.fr,.int .i64 p.lv,.int .i64 p.pg]=i * 3+2 by simp; omega]; exact h.2.2
def PRow (w:World) (base:Nat) (v:Value) (ps:List P3):Prop:=w.ownsRow base 67 3 v ps.length (pcells ps)
theorem PRow.form {w:World} {base:Nat} {v:Value} {ps:List P3} (h:PRow w base v ps):∃ a cap,v=.slice a ps.length cap/\(0 < ps.length->∃ g N f,a=some ⟨g,0,none⟩/\base<=g/\w.rowIs g 67 N f/\ps.length * 3<=N/\∀ i,i < ps.length->f (i * 3)=.int .i64 (pAt ps i).fr/\f (i * 3+1)=.int .i64 (pAt ps i).lv/\f (i * 3+2)=.int .i64 (pAt ps i).pg):=by
 rcases h.2 with ⟨rfl,h0⟩ | ⟨g,cap,cur,rfl,hb,hg,hn,hm,hs,ht⟩
 ·rw [h0]; exact ⟨none,0,rfl,fun h=>absurd h (by omega)⟩
 ·refine ⟨_,cap,rfl,fun _=>⟨g,cur.size,fun i=>cur.getD i (.bool false),rfl,hb,⟨cur,hg,rfl,fun i hi=>by simp [hi]⟩,by rw [hs]; omega,fun i hi=>?_⟩⟩
  have hc:∀ j u,j < ps.length * 3->(pcells ps)[j]?=some u->cur.getD j (.bool false)=u:=by
   intro j u hj hu
   rw [<- ht,List.getElem?_take,if_pos hj] at hu
   simp at hu
   simp [Array.getD_eq_getD_getElem?,hu]
  obtain ⟨a,b,c⟩:=pcells_at ps i hi
  exact ⟨hc _ _ (by omega) a,hc _ _ (by omega) b,hc _ _ (by omega) c⟩
theorem below_grown {w w':World} (h:Below w.heap.size w w'):w.grownBy w' none:=⟨h.os,h.tape,h.output,h.size,fun k hk _=>h.block k hk⟩
theorem PRow.below {w w':World} {base:Nat} {v:Value} {ps:List P3} (h:PRow w base v ps) (hb:Below w.heap.size w w'):PRow w' base v ps :=
 World.ownsRow.kept h (below_grown hb) (by cases hv:v.ownBlock <;> simp)
theorem PRow.rebase {w:World} {base base':Nat} {v:Value} {ps:List P3} (h:PRow w base v ps) (hb:base'<=base):PRow w base' v ps:=by
 refine ⟨h.1,?_⟩
 rcases h.2 with hh | ⟨g,cap,cur,e,hg,r⟩
 ·exact .inl hh
 ·exact .inr ⟨g,cap,cur,e,Nat.le_trans hb hg,r⟩
theorem plc_cells {w:World} {b c:Nat} {a:Option Addr} {ps:List P3} (h:PRow w b (.slice a ps.length c) ps) :
  ∃ g,(0 < ps.length->a=some ⟨g,0,none⟩/\g < w.heap.size)/\∀ k F L P,k < ps.length->pAt ps k=⟨F,L,P⟩->∀ wX,Below w.heap.size w wX->wX.cell? ⟨g,k * 3,none⟩=some (.int .i64 F)/\wX.cell? ⟨g,k * 3+1,none⟩=some (.int .i64 L)/\wX.cell? ⟨g,k * 3+2,none⟩=some (.int .i64 P):=by
 obtain ⟨a',c',e,hf⟩:=h.form
 simp only [Value.slice.injEq] at e
 obtain ⟨rfl,_,_⟩:=e
 by_cases h0:0 < ps.length
 ·obtain ⟨g,N,f,rfl,_,hr,hN,hc⟩:=hf h0
  refine ⟨g,fun _=>⟨rfl,hr.lt⟩,fun k F L P hk he wX hX=>?_⟩
  have hr1:wX.rowIs g 67 N f:=hr.of_block (hX.block g hr.lt)
  obtain ⟨x0,x1,x2⟩:=hc k hk
  rw [he] at x0 x1 x2
  exact ⟨(hr1.cell (by omega)).trans (congrArg some x0),(hr1.cell (by omega)).trans (congrArg some x1),(hr1.cell (by omega)).trans (congrArg some x2)⟩
 ·exact ⟨0,fun h=>absurd h h0,fun k F L P hk=>absurd hk (by omega)⟩
end Go.Proofs.YtnmhkgmmpkjjeaaGreat
namespace Go.Proofs.YtnmhkgmmpkjjeaaGreat
def cov (l:Int):Int:=if l=1 then 256 else if l=2 then 16 else 1
theorem cov_bd (l:Int):0<=cov l/\cov l<=256:=by
 unfold cov
 by_cases a:l=1 <;> by_cases b:l=2 <;> simp [a,b]
def wordAt (zs:List Int) (f:Int) (i:Nat):Int:=zs.getD ((f * 16).toNat+i) 0
def leads (zs:List Int) (n:Int) (p:P3) (i:Nat):Bool:=decide (dKind p.lv (wordAt zs p.fr i)=1) && decide (dOut p.lv (wordAt zs p.fr i) < n)
def under (zs:List Int) (p:P3) (i:Nat):P3:=⟨dOut p.lv (wordAt zs p.fr i),p.lv+1,p.pg+i * cov p.lv⟩
def downs (zs:List Int) (n:Int) (rec:P3->List P3) (p:P3) (k:Nat):List P3:=p :: (List.range k).flatMap fun i=>if leads zs n p i then rec (under zs p i) else []
def belowL (zs:List Int) (n:Int):Nat->P3->List P3
 | 0,p=>[p]
 | d+1,p=>downs zs n (belowL zs n d) p 16
def bnd:Nat->Nat
 | 0=>1
 | d+1=>1+16 * bnd d
theorem downs_zero (zs:List Int) (n:Int) (rec:P3->List P3) (p:P3):downs zs n rec p 0=[p]:=rfl
theorem downs_succ (zs:List Int) (n:Int) (rec:P3->List P3) (p:P3) (k:Nat):downs zs n rec p (k+1)=downs zs n rec p k ++ (if leads zs n p k then rec (under zs p k) else []):=by
 simp [downs,List.range_succ]
theorem downs_length (zs:List Int) (n:Int) (rec:P3->List P3) (p:P3) (B:Nat) (h:∀ q,(rec q).length<=B):∀ k,(downs zs n rec p k).length<=1+k * B
 | 0=>by simp [downs]
 | k+1=>by
  rw [downs_succ,List.length_append]
  have:=downs_length zs n rec p B h k
  have h2:(if leads zs n p k then rec (under zs p k) else []).length<=B:=by split <;> simp [h]
  rw [Nat.add_mul]; omega
theorem belowL_length (zs:List Int) (n:Int):∀ d p,(belowL zs n d p).length<=bnd d
 | 0,p=>by simp [belowL,bnd]
 | d+1,p=>downs_length zs n _ p (bnd d) (belowL_length zs n d) 16
def nfr (m:Nat):Int:=if m < 16\/8192 < m\/¬ m % 16=0 then 0 else (m / 16:Nat)
theorem nfr_le (m:Nat):nfr m<=512:=by unfold nfr; split <;> omega
theorem nfr_mul (m:Nat) (h:nfr m ≠ 0):nfr m * 16=m/\1<=nfr m:=by unfold nfr at h ⊢; split <;> simp_all <;> omega
theorem dOut_lo (l x:Int):0<=dOut l x/\dOut l x < 65536:=by unfold dOut; split <;> omega
def soundW (zs:List Int) (n:Int) (p:P3) (i:Nat):Bool:=!(decide (dKind p.lv (wordAt zs p.fr i)=4) || (decide (dKind p.lv (wordAt zs p.fr i)=1) && decide (n<=dOut p.lv (wordAt zs p.fr i))))
def soundP (zs:List Int) (n:Int) (p:P3):Bool:=(List.range 16).all (soundW zs n p)
def freshP (ps:List P3) (i:Nat):Bool:=(List.range i).all fun j=>!decide ((pAt ps i).fr=(pAt ps j).fr)
def treeTo (zs:List Int) (n:Int) (ps:List P3) (k:Nat):Bool:=(List.range k).all fun i=>freshP ps i && soundP zs n (pAt ps i)
end Go.Proofs.YtnmhkgmmpkjjeaaGreat
namespace Go.Proofs.YtnmhkgmmpkjjeaaGreat
set_option linter.unusedVariables false
def ndP (H:Nat->Ht) (p:P3):Bool:=nd H p.lv.toNat p.pg.toNat
def sameS (lv pg:Int) (q:P3):Bool:=decide (q.lv=lv/\q.pg=pg)
def frOf (qs:List P3) (lv pg:Int):Int:=match qs.find? (sameS lv pg) with
 | some q=>q.fr
 | none=>-1
def hasFr (qs:List P3) (f:Int):Bool:=qs.any fun q=>decide (q.fr=f)
theorem hasFr_iff {qs:List P3} {f:Int}:hasFr qs f=true ↔ ∃ q ∈ qs,q.fr=f:=by
 unfold hasFr
 rw [List.any_eq_true]
 exact ⟨fun ⟨q,h,e⟩=>⟨q,h,of_decide_eq_true e⟩,fun ⟨q,h,e⟩=>⟨q,h,decide_eq_true e⟩⟩
theorem hasFr_append (a b:List P3) (f:Int):hasFr (a ++ b) f=(hasFr a f || hasFr b f):=by unfold hasFr; rw [List.any_append]
theorem len_of_has:∀ (f:Nat) (L:List Int),(∀ g:Nat,g < f->(g:Int) ∈ L)->f<=L.length
 | 0,L,_=>Nat.zero_le _
 | f+1,L,h=>by
  have h1:(f:Int) ∈ L:=h f (by omega)
  have:=len_of_has f (L.erase (f:Int)) (fun g hg=>(List.mem_erase_of_ne (by omega)).2 (h g (by omega)))
  rw [List.length_erase_of_mem h1] at this
  have hp:0 < L.length:=List.length_pos_of_mem h1
  omega
theorem low_le {qs:List P3} {f:Nat} (h:∀ g:Nat,g < f->hasFr qs g=true):f<=qs.length:=by
 have:=len_of_has f (qs.map (·.fr)) (fun g hg=>by
  obtain ⟨q,hq,e⟩:=hasFr_iff.1 (h g hg)
  exact List.mem_map.2 ⟨q,hq,e⟩)
 rwa [List.length_map] at this
def lowF (qs:List P3):Nat:=((List.range (qs.length+1)).find? (fun f=>!hasFr qs (f:Nat))).getD 0
theorem find_range_first {p:Nat->Bool}:∀ {n f:Nat},f < n->(∀ g,g < f->p g=false)->p f=true->(List.range n).find? p=some f
 | n,f,hf,h1,h2=>by
  have e:n=f+((n - f - 1)+1):=by omega
  rw [e,List.range_add,List.find?_append,List.range_succ_eq_map,List.map_cons,List.find?_cons_of_pos (by simpa using h2)]
  have:(List.range f).find? p=none:=by
   rw [List.find?_eq_none]
   intro x hx
   rw [h1 x (List.mem_range.1 hx)]; decide
  rw [this]
  rfl
theorem lowF_eq {qs:List P3} {f:Nat} (h1:∀ g:Nat,g < f->hasFr qs g=true) (h2:hasFr qs f=false):lowF qs=f:=by
 unfold lowF
 rw [find_range_first (f:=f) (by have:=low_le h1; omega) (fun g hg=>by rw [h1 g hg]; rfl) (by rw [h2]; rfl)]
 rfl
theorem lowF_ex (qs:List P3):∃ f:Nat,f<=qs.length/\(∀ g:Nat,g < f->hasFr qs g=true)/\hasFr qs f=false:=by
 by_cases h:∃ f:Nat,hasFr qs f=false
 ·obtain ⟨f,hf⟩:=h
  have:∀ n f:Nat,f<=n->hasFr qs f=false->∃ f:Nat,(∀ g:Nat,g < f->hasFr qs g=true)/\hasFr qs f=false:=by
   intro n
   induction n with
   | zero=>intro f h0 h1; exact ⟨f,fun g hg=>absurd hg (by omega),h1⟩
   | succ n ih =>
    intro f h0 h1
    by_cases hh:∃ g:Nat,g < f/\hasFr qs g=false
    ·obtain ⟨g,hg,hg2⟩:=hh
     exact ih g (by omega) hg2
    ·refine ⟨f,fun g hg=>?_,h1⟩
     cases hc:hasFr qs g
     ·exact absurd ⟨g,hg,hc⟩ hh
     ·rfl
  obtain ⟨f,h1,h2⟩:=this f f (Nat.le_refl _) hf
  exact ⟨f,low_le h1,h1,h2⟩
 ·have:qs.length+1<=qs.length:=low_le (fun g _=>by
   cases hc:hasFr qs g
   ·exact absurd ⟨g,hc⟩ h
   ·rfl)
  omega
theorem lowF_spec (qs:List P3):lowF qs<=qs.length/\(∀ g:Nat,g < lowF qs->hasFr qs g=true)/\hasFr qs (lowF qs:Nat)=false:=by
 obtain ⟨f,h0,h1,h2⟩:=lowF_ex qs
 rw [lowF_eq h1 h2]
 exact ⟨h0,h1,h2⟩
def frStep (kept fs:List P3) (s:Nat × Nat):List P3:=if frOf kept s.1 s.2 < 0 then fs ++ [⟨(lowF (kept ++ fs):Nat),s.1,s.2⟩] else fs
def frTo (kept:List P3) (ws:List (Nat × Nat)) (k:Nat):List P3:=(ws.take k).foldl (frStep kept) []
theorem frTo_zero (kept:List P3) (ws:List (Nat × Nat)):frTo kept ws 0=[]:=by unfold frTo; simp
theorem frTo_succ (kept:List P3) (ws:List (Nat × Nat)) (k:Nat) (h:k < ws.length):frTo kept ws (k+1)=frStep kept (frTo kept ws k) ws[k]:=by
 unfold frTo
 rw [List.take_succ_eq_append_getElem h,List.foldl_append]
 rfl
theorem frTo_len (kept:List P3) (ws:List (Nat × Nat)):∀ k,k<=ws.length->(frTo kept ws k).length<=k
 | 0,_=>by rw [frTo_zero]; simp
 | k+1,h=>by
  have:=frTo_len kept ws k (by omega)
  rw [frTo_succ kept ws k (by omega)]
  unfold frStep
  split <;> simp <;> omega
theorem frOf_neg {qs:List P3} {lv pg:Int} (h:∀ q ∈ qs,¬ (q.lv=lv/\q.pg=pg)):frOf qs lv pg=-1:=by
 unfold frOf
 have:qs.find? (sameS lv pg)=none:=by
  rw [List.find?_eq_none]
  intro q hq
  unfold sameS
  rw [decide_eq_false (h q hq)]; decide
 rw [this]
theorem frOf_mem {qs:List P3} {lv pg:Int} (h:0<=frOf qs lv pg):∃ q ∈ qs,q.lv=lv/\q.pg=pg/\q.fr=frOf qs lv pg:=by
 unfold frOf at h ⊢
 cases hf:qs.find? (sameS lv pg) with
 | none=>rw [hf] at h; simp at h
 | some q =>
  have:=List.find?_some hf
  unfold sameS at this
  have h2:=of_decide_eq_true this
  exact ⟨q,List.mem_of_find?_eq_some hf,h2.1,h2.2,rfl⟩
theorem frOf_append {a b:List P3} {lv pg:Int}:frOf (a ++ b) lv pg=if (a.find? (sameS lv pg)).isSome then frOf a lv pg else frOf b lv pg:=by
 unfold frOf
 rw [List.find?_append]
 cases a.find? (sameS lv pg) <;> rfl
end Go.Proofs.YtnmhkgmmpkjjeaaGreat
