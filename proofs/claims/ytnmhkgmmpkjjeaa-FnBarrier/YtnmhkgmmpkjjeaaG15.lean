import Derived.Test.YtnmhkgmmpkjjeaaG11
import Derived.Test.YtnmhkgmmpkjjeaaG05
import Derived.Test.YtnmhkgmmpkjjeaaG14
import Derived.Deep.RegionHeld3
import Derived.Deep.RegionLaw
import Derived.Lib.SliceRun
import Derived.Test.YtnmhkgmmpkjjeaaG00
import Derived.Test.YtnmhkgmmpkjjeaaG06
namespace Go.Proofs.Ytnmhkgmmpkjjeaa
open Go.ChangeShapes Go.WideShapes Go.ChangeAt Go.RowKit
set_option linter.unusedVariables false
theorem Touch.none {S:Nat->Prop} (a:World):Touch S a a:=⟨rfl,rfl,rfl,Nat.le_refl _,fun _ _ _=>rfl⟩
theorem Touch.put {S:Nat->Prop} {a w:World} (h:Touch S a w) (p:Addr) (v:Value) (hp:S p.block):Touch S a (w.setCell p v) :=
 ⟨h.os,h.tape,h.output,by simpa using h.size,fun k hk hn=>(Below.heap_setCell _ _ _ _ (fun e=>hn (by rw [e]; exact hp))).trans (h.block k hk hn)⟩
theorem put4t {w wF:World} {B:Nat} {v0 v1 v2 v3:Value} (h:wF=((((w.setCell ⟨B,0,Option.none⟩ v0).setCell ⟨B,1,Option.none⟩ v1).setCell ⟨B,2,Option.none⟩ v2).setCell ⟨B,3,Option.none⟩ v3)):Touch (fun k=>k=B) w wF:=by
 subst h
 exact Touch.put (Touch.put (Touch.put (Touch.put (Touch.none _) _ _ (by rfl)) _ _ (by rfl)) _ _ (by rfl)) _ _ (by rfl)
theorem put7t {w wF:World} {B:Nat} {v0 v1 v2 v3 v4 v5 v6:Value} (h:wF=(((((((w.setCell ⟨B,0,Option.none⟩ v0).setCell ⟨B,1,Option.none⟩ v1).setCell ⟨B,2,Option.none⟩ v2).setCell ⟨B,3,Option.none⟩ v3).setCell ⟨B,4,Option.none⟩ v4).setCell ⟨B,5,Option.none⟩ v5).setCell ⟨B,6,Option.none⟩ v6)):Touch (fun k=>k=B) w wF:=by
 subst h
 exact Touch.put (Touch.put (Touch.put (Touch.put (Touch.put (Touch.put (Touch.put (Touch.none _) _ _ (by rfl)) _ _ (by rfl)) _ _ (by rfl)) _ _ (by rfl)) _ _ (by rfl)) _ _ (by rfl)) _ _ (by rfl)
def keepTo {α:Type} (E:Elt α) (c:Bool) (i:Int) (xs:List α):Nat->List α
 | 0=>[]
 | k+1=>if c && decide ((k:Int)=i) then keepTo E c i xs k else keepTo E c i xs k ++ [eAt E xs k]
theorem keepTo_skip {α:Type} (E:Elt α) (i:Int) (xs:List α) (k:Nat) (h:(k:Int)=i):keepTo E true i xs (k+1)=keepTo E true i xs k:=by
 conv=>lhs; unfold keepTo
 rw [if_pos (by simp [h])]
theorem keepTo_take {α:Type} (E:Elt α) (c:Bool) (i:Int) (xs:List α) (k:Nat) (h:c=false\/¬ (k:Int)=i):keepTo E c i xs (k+1)=keepTo E c i xs k ++ [eAt E xs k]:=by
 conv=>lhs; unfold keepTo
 rw [if_neg]
 simp only [Bool.and_eq_true,decide_eq_true_eq,not_and]
 rcases h with h | h
 ·intro h2; rw [h] at h2; cases h2
 ·intro _; exact h
theorem keepTo_len {α:Type} (E:Elt α) (c:Bool) (i:Int) (xs:List α):∀ k,(keepTo E c i xs k).length<=k
 | 0=>Nat.le_refl _
 | k+1=>by
  unfold keepTo
  have:=keepTo_len E c i xs k
  split
  ·omega
  ·simp; omega
theorem keepTo_none {α:Type} (E:Elt α) (c:Bool) (i:Int) (xs:List α):∀ k,k<=xs.length->(c=false\/i < 0\/(k:Int)<=i)->keepTo E c i xs k=xs.take k
 | 0,_,_=>by simp [keepTo]
 | k+1,hk,h=>by
  rw [keepTo_take E c i xs k (by rcases h with h | h | h <;> first | exact .inl h | (right; omega)),keepTo_none E c i xs k (by omega) (by rcases h with h | h | h <;> first | exact .inl h | (right; omega)),take_snocE E xs k (by omega)]
theorem keepTo_some {α:Type} (E:Elt α) (j:Nat) (xs:List α) (hj:j < xs.length):∀ k,j+k+1<=xs.length->keepTo E true (j:Int) xs (j+k+1)=xs.take j ++ (xs.drop (j+1)).take k
 | 0,_=>by
  rw [Nat.add_zero,keepTo_skip E _ xs j rfl,keepTo_none E true _ xs j (by omega) (by right; right; omega)]
  simp
 | k+1,h=>by
  rw [show j+(k+1)+1=(j+k+1)+1 by omega,keepTo_take E true _ xs (j+k+1) (by right; omega),keepTo_some E j xs hj k (by omega),List.append_assoc]
  congr 1
  have hk:k < (xs.drop (j+1)).length:=by rw [List.length_drop]; omega
  rw [List.take_succ_eq_append_getElem hk]
  congr 1
  simp only [List.getElem_drop,List.cons.injEq,and_true]
  have e:j+1+k=j+k+1:=by omega
  simp [eAt,e,show j+k+1 < xs.length by omega]
theorem keepTo_at {α:Type} (E:Elt α) (j:Nat) (xs:List α) (hj:j < xs.length):keepTo E true (j:Int) xs xs.length=xs.take j ++ xs.drop (j+1):=by
 obtain ⟨k,hk⟩:∃ k,xs.length=j+k+1:=⟨xs.length - j - 1,by omega⟩
 have h:=keepTo_some E j xs hj k (by omega)
 rw [<- hk] at h
 rw [h,List.take_of_length_le (l:=xs.drop (j+1)) (by rw [List.length_drop]; omega)]
theorem keepTo_all {α:Type} (E:Elt α) (c:Bool) (i:Int) (xs:List α) (h:c=false\/i < 0\/(xs.length:Int)<=i):keepTo E c i xs xs.length=xs:=by
 rw [keepTo_none E c i xs xs.length (Nat.le_refl _) h,List.take_length]
theorem ERow.snocL {α:Type} {E:Elt α} {w:World} {B:Nat} {v:Value} {ys:List α} {x:α} {m:Nat} (hm:m=ys.length+1) (h:w.ownsRow B E.T E.sz v m (ecells E ys ++ E.enc x)):ERow E w B v (ys ++ [x]):=by
 unfold ERow
 have e2:ecells E (ys ++ [x])=ecells E ys ++ E.enc x:=by
  rw [ecells_append]; simp [ecells]
 rw [List.length_append,e2]
 rw [hm] at h
 exact h
def dropM (M:Mach) (which i:Int):Mach:=if validB M then ⟨M.mem,M.pend,keepTo eTlb (decide (which=0)) i M.tlb M.tlb.length,keepTo eWc (decide (which=1)) i M.wc M.wc.length⟩ else zM
theorem dropM_small {M:Mach} (hs:M.Small) (which i:Int):(dropM M which i).Small:=by
 unfold dropM
 split
 ·exact ⟨hs.w,hs.p,Nat.le_trans (keepTo_len _ _ _ _ _) hs.t,Nat.le_trans (keepTo_len _ _ _ _ _) hs.c⟩
 ·exact zM_small
end Go.Proofs.Ytnmhkgmmpkjjeaa
namespace Go.Proofs.Ytnmhkgmmpkjjeaa
open Go.ChangeShapes Go.WideShapes Go.ChangeAt Go.RowKit
set_option linter.unusedVariables false
attribute [local go_sem ↓] Go.wp_at_zero Go.wp_at_succ
theorem rowIs_setCells {b:Nat} {t:TypeId} {n:Nat}:∀ (vs:List Value) (o:Nat) (w:World) (f:Nat->Value),w.rowIs b t n f->(w.setCells b o vs).rowIs b t n (fun j=>if o<=j/\j < o+vs.length then vs.getD (j - o) (.bool false) else f j)
 | [],o,w,f,h=>by
  refine h.congr (fun i hi=>?_)
  rw [if_neg (by simp only [List.length_nil]; omega)]
 | v :: r,o,w,f,h=>by
  rw [World.setCells]
  refine (rowIs_setCells r (o+1) _ _ (h.set o v)).congr (fun i hi=>?_)
  by_cases h1:o+1<=i/\i < o+1+r.length
  ·rw [if_pos h1,if_pos (by simp; omega)]
   obtain ⟨d,hd⟩:∃ d,i - o=d+1:=⟨i - o - 1,by omega⟩
   rw [hd,show i - (o+1)=d by omega]
   simp
  ·rw [if_neg h1]
   by_cases h2:i=o
   ·rw [if_pos h2,if_pos (by simp; omega),h2]
    simp
   ·rw [if_neg h2,if_neg (by simp; omega)]
theorem grown_setCells (b:Nat):∀ (vs:List Value) (o:Nat) (w:World),w.grownBy (w.setCells b o vs) (some b)
 | [],o,w=>⟨rfl,rfl,rfl,Nat.le_refl _,fun _ _ _=>rfl⟩
 | v :: r,o,w=>by
  rw [World.setCells]
  have h:=grown_setCells b r (o+1) (w.setCell ⟨b,o,none⟩ v)
  refine ⟨h.os,h.tape,h.output,by have:=h.size; simpa using this,fun k hk hn=>?_⟩
  rw [h.block k (by simpa using hk) hn]
  exact Below.heap_setCell _ _ _ _ (fun e=>hn (by simpa using e))
theorem grown_two {a b c:World} {row:Option Nat} (h:a.grownBy b row) (k:b.grownBy c row):a.grownBy c row :=
 ⟨k.os.trans h.os,k.tape.trans h.tape,k.output.trans h.output,Nat.le_trans h.size k.size,fun i hi hn=>(k.block i (Nat.lt_of_lt_of_le hi h.size) hn).trans (h.block i hi hn)⟩
theorem run_clear_one {P:Program} (w:World) (t e ty:TypeId) (z:Value) (zs:List Value) (ht:P.underlying t=some (.slice e)) (hv:∀ w,(zeroValue e).run P w=.ok z w) (hz:(Builtin.zeroCells z.cells 1).toList=zs) (h1:∀ v ∈ zs,v.oneCell'=true) (b o c:Nat)
  (hc:∀ j,j < zs.length->(w.cell? ⟨b,o+j,none⟩).isSome=true) (hf:∀ j,j < zs.length->w.frozen? ⟨b,o+j,none⟩=false) :
  (Builtin.clear_ #[t] ty #[.slice (some ⟨b,o,none⟩) 1 c]).run P w=.ok (.tuple #[]) (w.setCells b o zs):=by
 have hst:=run_storeCells_cells (P:=P) b o zs 0 w (by simpa using hc) (by simpa using hf) h1
 simp only [Nat.add_zero] at hst
 simp [Builtin.clear_,run_underlying ht,hv,hz,hst]
theorem eAt_cut {α:Type} (E:Elt α) (xs:List α) (k i:Nat) (hk:k < xs.length) (hi:i < xs.length - 1):eAt E (xs.take k ++ xs.drop (k+1)) i=eAt E xs (if i < k then i else i+1):=by
 unfold eAt
 simp only [List.getD_eq_getElem?_getD]
 by_cases h:i < k
 ·rw [if_pos h,List.getElem?_append_left (by rw [List.length_take]; omega),List.getElem?_take,if_pos h]
 ·rw [if_neg h,List.getElem?_append_right (by rw [List.length_take]; omega),List.getElem?_drop,List.length_take,show k+1+(i - min k xs.length)=i+1 by omega]
theorem cut_length {α:Type} (xs:List α) (k:Nat) (hk:k < xs.length):(xs.take k ++ xs.drop (k+1)).length=xs.length - 1:=by
 rw [List.length_append,List.length_take,List.length_drop]; omega
theorem oneT (ys:List TlbE):∀ u ∈ ecells eTE ys,u.oneCell'=true:=by
 intro u hu
 unfold ecells at hu
 rw [List.mem_flatMap] at hu
 obtain ⟨x,_,hx⟩:=hu
 have hx':u ∈ [.int .i64 x.page,.int .i64 x.size,.bool x.doom,.int .i64 x.out,.int .i64 x.perm]:=hx
 simp only [List.mem_cons,List.not_mem_nil,or_false] at hx'
 rcases hx' with rfl | rfl | rfl | rfl | rfl <;> rfl
theorem zeroT (w:World):(zeroValue 168).run Try.prog w=.ok (.agg #[.int .i64 0,.int .i64 0,.bool false,.int .i64 0,.int .i64 0]) w:=by
 obtain ⟨iE,hiE,hz0,hz1,hz2⟩:=info_parts infoTE
 simp [zeroValue,typeInfo,hiE,hz0]
theorem oneW (ys:List WcE):∀ u ∈ ecells eWE ys,u.oneCell'=true:=by
 intro u hu
 unfold ecells at hu
 rw [List.mem_flatMap] at hu
 obtain ⟨x,_,hx⟩:=hu
 have hx':u ∈ [.int .i64 x.page,.int .i64 (16 * cov x.level),.bool x.doom,.int .i64 x.level,.int .i64 x.table]:=hx
 simp only [List.mem_cons,List.not_mem_nil,or_false] at hx'
 rcases hx' with rfl | rfl | rfl | rfl | rfl <;> rfl
theorem zeroW (w:World):(zeroValue 170).run Try.prog w=.ok (.agg #[.int .i64 0,.int .i64 0,.bool false,.int .i64 0,.int .i64 0]) w:=by
 obtain ⟨iE,hiE,hz0,hz1,hz2⟩:=info_parts infoWE
 simp [zeroValue,typeInfo,hiE,hz0]
theorem keepT_E (i:Int) (xs:List TlbE):∀ k,keepTo eTE true i xs k=keepTo eTlb true i xs k
 | 0=>rfl
 | k+1=>by
  unfold keepTo
  rw [keepT_E i xs k]
  rfl
theorem keepW_E (i:Int) (xs:List WcE):∀ k,keepTo eWE true i xs k=keepTo eWc true i xs k
 | 0=>rfl
 | k+1=>by
  unfold keepTo
  rw [keepW_E i xs k]
  rfl
end Go.Proofs.Ytnmhkgmmpkjjeaa
namespace Go.Proofs.Ytnmhkgmmpkjjeaa
open Go.ChangeShapes Go.WideShapes Go.ChangeAt Go.RowKit
set_option linter.unusedVariables false
def lateTo (M:Mach) (k:Nat):List Int:=(M.pend.take k).foldl (fun z e=>z.set e.addr.toNat e.word) M.mem
theorem lateTo_zero (M:Mach):lateTo M 0=M.mem:=rfl
theorem lateTo_succ (M:Mach) (k:Nat) (hk:k < M.pend.length):lateTo M (k+1)=(lateTo M k).set (eAt eWrite M.pend k).addr.toNat (eAt eWrite M.pend k).word:=by
 unfold lateTo
 rw [List.take_add_one,List.foldl_append]
 have:M.pend[k]?=some (eAt eWrite M.pend k):=by
  unfold eAt
  rw [List.getD_eq_getElem?_getD,List.getElem?_eq_getElem hk]
  rfl
 rw [this]
 rfl
theorem lateTo_all (M:Mach):lateTo M M.pend.length=lateL M:=by
 unfold lateTo lateL
 rw [List.take_length]
theorem lateTo_length (M:Mach):∀ k,k<=M.pend.length->(lateTo M k).length=M.mem.length
 | 0,_=>rfl
 | k+1,hk=>by rw [lateTo_succ M k (by omega),List.length_set]; exact lateTo_length M k (by omega)
theorem lateL_length (M:Mach):(lateL M).length=M.mem.length:=by
 rw [<- lateTo_all]; exact lateTo_length M _ (Nat.le_refl _)
theorem late_read (M:Mach) (A:Nat) (hA:A < M.mem.length) (hp:∀ i,i < M.pend.length->0<=(eAt eWrite M.pend i).addr):∀ k,k<=M.pend.length->(lateTo M k).getD A 0=readTo M A k
 | 0,_=>by simp [lateTo,readTo]
 | k+1,hk=>by
  have ih:=late_read M A hA hp k (by omega)
  have hl:=lateTo_length M k (by omega)
  have h0:=hp k (by omega)
  rw [lateTo_succ M k (by omega)]
  unfold readTo
  rw [List.getD_eq_getElem?_getD,List.getElem?_set]
  by_cases h:(eAt eWrite M.pend k).addr=(A:Int)
  ·rw [if_pos (by omega),if_pos h,if_pos (by omega)]
   rfl
  ·rw [if_neg (by omega),if_neg h,<- List.getD_eq_getElem?_getD]
   exact ih
theorem lateL_read (M:Mach) (A:Nat) (hA:A < M.mem.length) (hp:∀ i,i < M.pend.length->0<=(eAt eWrite M.pend i).addr):(lateL M).getD A 0=readTo M A M.pend.length:=by
 rw [<- lateTo_all]; exact late_read M A hA hp _ (Nat.le_refl _)
end Go.Proofs.Ytnmhkgmmpkjjeaa
namespace Go.Proofs.Ytnmhkgmmpkjjeaa
open Go.ChangeShapes Go.WideShapes Go.ChangeAt Go.RowKit
set_option linter.unusedVariables false
structure OpE where
 kind:Int
 a:Int
 b:Int
 word:Int
def eOp:Elt OpE:=⟨65,4,fun x=>[.int .i64 x.kind,.int .i64 x.a,.int .i64 x.b,.int .u64 x.word],⟨0,0,0,0⟩,by omega,fun _=>rfl⟩
theorem infoOp:(Try.prog.info? 65).map (fun i=>(i.zero,i.size,i.bytes))=some (some (.agg #[.int .i64 0,.int .i64 0,.int .i64 0,.int .u64 0]),4,32):=by kernel_rfl
end Go.Proofs.Ytnmhkgmmpkjjeaa
namespace Go.Proofs.Ytnmhkgmmpkjjeaa
structure OpOk (o:OpE):Prop where
 k:-9223372036854775808<=o.kind/\o.kind<=9223372036854775807
 a:-9223372036854775808<=o.a/\o.a<=9223372036854775807
 b:-9223372036854775808<=o.b/\o.b<=9223372036854775807
 w:0<=o.word/\o.word < 2 ^ 64
def opB (M:Mach) (o:OpE):Bool :=
 if o.kind=1 then decide (0<=o.a/\o.a < M.mem.length/\o.b=0/\M.pend.length < 10000)
 else if o.kind=2 then decide (o.a=0/\o.b=0/\o.word=0)
 else if o.kind=3 then decide (0<=o.a/\o.a < 4096/\1<=o.b/\o.a+o.b<=4096/\o.word=0)
 else if o.kind=4 then decide (0<=o.a/\o.a < nfr M.mem.length/\o.b=0/\o.word=0)
 else false
def plcHas (ps:List P3) (f:Int):Bool:=anyR (fun i=>decide ((pAt ps i).fr=f)) ps.length
def cachT (M:Mach) (pg n:Int) (i:Nat):Bool:=meets (eAt eTlb M.tlb i).page (eAt eTlb M.tlb i).size pg n
def cachW (M:Mach) (lv pg n:Int) (i:Nat):Bool:=decide (lv < (eAt eWc M.wc i).level) && meets (eAt eWc M.wc i).page (16 * cov (eAt eWc M.wc i).level) pg n
def cachedB (M:Mach) (lv pg n:Int):Bool:=anyR (cachT M pg n) M.tlb.length || anyR (cachW M lv pg n) M.wc.length
def plcC (M:Mach) (ps:List P3) (f ix:Int) (i:Nat):Bool:=decide ((pAt ps i).fr=f) && cachedB M (pAt ps i).lv ((pAt ps i).pg+ix * cov (pAt ps i).lv) (cov (pAt ps i).lv)
def oldW (M:Mach) (a:Int):Int:=(lateL M).getD a.toNat 0
def wrCode (M:Mach) (o:OpE):Int :=
 if o.word % 2=0 then 0
 else if oldW M o.a % 2=1 then (if oldW M o.a ≠ o.word/\plcHas (plist (lateL M)) (o.a / 16)=true then 2 else 0)
 else if anyR (plcC M (plist (lateL M)) (o.a / 16) (o.a % 16)) (plist (lateL M)).length=true then 3 else 0
def wcHas (M:Mach) (f:Int):Bool:=anyR (fun i=>decide ((eAt eWc M.wc i).table=f)) M.wc.length
def inUse (M:Mach) (f:Int):Bool:=plcHas (plist M.mem) f || plcHas (plist (lateL M)) f || wcHas M f
def doomT (a b:Int) (e:TlbE):TlbE:=⟨e.page,e.size,e.out,e.perm,e.doom || meets e.page e.size a b⟩
def doomW (a b:Int) (e:WcE):WcE:=⟨e.level,e.page,e.table,e.doom || meets e.page (16 * cov e.level) a b⟩
def opM (M:Mach) (o:OpE):Mach × Int :=
 if opB M o=false then (M,1)
 else if o.kind=1 then (if wrCode M o=0 then ⟨M.mem,M.pend ++ [⟨o.a,o.word⟩],M.tlb,M.wc⟩ else M,wrCode M o)
 else if o.kind=2 then (⟨lateL M,[],M.tlb.filter (fun e=>!e.doom),M.wc.filter (fun e=>!e.doom)⟩,0)
 else if o.kind=3 then (⟨M.mem,M.pend,M.tlb.map (doomT o.a o.b),M.wc.map (doomW o.a o.b)⟩,0)
 else (M,if inUse M o.a then 4 else 0)
def stepR (M:Mach) (o:OpE):Mach × Int:=if validB M then opM M o else (zM,9)
theorem anyR_false (f:Nat->Bool) (n:Nat) (h:∀ j,j < n->f j=false):anyR f n=false:=by
 rw [anyR,List.any_eq_false]
 intro x hx
 simp [h x (List.mem_range.1 hx)]
theorem meets_comm (a n b m:Int):meets a n b m=meets b m a n:=by unfold meets; rw [Bool.and_comm]
theorem opM_small {M:Mach} (hs:M.Small) (hok:WOk M) (o:OpE):(opM M o).1.Small:=by
 have h1:=hok.p
 have h2:=lateL_length M
 unfold opM
 split
 ·exact hs
 ·split
  ·dsimp only
   split
   ·exact ⟨hs.w,by simp; omega,hs.t,hs.c⟩
   ·exact hs
  ·split
   ·exact ⟨by dsimp only; rw [h2]; exact hs.w,by simp,Nat.le_trans (List.length_filter_le _ _) hs.t,Nat.le_trans (List.length_filter_le _ _) hs.c⟩
   ·split
    ·exact ⟨hs.w,hs.p,by simpa using hs.t,by simpa using hs.c⟩
    ·exact hs
theorem plcHas_root (zs:List Int) (h:nfr zs.length ≠ 0):plcHas (plist zs) 0=true:=by
 have e:plist zs=belowL zs (nfr zs.length) 2 ⟨0,1,0⟩:=by unfold plist; rw [if_neg h]
 rw [e]
 refine anyR_true _ 0 _ (by simp [belowL,downs]) ?_
 simp [belowL,downs,pAt]
end Go.Proofs.Ytnmhkgmmpkjjeaa
namespace Go.Proofs.Ytnmhkgmmpkjjeaa
open Go.ChangeShapes Go.WideShapes Go.ChangeAt Go.RowKit
set_option linter.unusedVariables false
theorem keepTo_sub {α:Type} (E:Elt α) (c:Bool) (i:Int) (xs:List α):∀ k,k<=xs.length->∀ x ∈ keepTo E c i xs k,x ∈ xs
 | 0,_,x,h=>by simp [keepTo] at h
 | k+1,hk,x,h=>by
  unfold keepTo at h
  split at h
  ·exact keepTo_sub E c i xs k (by omega) x h
  ·rcases List.mem_append.1 h with h | h
   ·exact keepTo_sub E c i xs k (by omega) x h
   ·rw [List.mem_singleton.1 h]; exact eAt_in E (by omega)
theorem keepT_vm {M:Mach} (h:VM M) (c:Bool) (i:Int):VM ⟨M.mem,M.pend,keepTo eTlb c i M.tlb M.tlb.length,M.wc⟩ :=
 ⟨h.n0,h.word,h.p,Nat.le_trans (keepTo_len _ _ _ _ _) h.t,h.c,h.pend,fun e he=>h.tlb e (keepTo_sub _ _ _ _ _ (Nat.le_refl _) e he),h.wc⟩
theorem keepW_vm {M:Mach} (h:VM M) (c:Bool) (i:Int):VM ⟨M.mem,M.pend,M.tlb,keepTo eWc c i M.wc M.wc.length⟩ :=
 ⟨h.n0,h.word,h.p,h.t,Nat.le_trans (keepTo_len _ _ _ _ _) h.c,h.pend,h.tlb,fun e he=>h.wc e (keepTo_sub _ _ _ _ _ (Nat.le_refl _) e he)⟩
theorem late_word {M:Mach} (h:VM M):∀ x ∈ lateL M,0<=x/\x < 2 ^ 64:=by
 have key:∀ (ps:List WriteE) (zs:List Int),(∀ e ∈ ps,0<=e.word/\e.word < 2 ^ 64)->(∀ x ∈ zs,0<=x/\x < 2 ^ 64)->∀ x ∈ ps.foldl (fun z e=>z.set e.addr.toNat e.word) zs,0<=x/\x < 2 ^ 64:=by
  intro ps
  induction ps with
  | nil=>intro zs _ hz; exact hz
  | cons e r ih =>
   intro zs he hz
   refine ih _ (fun e' h'=>he e' (List.mem_cons_of_mem _ h')) (fun x hx=>?_)
   rcases List.mem_or_eq_of_mem_set hx with hx | rfl
   ·exact hz x hx
   ·exact he e List.mem_cons_self
 exact key M.pend M.mem (fun e he=>(h.pend e he).2) h.word
theorem opM_vm {M:Mach} (h:VM M) (o:OpE) (ho:OpOk o):VM (opM M o).1:=by
 have h1:=h.p
 have h2:=lateL_length M
 unfold opM
 split
 ·exact h
 ·rename_i hb
  split
  ·rename_i hk
   dsimp only
   split
   ·unfold opB at hb
    rw [if_pos hk] at hb
    simp only [Bool.not_eq_false,decide_eq_true_eq] at hb
    refine ⟨h.n0,h.word,by simp; omega,h.t,h.c,fun e he=>?_,h.tlb,h.wc⟩
    rcases List.mem_append.1 he with he | he
    ·exact h.pend e he
    ·rw [List.mem_singleton.1 he]; exact ⟨⟨hb.1,hb.2.1⟩,ho.w⟩
   ·exact h
  ·split
   ·refine ⟨by dsimp only; rw [h2]; exact h.n0,late_word h,by simp,Nat.le_trans (List.length_filter_le _ _) h.t,Nat.le_trans (List.length_filter_le _ _) h.c,fun e he=>by simp at he,fun e he=>h.tlb e (List.mem_filter.1 he).1,fun e he=>?_⟩
    dsimp only
    rw [h2]
    exact h.wc e (List.mem_filter.1 he).1
   ·split
    ·refine ⟨h.n0,h.word,h.p,by simpa using h.t,by simpa using h.c,h.pend,fun e he=>?_,fun e he=>?_⟩
     ·obtain ⟨x,hx,rfl⟩:=List.mem_map.1 he
      exact h.tlb x hx
     ·obtain ⟨x,hx,rfl⟩:=List.mem_map.1 he
      exact h.wc x hx
    ·exact h
end Go.Proofs.Ytnmhkgmmpkjjeaa
namespace Go.Proofs.Ytnmhkgmmpkjjeaa
open Go.ChangeShapes Go.WideShapes Go.ChangeAt Go.RowKit
set_option linter.unusedVariables false
attribute [local go_sem ↓] Go.wp_at_zero Go.wp_at_succ
end Go.Proofs.Ytnmhkgmmpkjjeaa
