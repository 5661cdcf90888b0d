import Derived.Test.YtnmhkgmmpkjjeaaRows
import Derived.WalkKit
import Derived.ProofKit
import Derived.OpenShut
import Derived.Below
import Derived.Deep.OwnRows
import Derived.Deep.QuietTactic
import Derived.BigQuiet
import Derived.Test.YtnmhkgmmpkjjeaaG00
import Derived.Deep.AppendLies
import Derived.Deep.RegionHeld3
import Derived.Deep.DrawnRows
import Derived.Test.YtnmhkgmmpkjjeaaG03
import Derived.Laws.Bits64b
namespace Go.Proofs.Ytnmhkgmmpkjjeaa
open Go.ChangeShapes Go.WideShapes Go.ChangeAt Go.RowKit
set_option linter.unusedVariables false
theorem info_u64:(Try.prog.info? 61).map (fun i=>(i.zero,i.size,i.bytes))=some (some (.int .u64 0),1,8):=by kernel_rfl
def IRow (w:World) (g:Nat) (zs:List Int):Prop:=w.rowIs g 61 zs.length (fun i=>.int .u64 (zs.getD i 0))
theorem IRow.cell {w:World} {g:Nat} {zs:List Int} (h:IRow w g zs) {i:Nat} (hi:i < zs.length):w.cell? ⟨g,i,none⟩=some (.int .u64 (zs.getD i 0)):=World.rowIs.cell h hi
theorem IRow.below {w w':World} {g B:Nat} {zs:List Int} (h:IRow w g zs) (hb:Below B w w') (hg:g < B):IRow w' g zs:=World.rowIs.of_block h (hb.block g hg)
theorem IRow.lt {w:World} {g:Nat} {zs:List Int} (h:IRow w g zs):g < w.heap.size:=World.rowIs.lt h
theorem bDrewN {B:Nat} {a w:World} (h:Below B a w) (n:Nat):Below B a (w.drewN n):=⟨h.os,h.tape,h.output,h.size,h.block⟩
end Go.Proofs.Ytnmhkgmmpkjjeaa
namespace Go.Proofs.Ytnmhkgmmpkjjeaa
open Go.ChangeShapes Go.WideShapes Go.ChangeAt Go.RowKit
set_option linter.unusedVariables false
def Src (w:World) (v:Value) (zs:List Int):Prop :=
 ∃ (a:Option Addr) (cap:Nat),v=.slice a zs.length cap/\(0 < zs.length->∃ b o,a=some ⟨b,o,none⟩/\b < w.heap.size/\∀ i,i < zs.length->w.cell? ⟨b,o+i,none⟩=some (.int .u64 (zs.getD i 0)))
end Go.Proofs.Ytnmhkgmmpkjjeaa
namespace Go.Proofs.Ytnmhkgmmpkjjeaa
open Go.ChangeShapes Go.WideShapes Go.ChangeAt Go.RowKit
set_option linter.unusedVariables false
attribute [local go_sem ↓] Go.wp_at_zero Go.wp_at_succ
def eWord:Elt Int:=⟨61,1,fun x=>[.int .u64 x],0,by omega,fun _=>rfl⟩
theorem IRow.erow {w:World} {g base:Nat} {zs:List Int} (h:IRow w g zs) (hb:base<=g) (hn:zs.length<=1048576):ERow eWord w base (.slice (some ⟨g,0,none⟩) zs.length zs.length) zs:=by
 refine ERow.of_row (cap:=zs.length) rfl hb h (by simp [eWord]) (Nat.le_refl _) (by unfold maxLen; omega) ?_
 intro i hi j hj
 have:j=0:=by simp [eWord] at hj; omega
 subst this
 simp [eCell,eWord,eAt]
theorem eWord_form {w:World} {base:Nat} {v:Value} {zs:List Int} (h:ERow eWord w base v zs):∃ a cap,v=.slice a zs.length cap/\(0 < zs.length->∃ g N f,a=some ⟨g,0,none⟩/\base<=g/\w.rowIs g 61 N f/\zs.length<=N/\∀ i,i < zs.length->f i=.int .u64 (zs.getD i 0)):=by
 obtain ⟨a,c,e,ha⟩:=h.form
 refine ⟨a,c,e,fun h0=>?_⟩
 obtain ⟨g,N,f,p,q,r,s,t⟩:=ha h0
 refine ⟨g,N,f,p,q,r,by simpa [eWord] using s,fun i hi=>?_⟩
 have:=t i hi 0 (by decide)
 simpa [eCell,eWord,eAt] using this
def markWord (s:Int) (i _j:Nat):Value:=.int .u64 (s+i)
end Go.Proofs.Ytnmhkgmmpkjjeaa
namespace Go.Proofs.Ytnmhkgmmpkjjeaa
open Go.ChangeShapes Go.WideShapes Go.ChangeAt Go.RowKit
set_option linter.unusedVariables false
attribute [local go_sem ↓] Go.wp_at_zero Go.wp_at_succ
structure P3 where
 fr:Int
 lv:Int
 pg:Int
def P3.val (p:P3):Value:=.agg #[.int .i64 p.fr,.int .i64 p.lv,.int .i64 p.pg]
def pcells (ps:List P3):List Value:=ps.flatMap fun p=>[.int .i64 p.fr,.int .i64 p.lv,.int .i64 p.pg]
def pAt (ps:List P3) (i:Nat):P3:=ps.getD i ⟨0,0,0⟩
theorem pcells_length (ps:List P3):(pcells ps).length=ps.length * 3:=by
 induction ps with
 | nil=>rfl
 | cons p r ih=>simp only [pcells,List.flatMap_cons,List.length_append,List.length_cons] at ih ⊢; simp at ih ⊢; omega
theorem pcells_append (a b:List P3):pcells (a ++ b)=pcells a ++ pcells b:=by simp [pcells]
theorem pcells_at (ps:List P3):∀ i,i < ps.length->(pcells ps)[i * 3]?=some (.int .i64 (pAt ps i).fr)/\(pcells ps)[i * 3+1]?=some (.int .i64 (pAt ps i).lv)/\(pcells ps)[i * 3+2]?=some (.int .i64 (pAt ps i).pg):=by
 induction ps with
 | nil=>intro i hi; simp at hi
 | cons p r ih =>
  intro i hi
  cases i with
  | zero=>exact ⟨rfl,rfl,rfl⟩
  | succ i =>
   have h:=ih i (by simpa using hi)
   have e:pcells (p :: r)=[.int .i64 p.fr,.int .i64 p.lv,.int .i64 p.pg] ++ pcells r:=rfl
   have e2:pAt (p :: r) (i+1)=pAt r i:=by simp [pAt]
   rw [e,e2]
   refine ⟨?_,?_,?_⟩
   ·rw [List.getElem?_append_right (by simp; omega),show (i+1) * 3 - List.length [Value.int .i64 p.fr,.int .i64 p.lv,.int .i64 p.pg]=i * 3 by simp; omega]; exact h.1
   ·rw [List.getElem?_append_right (by simp; omega),show (i+1) * 3+1 - List.length [Value.int .i64 p.fr,.int .i64 p.lv,.int .i64 p.pg]=i * 3+1 by simp; omega]; exact h.2.1
   ·rw [List.getElem?_append_right (by simp; omega),show (i+1) * 3+2 - List.length [Value.int .i64 p.fr,.int .i64 p.lv,.int .i64 p.pg]=i * 3+2 by simp; omega]; exact h.2.2
def PRow (w:World) (base:Nat) (v:Value) (ps:List P3):Prop:=w.ownsRow base 63 3 v ps.length (pcells ps)
theorem PRow.form {w:World} {base:Nat} {v:Value} {ps:List P3} (h:PRow w base v ps):∃ a cap,v=.slice a ps.length cap/\(0 < ps.length->∃ g N f,a=some ⟨g,0,none⟩/\base<=g/\w.rowIs g 63 N f/\ps.length * 3<=N/\∀ i,i < ps.length->f (i * 3)=.int .i64 (pAt ps i).fr/\f (i * 3+1)=.int .i64 (pAt ps i).lv/\f (i * 3+2)=.int .i64 (pAt ps i).pg):=by
 rcases h.2 with ⟨rfl,h0⟩ | ⟨g,cap,cur,rfl,hb,hg,hn,hm,hs,ht⟩
 ·rw [h0]; exact ⟨none,0,rfl,fun h=>absurd h (by omega)⟩
 ·refine ⟨_,cap,rfl,fun _=>⟨g,cur.size,fun i=>cur.getD i (.bool false),rfl,hb,⟨cur,hg,rfl,fun i hi=>by simp [hi]⟩,by rw [hs]; omega,fun i hi=>?_⟩⟩
  have hc:∀ j u,j < ps.length * 3->(pcells ps)[j]?=some u->cur.getD j (.bool false)=u:=by
   intro j u hj hu
   rw [<- ht,List.getElem?_take,if_pos hj] at hu
   simp at hu
   simp [Array.getD_eq_getD_getElem?,hu]
  obtain ⟨a,b,c⟩:=pcells_at ps i hi
  exact ⟨hc _ _ (by omega) a,hc _ _ (by omega) b,hc _ _ (by omega) c⟩
theorem below_grown {w w':World} (h:Below w.heap.size w w'):w.grownBy w' none:=⟨h.os,h.tape,h.output,h.size,fun k hk _=>h.block k hk⟩
theorem PRow.below {w w':World} {base:Nat} {v:Value} {ps:List P3} (h:PRow w base v ps) (hb:Below w.heap.size w w'):PRow w' base v ps :=
 World.ownsRow.kept h (below_grown hb) (by cases hv:v.ownBlock <;> simp)
theorem PRow.rebase {w:World} {base base':Nat} {v:Value} {ps:List P3} (h:PRow w base v ps) (hb:base'<=base):PRow w base' v ps:=by
 refine ⟨h.1,?_⟩
 rcases h.2 with hh | ⟨g,cap,cur,e,hg,r⟩
 ·exact .inl hh
 ·exact .inr ⟨g,cap,cur,e,Nat.le_trans hb hg,r⟩
theorem grown_set {w wr:World} {g:Nat} (h:w.grownBy wr (some g)) (i:Nat) (v:Value):w.grownBy (wr.setCell ⟨g,i,none⟩ v) (some g) :=
 ⟨h.os,h.tape,h.output,by simpa using h.size,fun j hj hne=>(Below.heap_setCell _ _ _ _ (by intro e; exact hne (by rw [e]))).trans (h.block j hj hne)⟩
theorem plc_cells {w:World} {b c:Nat} {a:Option Addr} {ps:List P3} (h:PRow w b (.slice a ps.length c) ps) :
  ∃ g,(0 < ps.length->a=some ⟨g,0,none⟩/\g < w.heap.size)/\∀ k F L P,k < ps.length->pAt ps k=⟨F,L,P⟩->∀ wX,Below w.heap.size w wX->wX.cell? ⟨g,k * 3,none⟩=some (.int .i64 F)/\wX.cell? ⟨g,k * 3+1,none⟩=some (.int .i64 L)/\wX.cell? ⟨g,k * 3+2,none⟩=some (.int .i64 P):=by
 obtain ⟨a',c',e,hf⟩:=h.form
 simp only [Value.slice.injEq] at e
 obtain ⟨rfl,_,_⟩:=e
 by_cases h0:0 < ps.length
 ·obtain ⟨g,N,f,rfl,_,hr,hN,hc⟩:=hf h0
  refine ⟨g,fun _=>⟨rfl,hr.lt⟩,fun k F L P hk he wX hX=>?_⟩
  have hr1:wX.rowIs g 63 N f:=hr.of_block (hX.block g hr.lt)
  obtain ⟨x0,x1,x2⟩:=hc k hk
  rw [he] at x0 x1 x2
  exact ⟨(hr1.cell (by omega)).trans (congrArg some x0),(hr1.cell (by omega)).trans (congrArg some x1),(hr1.cell (by omega)).trans (congrArg some x2)⟩
 ·exact ⟨0,fun h=>absurd h h0,fun k F L P hk=>absurd hk (by omega)⟩
end Go.Proofs.Ytnmhkgmmpkjjeaa
namespace Go.Proofs.Ytnmhkgmmpkjjeaa
def cov (l:Int):Int:=if l=1 then 256 else if l=2 then 16 else 1
theorem cov_bd (l:Int):0<=cov l/\cov l<=256:=by
 unfold cov
 by_cases a:l=1 <;> by_cases b:l=2 <;> simp [a,b]
def wordAt (zs:List Int) (f:Int) (i:Nat):Int:=zs.getD ((f * 16).toNat+i) 0
def leads (zs:List Int) (n:Int) (p:P3) (i:Nat):Bool:=decide (dKind p.lv (wordAt zs p.fr i)=1) && decide (dOut p.lv (wordAt zs p.fr i) < n)
def under (zs:List Int) (p:P3) (i:Nat):P3:=⟨dOut p.lv (wordAt zs p.fr i),p.lv+1,p.pg+i * cov p.lv⟩
def downs (zs:List Int) (n:Int) (rec:P3->List P3) (p:P3) (k:Nat):List P3:=p :: (List.range k).flatMap fun i=>if leads zs n p i then rec (under zs p i) else []
def belowL (zs:List Int) (n:Int):Nat->P3->List P3
 | 0,p=>[p]
 | d+1,p=>downs zs n (belowL zs n d) p 16
def bnd:Nat->Nat
 | 0=>1
 | d+1=>1+16 * bnd d
theorem downs_zero (zs:List Int) (n:Int) (rec:P3->List P3) (p:P3):downs zs n rec p 0=[p]:=rfl
theorem downs_succ (zs:List Int) (n:Int) (rec:P3->List P3) (p:P3) (k:Nat):downs zs n rec p (k+1)=downs zs n rec p k ++ (if leads zs n p k then rec (under zs p k) else []):=by
 simp [downs,List.range_succ]
theorem downs_length (zs:List Int) (n:Int) (rec:P3->List P3) (p:P3) (B:Nat) (h:∀ q,(rec q).length<=B):∀ k,(downs zs n rec p k).length<=1+k * B
 | 0=>by simp [downs]
 | k+1=>by
  rw [downs_succ,List.length_append]
  have:=downs_length zs n rec p B h k
  have h2:(if leads zs n p k then rec (under zs p k) else []).length<=B:=by split <;> simp [h]
  rw [Nat.add_mul]; omega
theorem belowL_length (zs:List Int) (n:Int):∀ d p,(belowL zs n d p).length<=bnd d
 | 0,p=>by simp [belowL,bnd]
 | d+1,p=>downs_length zs n _ p (bnd d) (belowL_length zs n d) 16
def nfr (m:Nat):Int:=if m < 16\/8192 < m\/¬ m % 16=0 then 0 else (m / 16:Nat)
theorem nfr_le (m:Nat):nfr m<=512:=by unfold nfr; split <;> omega
theorem nfr_mul (m:Nat) (h:nfr m ≠ 0):nfr m * 16=m/\1<=nfr m:=by unfold nfr at h ⊢; split <;> simp_all <;> omega
theorem dOut_lo (l x:Int):0<=dOut l x/\dOut l x < 65536:=by unfold dOut; split <;> omega
def soundW (zs:List Int) (n:Int) (p:P3) (i:Nat):Bool:=!(decide (dKind p.lv (wordAt zs p.fr i)=4) || (decide (dKind p.lv (wordAt zs p.fr i)=1) && decide (n<=dOut p.lv (wordAt zs p.fr i))))
def soundP (zs:List Int) (n:Int) (p:P3):Bool:=(List.range 16).all (soundW zs n p)
def freshP (ps:List P3) (i:Nat):Bool:=(List.range i).all fun j=>!decide ((pAt ps i).fr=(pAt ps j).fr)
def treeTo (zs:List Int) (n:Int) (ps:List P3) (k:Nat):Bool:=(List.range k).all fun i=>freshP ps i && soundP zs n (pAt ps i)
end Go.Proofs.Ytnmhkgmmpkjjeaa
namespace Go.Proofs.Ytnmhkgmmpkjjeaa
open Go.ChangeShapes Go.WideShapes Go.ChangeAt Go.RowKit
set_option linter.unusedVariables false
def BAt (w:World) (a:Option Addr) (cs:List Int):Prop :=
 0 < cs.length->∃ b o,a=some ⟨b,o,none⟩/\b < w.heap.size/\∀ i,i < cs.length->w.cell? ⟨b,o+i,none⟩=some (.int .u8 (cs.getD i 0))
theorem BAt.below {w w':World} {a:Option Addr} {cs:List Int} (h:BAt w a cs) (hb:Below w.heap.size w w'):BAt w' a cs:=by
 intro h0
 obtain ⟨b,o,rfl,hbl,hc⟩:=h h0
 exact ⟨b,o,rfl,Nat.lt_of_lt_of_le hbl hb.size,fun i hi=>(hb.cell hbl).trans (hc i hi)⟩
def Byt (cs:List Int):Prop:=cs.length<=1048576/\∀ i,0<=cs.getD i 0/\cs.getD i 0 < 256
def tkX (cs:List Int) (p:Nat):Int:=cs.getD (p % cs.length) 0 * 131+cs.getD ((p * 7+3) % cs.length) 0 * 1117+p * 29+((p / cs.length:Nat):Int) * 53
def tkV (cs:List Int) (p:Nat) (n:Int):Int :=
 if n < 1\/cs.length=0 then 0
 else if p < cs.length then (if 256 < n then (cs.getD p 0 * 251+cs.getD ((p+1) % cs.length) 0 * 7+p) % n else cs.getD p 0 % n)
 else bits .xor .i64 (tkX cs p) (tkX cs p / 64) % n
theorem tkX_bd (cs:List Int) (p:Nat) (hc:Byt cs) (hp:p<=1000000):0<=tkX cs p/\tkX cs p < 1000000000:=by
 have h1:=hc.2 (p % cs.length)
 have h2:=hc.2 ((p * 7+3) % cs.length)
 have h3:p / cs.length<=p:=Nat.div_le_self _ _
 unfold tkX
 generalize p / cs.length=D at *
 omega
theorem xor_bd (x y:Int) (hx:0<=x) (hx1:x < 1073741824) (hy:0<=y) (hy1:y < 1073741824):0<=bits .xor .i64 x y/\bits .xor .i64 x y < 1073741824:=by
 obtain ⟨a,rfl⟩:=Int.eq_ofNat_of_zero_le hx
 obtain ⟨b,rfl⟩:=Int.eq_ofNat_of_zero_le hy
 have hz:a ^^^ b < 2 ^ 30:=Nat.xor_lt_two_pow (by omega) (by omega)
 have h1:(BitVec.ofInt 64 (a:Int)).toNat=a:=by
  rw [BitVec.ofInt_natCast,BitVec.toNat_ofNat]; exact Nat.mod_eq_of_lt (by omega)
 have h2:(BitVec.ofInt 64 (b:Int)).toNat=b:=by
  rw [BitVec.ofInt_natCast,BitVec.toNat_ofNat]; exact Nat.mod_eq_of_lt (by omega)
 have e:bits .xor .i64 (a:Int) (b:Int)=((a ^^^ b:Nat):Int):=by
  show IntKind.i64.wrap ((BitVec.ofInt 64 (a:Int) ^^^ BitVec.ofInt 64 (b:Int)).toNat:Int)=_
  rw [BitVec.toNat_xor,h1,h2,IntKind.wrap_i64]
  omega
 rw [e]
 omega
theorem tkV_bd (cs:List Int) (p:Nat) (n:Int) (hn:1<=n) (hc:Byt cs) (hp:p<=1000000):0<=tkV cs p n/\tkV cs p n < n:=by
 have hm:∀ x:Int,0<=x % n/\x % n < n:=fun x=>⟨Int.emod_nonneg _ (by omega),Int.emod_lt_of_pos _ (by omega)⟩
 unfold tkV
 split
 ·omega
 ·split
  ·split
   ·exact hm _
   ·exact hm _
  ·exact hm _
set_option maxHeartbeats 1000000 in
theorem take_any (a:Option Addr) (cap:Nat) (cs:List Int) (p:Nat) (n:Int) (w:World) (hc:Byt cs) (hp:p<=1000000) (hn:n<=1000000) (hs:BAt w a cs) :
  Calls Try.prog 37 #[.slice a cs.length cap,.int .i64 (p:Int),.int .i64 n] w fun e w'=>e=.returned (.tuple #[.int .i64 (tkV cs p n),.int .i64 ((p:Int)+1)])/\Below w.heap.size w w':=by
 have hl:=hc.1
 unfold tkV
 by_cases h1:n < 1
 ·rw [if_pos (.inl h1)]
  clear hs hc
  go_enter Try.func37,Try.ntmps37
  go_wp2
  go_ret2
  exact ⟨rfl,Below.refl _ _⟩
 ·by_cases h2:cs.length=0
  ·rw [if_pos (.inr h2)]
   rw [h2]
   clear hs hc h2
   go_enter Try.func37,Try.ntmps37
   go_wp2
   go_ret2
   exact ⟨rfl,Below.refl _ _⟩
  ·rw [if_neg (by omega)]
   obtain ⟨b,o,rfl,hbl,hcell⟩:=hs (by omega)
   clear hs
   have L0:((cs.length:Int) == 0)=false:=beq_eq_false_iff_ne.2 (by omega)
   have N0:(n == 0)=false:=by simp; omega
   by_cases h3:p < cs.length
   ·rw [if_pos h3]
    have c0:=hcell p h3
    have g0:=hc.2 p
    have L1:(0:Int)<=(p:Int):=by omega
    have L2:(p:Int) < (cs.length:Int):=by omega
    by_cases h4:256 < n
    ·rw [if_pos h4]
     have j0:(p+1) % cs.length < cs.length:=Nat.mod_lt _ (by omega)
     have c1:=hcell _ j0
     have g1:=hc.2 ((p+1) % cs.length)
     have E1:((p:Int)+1).tmod (cs.length:Int)=(((p+1) % cs.length:Nat):Int):=by
      rw [Int.tmod_eq_emod_of_nonneg (by omega)]; simp
     generalize (p+1) % cs.length=J at *
     generalize cs.getD p 0=X at *
     generalize cs.getD J 0=Y at *
     have J1:(0:Int)<=(J:Int):=by omega
     have J2:(J:Int) < (cs.length:Int):=by omega
     have E2:(X * 251+Y * 7+(p:Int)).tmod n=(X * 251+Y * 7+(p:Int)) % n:=Int.tmod_eq_emod_of_nonneg (by omega)
     clear hcell hc h2
     go_enter Try.func37,Try.ntmps37
     go_wp2
     go_quiet (fail)
     go_wp2
     go_ret2
     exact ⟨rfl,bDrewN (Below.refl _ _) _⟩
    ·rw [if_neg h4]
     generalize cs.getD p 0=X at *
     have E2:X.tmod n=X % n:=Int.tmod_eq_emod_of_nonneg (by omega)
     clear hcell hc h2
     go_enter Try.func37,Try.ntmps37
     go_wp2
     go_ret2
     exact ⟨rfl,Below.refl _ _⟩
   ·rw [if_neg h3]
    have hX:=tkX_bd cs p hc hp
    have i0:p % cs.length < cs.length:=Nat.mod_lt _ (by omega)
    have j0:(p * 7+3) % cs.length < cs.length:=Nat.mod_lt _ (by omega)
    have c0:=hcell _ i0
    have c1:=hcell _ j0
    have g0:=hc.2 (p % cs.length)
    have g1:=hc.2 ((p * 7+3) % cs.length)
    have q0:p / cs.length<=p:=Nat.div_le_self _ _
    have E1:(p:Int).tmod (cs.length:Int)=((p % cs.length:Nat):Int):=by
     rw [Int.tmod_eq_emod_of_nonneg (by omega)]; simp
    have E2:((p:Int) * 7+3).tmod (cs.length:Int)=(((p * 7+3) % cs.length:Nat):Int):=by
     rw [Int.tmod_eq_emod_of_nonneg (by omega)]; simp
    have E3:(p:Int).tdiv (cs.length:Int)=((p / cs.length:Nat):Int):=by
     rw [Int.tdiv_eq_ediv_of_nonneg (by omega)]; simp
    have eX:tkX cs p=cs.getD (p % cs.length) 0 * 131+cs.getD ((p * 7+3) % cs.length) 0 * 1117+p * 29+((p / cs.length:Nat):Int) * 53:=rfl
    have hxb:=xor_bd (tkX cs p) (tkX cs p / 64) hX.1 (by omega) (by omega) (by omega)
    generalize p % cs.length=I at *
    generalize (p * 7+3) % cs.length=J at *
    generalize p / cs.length=D at *
    generalize cs.getD I 0=X at *
    generalize cs.getD J 0=Y at *
    generalize tkX cs p=Z at *
    have I1:(0:Int)<=(I:Int):=by omega
    have I2:(I:Int) < (cs.length:Int):=by omega
    have J1:(0:Int)<=(J:Int):=by omega
    have J2:(J:Int) < (cs.length:Int):=by omega
    have P1:¬ (p:Int) < (cs.length:Int):=by omega
    have e4:X * 131+Y * 1117+(p:Int) * 29+(D:Int) * 53=Z:=eX.symm
    have E5:Z.tdiv 64=Z / 64:=Int.tdiv_eq_ediv_of_nonneg (by omega)
    have E6:(bits .xor .i64 Z (Z / 64)).tmod n=bits .xor .i64 Z (Z / 64) % n:=Int.tmod_eq_emod_of_nonneg (by omega)
    clear hcell hc h2 eX
    go_enter Try.func37,Try.ntmps37
    go_wp2
    go_ret2
    exact ⟨rfl,Below.refl _ _⟩
theorem size_any (a:Option Addr) (cap:Nat) (cs:List Int) (per lo hi:Int) (w:World) (hl:cs.length<=1048576) (hp:1<=per) (hlo:0<=lo) (hlo1:lo<=100000) :
  Calls Try.prog 138 #[.slice a cs.length cap,.int .i64 per,.int .i64 lo,.int .i64 hi] w fun e w'=>e=.returned (.int .i64 (if hi < lo+(cs.length:Int) / per then hi else lo+(cs.length:Int) / per))/\Below w.heap.size w w':=by
 have N0:(per == 0)=false:=by simp; omega
 have E1:(cs.length:Int).tdiv per=(cs.length:Int) / per:=Int.tdiv_eq_ediv_of_nonneg (by omega)
 have B0:0<=(cs.length:Int) / per:=Int.ediv_nonneg (by omega) (by omega)
 have B1:(cs.length:Int) / per<=(cs.length:Int):=Int.ediv_le_self _ (by omega)
 generalize (cs.length:Int) / per=D at *
 by_cases h:hi < lo+D
 ·rw [if_pos h]
  go_enter Try.func138,Try.ntmps138
  go_wp2
  go_ret
  exact ⟨rfl,Below.refl _ _⟩
 ·rw [if_neg h]
  go_enter Try.func138,Try.ntmps138
  go_wp2
  go_ret
  exact ⟨rfl,Below.refl _ _⟩
end Go.Proofs.Ytnmhkgmmpkjjeaa
